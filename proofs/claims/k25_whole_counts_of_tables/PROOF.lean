import PyProof.Rows.All
import Wide.All
import OpenK.AllK
import Wide.FinOn
import Lean
import PyProof.EqAt
import PyProof.EqKinds
import PyProof.TupleCall
import PyProof.NsDelKeeps
import PyProof.RulesAs
import PyProof.SumAny
import PyProof.WalksMore
import PyProof.WalkInts
import PyProof.EnumMake
import KE.KMinKey
import PyProof.Rows.Range3
import PyProof.Rows.SortStr
import PyProof.StrLawsIn
import KE.KIntText
import PyProof.ListRange
import KE.KLam
import PyProof.SetRoads
import PyProof.Rows.SetObj
import PyProof.CollectWalk
import PyProof.DictItems
import PyProof.Rows.TupDisplay
import KE.KDictSum
import PyProof.Rows.SetFrom
import PyProof.DictCompW
import PyProof.ListStr
import PyProof.ZipIter
import PyProof.DelItemList
import OpenK.ZGo
import PySem.Challenge.RW_quadwords_k25_whole_counts_of_tables
set_option genSizeOf false
set_option compiler.extract_closed false
set_option maxRecDepth 100000
set_option maxHeartbeats 4000000
abbrev AH:=@Nat.le_refl
abbrev AI:=@List.length_map
abbrev AJ:=@List.mem_map
abbrev AK:=@List.length_append
abbrev AL:=@List.getElem?_eq_getElem
abbrev AM:=@List.mem_singleton
abbrev AN:=@List.mem_cons
abbrev AO:=@List.mem_append
abbrev AQ:=@List.map_cons
abbrev AR:=@Nat.ne_of_lt
abbrev AS:=@List.mem_cons_self
abbrev AU:=@List.map_append
abbrev AV:=@List.mem_append_right
abbrev AW:=@List.getElem?_map
abbrev AX:=@Nat.le_trans
abbrev AY:=@List.mem_cons_of_mem
abbrev AZ:=@List.length_take
abbrev Ba:=@List.getD_eq_getElem?_getD
abbrev Bb:=@List.size_toArray
abbrev Bc:=@List.getElem?_eq_some_iff
abbrev Be:=@Nat.lt_of_lt_of_le
abbrev Bf:=@List.sum_cons
abbrev Bg:=@List.mem_of_getElem?
abbrev Bh:=@List.take_add_one
abbrev Bi:=@Nat.zero_le
abbrev Bj:=@List.length_cons
abbrev Bk:=@List.take_of_length_le
abbrev Bl:=@Nat.lt_irrefl
abbrev Bm:=@Bool.false_ne_true
abbrev Bn:=@List.map_map
abbrev Bo:=@List.mem_append_left
abbrev Bp:=@List.append_nil
abbrev Bq:=@List.getElem_mem
abbrev Br:=@Array.length_toList
abbrev Bs:=@List.filter_cons
abbrev Bt:=@List.not_mem_nil
abbrev Bu:=@Int.toNat_natCast
abbrev Bv:=@List.length_eq_zero_iff
abbrev Bw:=@List.take_length
abbrev Bx:=@Bool.and_eq_true
abbrev By:=@List.append_assoc
abbrev Bz:=@List.map_congr_left
abbrev BA:=@Nat.le_of_lt
abbrev BB:=@List.find?_cons
abbrev BC:=@List.mem_range
abbrev BD:=@Nat.succ_le_succ
abbrev BE:=@Array.getElem?_toList
abbrev BF:=@Bool.false_eq_true
abbrev BG:=@List.length_range
abbrev BH:=@Option.map_eq_some_iff
abbrev BI:=@List.mem_filter
abbrev BJ:=@Bool.eq_iff_iff
abbrev BK:=@List.nodup_cons
abbrev BL:=@Nat.le_succ
abbrev BM:=@List.length_reverse
abbrev BN:=@Nat.lt_of_le_of_lt
abbrev BO:=@List.any_eq_true
abbrev BP:=@List.length_pos_iff
abbrev BQ:=@List.mem_flatMap
abbrev BR:=@List.filter_append
abbrev BS:=@Nat.lt_succ_of_lt
abbrev BU:=@List.all_eq_true
abbrev BV:=@Array.getElem?_eq_getElem
abbrev BW:=@List.mem_filterMap
abbrev BX:=@List.length_drop
abbrev BY:=@Nat.lt_succ_self
abbrev BZ:=@List.drop_left
abbrev Ca:=@List.take_take
abbrev Cb:=@List.map_nil
abbrev Cc:=@List.lookup_cons
abbrev Cd:=@List.length_nil
abbrev Ce:=@List.length_filter_le
abbrev Cf:=@List.mem_iff_getElem
abbrev Cg:=@Nat.zero_add
abbrev Ci:=@List.getElem?_eq_none
abbrev Cj:=@Int.emod_nonneg
abbrev Ck:=@Int.emod_lt_of_pos
abbrev Cm:=@Nat.ne_of_gt
abbrev Co:=@List.getElem?_append_right
abbrev Cq:=@List.any_cons
abbrev Cr:=@List.getElem?_toArray
abbrev Cs:=@List.mem_of_mem_take
abbrev Ct:=@Nat.min_eq_left
abbrev Cv:=@Int.zero_add
abbrev Cy:=@Option.isSome_iff_exists
abbrev Cz:=@List.length_replicate
abbrev CA:=@Nat.min_le_left
abbrev CB:=@List.foldl_cons
abbrev CC:=@List.sum_append
abbrev CD:=@List.pairwise_map
abbrev CF:=@Bool.not_true
abbrev CG:=@List.reverse_append
abbrev CH:=@List.flatMap_cons
abbrev CI:=@List.take_zero
abbrev CJ:=@List.filterMap_cons
abbrev CK:=@List.getElem?_set_self
abbrev CL:=@List.getElem?_set_ne
abbrev CM:=@List.getElem?_append_left
abbrev CN:=@Nat.lt_trans
abbrev CO:=@List.drop_zero
abbrev CP:=@Int.le_refl
abbrev CQ:=@Array.getElem?_eq_none
abbrev CT:=@Bool.eq_false_iff
abbrev CU:=@Array.perm_iff_toList_perm
abbrev CV:=@List.take_append_drop
abbrev CW:=@List.take_left
abbrev CY:=@Int.natCast_add
abbrev CZ:=@List.map_inj_right
abbrev Dc:=@List.range_succ
abbrev Dd:=@Nat.zero_lt_succ
abbrev De:=@List.pairwise_cons
abbrev Df:=@Nat.le_of_eq
abbrev Dg:=@List.getElem?_range
abbrev Dh:=@Array.getElem?_eq_some_iff
abbrev Di:=@Bool.and_eq_true_iff
abbrev Dj:=@Nat.add_assoc
abbrev Dk:=@List.eq_nil_or_concat
abbrev Dl:=@List.concat_eq_append
abbrev Dm:=@List.flatten_append
abbrev Do:=@List.reverse_reverse
abbrev Dp:=@List.append_inj
abbrev Dq:=@Nat.pow_le_pow_right
abbrev Dt:=@Nat.zero_mul
abbrev Du:=@List.nodup_append
abbrev Dv:=@List.getElem?_of_mem
abbrev Dw:=@List.mem_of_mem_drop
abbrev Dx:=@Nat.min_eq_right
abbrev Dy:=@Nat.le_add_right
abbrev Dz:=@List.reverse_cons
abbrev DA:=@List.any_map
abbrev DC:=@List.filter_nil
abbrev DE:=@List.any_eq_false
abbrev DG:=@Array.mem_toList_iff
abbrev DH:=@List.of_mem_zip
abbrev DI:=@List.getElem?_replicate
abbrev DJ:=@Nat.min_le_right
abbrev DN:=@List.length_set
abbrev DO:=@List.length_dropLast
abbrev DP:=@Nat.le_of_not_lt
abbrev DQ:=@List.forIn_cons
abbrev DR:=@Option.isSome_map
abbrev DS:=@List.nodup_nil
abbrev DT:=@List.filterMap_append
abbrev DV:=@Int.toNat_of_nonneg
abbrev DW:=@List.flatten_cons
abbrev DX:=@List.filterMap_map
abbrev DY:=@List.pairwise_singleton
abbrev DZ:=@List.le_antisymm
abbrev Ea:=@Nat.le_succ_of_le
abbrev Eb:=@List.ext_getElem?
abbrev Ed:=@List.zip_cons_cons
abbrev Ee:=@List.zipIdx_cons
abbrev Ef:=@List.getElem_map
abbrev Eg:=@Array.forIn_toList
abbrev Eh:=@List.append_eq_nil_iff
abbrev Ei:=@List.filter_sublist
abbrev Ej:=@Nat.mul_le_mul
abbrev Ek:=@List.min?_eq_none_iff
abbrev El:=@List.countP_cons
abbrev Em:=@List.drop_of_length_le
abbrev En:=@Nat.not_lt_zero
abbrev Eo:=@Nat.mod_eq_of_lt
abbrev Ep:=@Int.natCast_nonneg
abbrev Er:=@Int.fdiv_eq_ediv_of_nonneg
abbrev Es:=@Option.isNone_iff_eq_none
abbrev Et:=@List.eraseIdxIfInBounds_toArray
abbrev Eu:=@List.length_eraseIdx_of_lt
abbrev Ew:=@List.mem_of_find?_eq_some
abbrev Ex:=@List.mem_zipIdx_iff_getElem?
abbrev Ey:=@List.perm_ext_iff_of_nodup
abbrev Ez:=@List.eraseIdx_eq_take_drop_succ
abbrev EA:=@PySem.wpAny_bind
abbrev EB:=@PySem.wpAny_pure
abbrev EC:=@PyProof.Rows.wpS_bind
abbrev ED:=@PyProof.Rows.wpS_pure
abbrev EE:=@if_neg
abbrev EF:=@if_pos
abbrev EG:=@decide_eq_true
abbrev EH:=@decide_eq_false
abbrev EI:=@PySem.wpAny_mono
abbrev EJ:=@PySem.wpAny_holding
abbrev EK:=@of_decide_eq_true
abbrev EL:=@PySem.Heap.lt_size
abbrev EM:=@Option.some.inj
abbrev EN:=@PySem.F.plainAttrs_list
abbrev EO:=@PySem.F.plainAttrs_str
abbrev ER:=@PySem.F.type_list_append
abbrev ES:=@PySem.F.slot_list_append
abbrev ET:=@PyProof.Rows.KeyOrd.kle_refl
abbrev EU:=@PyProof.Rows.KeyOrd.kle_of_klt
abbrev EV:=@PySem.W.mg_of
abbrev EW:=@PySem.W.mg_none_of
abbrev EY:=@PySem.wpAny_setState_of
abbrev EZ:=@Ne.symm
abbrev Fb:=@PySem.Heap.get?_push_of_some
abbrev Fc:=@PySem.Heap.get?_push_size
abbrev Fe:=@Bool.eq_iff_iff
abbrev Ff:=@Nat.succ_le_succ
abbrev Fg:=@Int.natCast_nonneg
abbrev Fh:=@PySem.wpAny_attempt
abbrev Fi:=@PySem.wpAny_call_entry
abbrev Fj:=@PySem.Heap.size_push
abbrev Fk:=@PySem.wpAny_rule
abbrev Fl:=@beq_iff_eq
abbrev Fm:=@Int.toNat_of_nonneg
local macro_rules | `(tactic| walk_at "i") => `(tactic| first | exact .inl rfl | exact .inr rfl | assumption)
local macro_rules | `(tactic| walk_at "o") => `(tactic| first | assumption | exact AX (by assumption) (by decide) | lia)
set_option Elab.async false
set_option maxHeartbeats 0
set_option linter.all false
set_option hygiene false in
local macro_rules|`((wq X))=>`(wpAny (model X.prog X.w) X.A)
local macro_rules|`(($f:ident $x*))=>do
 let n:=f.getId
 let some (g,t):=(([(`Fn,"_____xxx"),(`Fv,"_q"),(`aA,"________xxxx"),(`aD,"___xx"),(`aI,"____x"),(`aJ,"_________xRxxxddrr"),(`aL,"_______xxxF"),(`aN,"____x"),(`aO,"_____x"),(`aR,"______xRxxx"),(`aU,"____q"),(`aW,"______________cxxfffy"),(`aY,"_____________xxdhRxdrr"),(`ag,"_____xx"),(`ah,"____q"),(`ak,"___x"),(`ao,"__x_nROw"),(`ax,"__x____nROxrw"),(`ay,"_____xxr"),(`az,"________xxx"),(`bB,"________vcxxxy"),(`bC,"___x"),(`bS,"________xxx"),(`bb,"______Rxxr"),(`bf,"__________xxxx"),(`bg,"____x"),(`br,"_________xRxxxddrr"),(`bx,"____xr"),(`cG,"______________x___cxxfffnRORyw"),(`cN,"_________xxx"),(`dC,"____________xxdhRxxd"),(`dD,"______cxrr"),(`dF,"________xxx"),(`dG,"___xy"),(`dO,"__x__Rxxd"),(`dP,"________xxxx"),(`dY,"____x"),(`eB,"__x__RxxRdd"),(`fJ,"_______xx"),(`fM,"_______xx"),(`fm,"______xxrrr"),(`fu,"___q"),(`gg,"______vxx"),(`gm,"_________xxxxR"),(`hV,"_______Rxxrr"),(`iE,"_______xxxrrr"),(`iI,"____x"),(`ig,"_____xxx"),(`ip,"___x"),(`jA,"______xxF"),(`jK,"____q"),(`jO,"______xxxF"),(`jd,"____xxRRx"),(`jg,"____________KRxxxxxxrrrrr"),(`ji,"________xrr"),(`kL,"____x"),(`lA,"____________xxxxxx"),(`lQ,"____________xxxxxxrrrrr"),(`lh,"______xxRRxxxF"),(`mI,"_____xxRxxr"),(`mq,"_______xx"),(`nO,"________xxrr"),(`ng,"______________cxxfffy"),(`oE,"___x"),(`oT,"___________xxxxxxxRRRxRRRxcxfRxxxrrrr"),(`oe,"_____xRRxd"),(`ot,"________Rxxr"),(`pD,"_______xxxy"),(`pN,"____x"),(`qZ,"___xG"),(`qx,"_________xxRRxxxxR"),(`rM,"____________________x___cxxffffffnRORxyw"),(`rp,"______xx"),(`sA,"__xx___________cnRRdRRxRr"),(`sL,"______xx"),(`vT,"_________xxxxxrr")]:List (Lean.Name×String)).map fun a=>(a.1,a))++[(`ac,`ax,"__x____nRoxrw"),(`ad,`ao,"__x_xROI"),(`am,`ao,"__x_nRow")]|>.lookup n|Lean.Macro.throwUnsupported
 let mut i:=0
 let mut r:Array (Lean.TSyntax `term):=#[]
 for c in t.toList do
  if c=='q' then i:=i+1
  else if c=='x'||c=='f' then
   let some y:=x[i]?|Lean.Macro.throwUnsupported
   r:=r.push (<-if c=='x' then pure y else `(fun _ _ _ _=>$y))
   i:=i+1
  else r:=r.push (<-match c with|'G'=>`(fun _=>rfl)|'r'=>`(by rfl)|'w'=>`(by walk_at "i")|'R'=>`(rfl)|'O'=>`(Or.inl rfl)|'d'=>`(by decide)|'F'=>`(fun _ _=>rfl)|'I'=>`(.inr rfl)|'o'=>`(Or.inr rfl)|'y'=>`(by intro _;rfl)|'v'=>pure (Lean.mkIdent `PassesOwn.never)|'n'=>pure (Lean.mkIdent `nd)|'c'=>pure (Lean.mkIdent `hc)|'h'=>pure (Lean.mkIdent `hr)|'K'=>pure (Lean.mkIdent `K)|_=>`(_))
 if i !=x.size then Lean.Macro.throwUnsupported
 `(@$(if g==n then f else Lean.mkIdent g) $r*)
namespace L2
open PySem PySem.Spec PyProof.Rows
abbrev Key:=Sum Int Str
def HN:Key->Value->Bool
 |.inl k,v=>Value.isInt k v
 |.inr x,v=>Value.isStrOf x v
def keyH (w:World):Key->Int
 |.inl k=>hashInt k
 |.inr x=>hashStr w x
theorem Fw:∀{k:Key}{v:Value},HN k v=true->(∃i t,k=Sum.inl i/\v=Value.int i t)\/(∃x t,k=Sum.inr x/\v=Value.str x t)
 |.inl i,v,h=>by
  obtain⟨t,e⟩:=Value.isInt_shape (k:=i) (v:=v) h;exact .inl ⟨i,t,rfl,e⟩
 |.inr x,v,h=>by
  obtain⟨t,e⟩:=Value.isStrOf_shape (x:=x) (v:=v) h;exact .inr ⟨x,t,rfl,e⟩
theorem pA(i:Int)(t:Tok):HN (.inl i) (.int i t)=true:=by simp[HN,Value.isInt]
theorem nj(x:Str)(t:Tok):HN (.inr x) (.str x t)=true:=by simp[HN,Value.isStrOf]
theorem vJ(a b:Int):decide ((Sum.inl a:Key)=Sum.inl b)=(a==b):=by
 by_cases e:a=b
 ·subst e;simp
 ·have h:¬(Sum.inl a:Key)=Sum.inl b:=fun q=>e (Sum.inl.inj q);rw[EH h];exact(beq_eq_false_iff_ne.mpr e).symm
theorem vj(a b:Str):decide ((Sum.inr a:Key)=Sum.inr b)=decide (a=b):=by
 by_cases e:a=b
 ·subst e;simp
 ·have h:¬(Sum.inr a:Key)=Sum.inr b:=fun q=>e (Sum.inr.inj q);rw[EH h,EH e]
theorem uU(a:Int)(b:Str):decide ((Sum.inl a:Key)=Sum.inr b)=false:=EH (fun q=>nomatch q)
theorem vw(a:Str)(b:Int):decide ((Sum.inr a:Key)=Sum.inl b)=false:=EH (fun q=>nomatch q)
def aF (prog:Program)(w:World):PySem.KeyKind prog w Key where
 is:=HN
 hash:=keyH w
 inj:=fun v a b ha hb=>by
  rcases Fw ha with ⟨i,t,rfl,rfl⟩|⟨x,t,rfl,rfl⟩
  ·rcases Fw hb with ⟨j,u,rfl,e⟩|⟨y,u,rfl,e⟩
   ·injection e with e1 _;rw[e1]
   ·exact nomatch e
  ·rcases Fw hb with ⟨j,u,rfl,e⟩|⟨y,u,rfl,e⟩
   ·exact nomatch e
   ·injection e with e1 _;rw[e1]
 byValue:=fun k v h=>by
  rcases Fw h with ⟨i,t,rfl,rfl⟩|⟨x,t,rfl,rfl⟩<;>rfl
 pyHash:=fun hv h=>by
  rcases Fw hv with ⟨i,t,rfl,rfl⟩|⟨x,t,rfl,rfl⟩
  ·exact wpAny_pyHash_int h
  ·exact wpAny_pyHash_str h
 eqBool:=fun hu hv h=>by
  rcases Fw hu with ⟨i,t,rfl,rfl⟩|⟨x,t,rfl,rfl⟩
  ·rcases Fw hv with ⟨j,u,rfl,rfl⟩|⟨y,u,rfl,rfl⟩
   ·rw[vJ] at h;exact wpAny_eqBool_int h
   ·rw[uU] at h;exact SeqAt.EqAt.int_str i t y u _ _ _ _ h
  ·rcases Fw hv with ⟨j,u,rfl,rfl⟩|⟨y,u,rfl,rfl⟩
   ·rw[vw] at h;exact SeqAt.EqAt.str_int x t j u _ _ _ _ h
   ·rw[vj] at h;exact wpAny_eqBool_str h
 «strs»:=fun k x t v h=>by
  rcases Fw h with ⟨i,u,rfl,e⟩|⟨y,u,rfl,e⟩
  ·exact nomatch e
  ·injection e with e1 _;subst e1;cases v<;>rfl
theorem jt(prog:Program)(w:World)(i:Int)(t:Tok):(aF prog w).is (.inl i) (.int i t)=true:=pA i t
theorem jE(prog:Program)(w:World)(x:Str)(t:Tok):(aF prog w).is (.inr x) (.str x t)=true:=nj x t
inductive V where
 |non|bl (b:Bool)|int(i:Int)|str(x:Str)|byt(b:Array UInt8)|flt(b:UInt64)|ref(a:Addr)|ty(n:String)
 deriving DecidableEq
def RelV:V->Value->Prop
 |.non,u=>u=Value.none
 |.bl b,u=>u=Value.bool b
 |.int i,u=>∃t,u=Value.int i t
 |.str x,u=>∃t,u=Value.str x t
 |.byt b,u=>∃t,u=Value.bytes b t
 |.flt b,u=>∃t,u=Value.float b t
 |.ref a,u=>u=Value.ref a
 |.ty n,u=>u=Value.type n
abbrev Vals:List V->List Value->Prop:=Paired RelV
theorem Vals.length{xs:List V}{us:List Value}(r:Vals xs us):xs.length=us.length:=Paired.length r
theorem Vals.get:∀{xs:List V}{us:List Value}{i:Nat}{x:V},Vals xs us->xs[i]?=some x->∃u,us[i]?=some u/\RelV x u
 |_,_,_,_,.nil,e=>by simp at e
 |_,_,0,_,.cons r _,e=>by simp at e;subst e;exact⟨_,rfl,r⟩
 |_,_,i+1,x,.cons _ t,e=>by
  obtain⟨u,h1,h2⟩:=Vals.get (i:=i) (x:=x) t (by simpa using e);exact⟨u,by simpa using h1,h2⟩
theorem Vals.set{x:V}{u:Value}(r:RelV x u):∀{xs:List V}{us:List Value}(i:Nat),Vals xs us->Vals (xs.set i x) (us.set i u)
 |_,_,_,.nil=>.nil
 |_,_,0,.cons _ t=>.cons r t
 |_,_,i+1,.cons q t=>.cons q (Vals.set r i t)
theorem Vals.append:∀{xs ys:List V}{us ws:List Value},Vals xs us->Vals ys ws->Vals (xs++ys) (us++ws)
 |_,_,_,_,.nil,s=>s
 |_,_,_,_,.cons r t,s=>.cons r (Vals.append t s)
theorem Vals.take:∀{xs:List V}{us:List Value}(n:Nat),Vals xs us->Vals (xs.take n) (us.take n)
 |_,_,0,_=>.nil
 |_,_,_+1,.nil=>.nil
 |_,_,n+1,.cons r t=>.cons r (Vals.take n t)
theorem Vals.drop:∀{xs:List V}{us:List Value}(n:Nat),Vals xs us->Vals (xs.drop n) (us.drop n)
 |_,_,0,r=>r
 |_,_,_+1,.nil=>.nil
 |_,_,n+1,.cons _ t=>Vals.drop n t
def HK:Option V->Option Value->Prop
 |some v,some u=>RelV v u
 |none,none=>True
 |_,_=>False
def KV {κ:Type}:List (κ×V)->List (κ×Value)->Prop:=Paired fun(p:κ×V) (q:κ×Value)=>p.1=q.1/\RelV p.2 q.2
def kV:Key->V
 |.inl i=>.int i
 |.inr x=>.str x
inductive HO where
 |lst (xs:List V)
 |tup (xs:List V)
 |dK (kvs:List (Key×V))|dT(kvs:List (List Key×V))
 |set (S:Int->Bool)(n:Nat)
 |ins (C dx:Addr)(fs:List (Str×V))
 |own (x:Addr)
 |xd (fs:List (Str×V))
 |met (f x:Addr)
 |rng (lo hi:Int)
 |frz (o:Obj)(u:HO)
 |tbl (ps:Array Value)
 |ext (φ:Heap->Prop)
abbrev Hp:=Addr->Option HO
def upd (H:Hp)(a:Addr)(o:HO):Hp:=fun b=>if b=a then some o else H b
theorem ae{H:Hp}{a:Addr}{o:HO}:upd H a o a=some o:=by unfold upd;rw[EF rfl]
theorem ai{H:Hp}{a b:Addr}{o:HO}(h:b≠a):upd H a o b=H b:=by unfold upd;rw[EE h]
theorem ql{H:Hp}{a:Addr}{o u:HO}:upd (upd H a o) a u=upd H a u:=by
 funext b;unfold upd;split<;>rfl
theorem bD{H:Hp}{a b:Addr}{o u:HO}(h:H a=some o)(h':H b=some u)(d:o≠u):a≠b:=by
 intro e;subst e;rw[h] at h';exact d (EM h')
theorem aB{H:Hp}{a b:Addr}{o:HO}(h:H a=some o)(h':H b=none):a≠b:=by
 intro e;subst e;rw[h] at h';cases h'
section
variable (P:Program)(w:World)
def Fz(H:Hp)(h:Heap)(a:Addr):HO->Prop
 |.lst xs=>xs.length<=sizeLine/\∃(its:List Value)(n:Nat),Vals xs its/\h.get? a=some {cls:=.type "list",data:=.seq its.toArray n}
 |.tup xs=>xs.length<=sizeLine/\∃its:List Value,Vals xs its/\IsTup h a its.toArray
 |.dK kvs=>kvs.length<=sizeLine/\(a==sysModules)=false/\∃vs,KV kvs vs/\h.DictOf (aF P w) a vs
 |.dT kvs=>kvs.length<=sizeLine/\(a==sysModules)=false/\∃xs:List (List Key×Addr×Value),
   Paired (fun(p:List Key×V) (q:List Key×Addr×Value)=>p.1=q.1/\H q.2.1=some (.tup (p.1.map kV))/\RelV p.2 q.2.2) kvs xs /\
   ∃o es ep,h.get? a=some o/\o.ExactDict/\o.data=.dict es ep/\es.toList=xs.map (entryOfKey (tupleKind (aF P w)))/\(xs.map (·.1)).Nodup
 |.set S n=>h.SetOf (intKind P w) a S n
 |.ins C dx fs=>H dx=some (.own a)/\fs.length<=1000/\dx≠a/\h.get? a=some (W.instObj C dx) /\
   ∃mA,h.Ns1 dx mA/\(∀f,HK (fs.lookup f) (mA f))/\PySem.Within mA (fs.map (·.1))
 |.own _=>∃o,h.get? a=some o
 |.xd fs=>∃mA,h.Ns1 a mA/\∀f,HK (fs.lookup f) (mA f)
 |.rng lo hi=>∃t u v,h.get? a=some {cls:=.type "range",data:=.fields #[.int lo t,.int hi u,.int 1 v]}
 |.frz o u=>h.get? a=some o/\Fz H h a u
 |.tbl ps=>h.get? a=some {cls:=.none,data:=.fields ps}
 |.met f x=>h.get? a=some (W.methodObj (.ref f) (.ref x))
 |.ext φ=>φ h/\(∃o,h.get? a=some o)/\∀h1 h2:Heap,φ h1->(∀o,h1.get? a=some o->h2.get? a=some o)->φ h2
def HOk (H:Hp)(h:Heap):Prop:=∀a o,H a=some o->Fz P w H h a o
end
section
variable {P:Program}{w:World}{H H':Hp}{h h':Heap}{a:Addr}{o:HO}
theorem Fz.lt(x:Fz P w H h a o):a<h.objs.size:=by
 cases o with
 |lst xs=>obtain⟨_,_,_,_,e⟩:=x;exact EL e
 |tup xs=>obtain⟨_,_,_,p⟩:=x;exact p.lt
 |dK kvs=>obtain⟨_,_,_,_,o,_,_,e,_⟩:=x;exact EL e
 |dT kvs=>obtain⟨_,_,_,_,o,_,_,e,_⟩:=x;exact EL e
 |set S n=>obtain⟨o,_,_,_,e,_⟩:=x;exact EL e
 |ins C dx fs=>obtain⟨_,_,_,e,_⟩:=x;exact EL e
 |own y=>obtain⟨_,e⟩:=x;exact EL e
 |xd fs=>obtain⟨_,⟨_,_,_,e,_⟩,_⟩:=x;exact EL e
 |rng lo hi=>obtain⟨_,_,_,e⟩:=x;exact EL e
 |frz ob u=>obtain⟨e,_⟩:=x;exact EL e
 |tbl ps=>exact EL (show h.get? a=some _ from x)
 |met f y=>exact EL (show h.get? a=some _ from x)
 |ext φ=>obtain⟨_,⟨_,e⟩,_⟩:=x;exact EL e
theorem Paired.GQ{α β:Type}{F G:α->β->Prop}:∀{l₁:List α}{l₂:List β},Paired F l₁ l₂->(∀a b,F a b->G a b)->Paired G l₁ l₂
 |_,_,.nil,_=>.nil
 |_,_,.cons r t,f=>.cons (f _ _ r) (Paired.GQ t f)
theorem Fz.IM(x:Fz P w H h a o)(k:∀b u,(b=a\/H b=some (.own a))->h.get? b=some u->h'.get? b=some u)
  (ho:∀b,H b=some (.own a)->H' b=some (.own a))(ht:∀b xs,H b=some (.tup xs)->H' b=some (.tup xs)):Fz P w H' h' a o:=by
 induction o with
 |lst xs=>obtain⟨z,its,n,r,e⟩:=x;exact⟨z,its,n,r,k _ _ (.inl rfl) e⟩
 |tup xs=>obtain⟨z,its,r,ob,e,c⟩:=x;exact⟨z,its,r,ob,k _ _ (.inl rfl) e,c⟩
 |dK kvs=>obtain⟨z,y,vs,r,ob,es,ep,e,c⟩:=x;exact⟨z,y,vs,r,ob,es,ep,k _ _ (.inl rfl) e,c⟩
 |dT kvs=>
  obtain⟨z,y,xs,r,ob,es,ep,e,c⟩:=x;exact⟨z,y,xs,Paired.GQ r fun p q z=>⟨z.1,ht _ _ z.2.1,z.2.2⟩,ob,es,ep,k _ _ (.inl rfl) e,c⟩
 |set S n=>obtain⟨ob,es,ep,t,e,c⟩:=x;exact⟨ob,es,ep,t,k _ _ (.inl rfl) e,c⟩
 |ins C dx fs=>
  obtain⟨d,z,ne,e,mA,⟨od,es,ep,e2,c⟩,r⟩:=x;exact⟨ho _ d,z,ne,k _ _ (.inl rfl) e,mA,⟨od,es,ep,k _ _ (.inr d) e2,c⟩,r⟩
 |own y=>obtain⟨ob,e⟩:=x;exact⟨ob,k _ _ (.inl rfl) e⟩
 |xd fs=>obtain⟨mA,⟨od,es,ep,e,c⟩,r⟩:=x;exact⟨mA,⟨od,es,ep,k _ _ (.inl rfl) e,c⟩,r⟩
 |rng lo hi=>obtain⟨t,u,v,e⟩:=x;exact⟨t,u,v,k _ _ (.inl rfl) e⟩
 |frz ob u ih=>obtain⟨e,q⟩:=x;exact⟨k _ _ (.inl rfl) e,ih q⟩
 |tbl ps=>
  have e:h.get? a=some {cls:=.none,data:=.fields ps}:=x;show h'.get? a=some {cls:=.none,data:=.fields ps};exact k a _ (.inl rfl) e
 |met f y=>
  have e:h.get? a=some (W.methodObj (.ref f) (.ref y)):=x;show h'.get? a=some (W.methodObj (.ref f) (.ref y));exact k a _ (.inl rfl) e
 |ext φ=>obtain⟨p,⟨o,e⟩,st⟩:=x;exact⟨st _ _ p fun o q=>k _ _ (.inl rfl) q,⟨o,k _ _ (.inl rfl) e⟩,st⟩
theorem HOk.lt(x:HOk P w H h)(e:H a=some o):a<h.objs.size:=(x a o e).lt
theorem HOk.fresh(x:HOk P w H h)(e:h.objs.size<=a):H a=none:=by
 cases q:H a with
 |none=>rfl
 |some u=>exact absurd (Be (x.lt q) e) (Bl _)
theorem HOk.kept(x:HOk P w H h)(k:∀b u,h.get? b=some u->h'.get? b=some u):HOk P w H h':=fun a o e=>
 (x a o e).IM (fun b u _ q=>k b u q) (fun _ q=>q) fun _ _ q=>q
theorem HOk.laid(x:HOk P w H h)(k:∀b u,h.get? b=some u->h'.get? b=some u)(hp:h.objs.size<=a)(new:Fz P w (upd H a o) h' a o):HOk P w (upd H a o) h':=fun b u e=>by
 have hn:=x.fresh hp;by_cases hb:b=a
 ·subst hb;rw[ae] at e;cases e;exact new
 ·rw[ai hb] at e;exact(x b u e).IM (fun c v _ q=>k c v q) (fun c q=>by rw[ai (aB q hn)];exact q) fun c xs q=>by rw[ai (aB q hn)];exact q
end
def Rd (H:Hp)(a:Addr)(u:HO):Prop:=H a=some u\/∃o,H a=some (.frz o u)
theorem Rd.ok{P:Program}{w:World}{H:Hp}{h:Heap}{a:Addr}{u:HO}(r:Rd H a u)(x:HOk P w H h):Fz P w H h a u:=by
 rcases r with r|⟨o,r⟩
 ·exact x a u r
 ·obtain⟨_,q⟩:=x a _ r;exact q
def Mut:Option HO->Prop
 |some (.lst _)=>True
 |some (.dK _)=>True
 |some (.dT _)=>True
 |some (.set _ _)=>True
 |some (.ins _ _ _)=>True
 |some (.ext _)=>True
 |_=>False
section
variable {P:Program}{w:World}{H:Hp}{h h':Heap}{x e:Addr}{o':HO}
theorem HOk.write(ok:HOk P w H h)(mu:Mut (H x))(he:e=x\/H e=some (.own x))(k:∀b u,b≠e->h.get? b=some u->h'.get? b=some u)(heo:∃u,h'.get? e=some u)
  (new:Fz P w (upd H x o') h' x o'):HOk P w (upd H x o') h':=fun b u q=>by
 have nown:∀c y,H c=some (.own y)->c≠x:=fun c y r z=>by subst z;rw[r] at mu;exact mu
 have ntup:∀c xs,H c=some (.tup xs)->c≠x:=fun c xs r z=>by subst z;rw[r] at mu;exact mu
 by_cases hb:b=x
 ·subst hb;rw[ae] at q;cases q;exact new
 ·rw[ai hb] at q;by_cases hbe:b=e
  ·have q':H b=some (.own x):=by
    rcases he with z|z
    ·exact absurd (hbe.trans z) hb
    ·rw[hbe];exact z
   rw[q] at q';cases q';obtain⟨v,hv⟩:=heo;exact⟨v,by rw[hbe];exact hv⟩
  ·refine(ok b u q).IM (fun c v hc r=>k c v ?_ r) (fun c r=>by rw[ai (nown c b r)];exact r) fun c xs r=>by rw[ai (ntup c xs r)];exact r
   rcases hc with rfl|hc
   ·exact hbe
   ·rintro rfl;rcases he with z|z
    ·exact nown c b hc z
    ·rw[hc] at z;cases z;exact hb rfl
end
structure Un(fs ex:List Addr)(H H':Hp)(h h':Heap):Prop where
 keep:∀b o,h.get? b=some o->H b=none->b∉fs->b∉ex->h'.get? b=some o
 slot:∀b o,h.get? b=some o->H b=none->b∈fs->b∉ex->∃sl,h'.get? b=some {o with slots:=sl}
 free:∀b o,h.get? b=some o->H b=none->b∉ex->H' b=none
 there:∀b o,h.get? b=some o->b∉ex->∃o',h'.get? b=some o'
 IQ:∀b xs,H b=some (.tup xs)->H' b=some (.tup xs)
 IH:∀b o u,H b=some (.frz o u)->H' b=some (.frz o u)
 IK:∀b ps,H b=some (.tbl ps)->∃more,H' b=some (.tbl (ps++more))
section
variable {fs fs' ex ex':List Addr}{H H1 H2:Hp}{h h1 h2 h':Heap}{a x e:Addr}{o:HO}
theorem Un.any(u:Un fs ex H H1 h h1){b:Addr}{ob:Obj}(q:h.get? b=some ob)(n:H b=none)(hx:b∉ex):∃sl,h1.get? b=some {ob with slots:=sl}:=by
 by_cases hb:b∈fs
 ·exact u.slot b ob q n hb hx
 ·exact⟨ob.slots,u.keep b ob q n hb hx⟩
theorem Un.kept(k:∀b u,h.get? b=some u->h'.get? b=some u):Un fs ex H H h h':=
 ⟨fun b ob q _ _ _=>k b ob q,fun b ob q _ _ _=>⟨ob.slots,k b ob q⟩,fun _ _ _ n _=>n,fun b ob q _=>⟨ob,k b ob q⟩,fun _ _ q=>q,fun _ _ _ q=>q,fun _ ps q=>⟨#[],by rw[q];simp⟩⟩
theorem Un.refl:Un fs ex H H h h:=Un.kept fun _ _ q=>q
theorem Un.laid(k:∀b u,h.get? b=some u->h'.get? b=some u)(hp:h.objs.size<=a)(hn:H a=none):Un fs ex H (upd H a o) h h' where
 keep:=fun b u q _ _ _=>k b u q
 slot:=fun b u q _ _ _=>⟨u.slots,k b u q⟩
 free:=fun b u q n _=>by rw[ai (AR (Be (EL q) hp))];exact n
 there:=fun b u q _=>⟨u,k b u q⟩
 IQ:=fun b xs q=>by rw[ai (aB q hn)];exact q
 IH:=fun b u xs q=>by rw[ai (aB q hn)];exact q
 IK:=fun b ps q=>⟨#[],by rw[ai (aB q hn),q];simp⟩
theorem Un.write(mu:Mut (H x))(he:e=x\/H e=some (.own x))(k:∀b u,b≠e->h.get? b=some u->h'.get? b=some u)(heo:∃u,h'.get? e=some u):Un fs ex H (upd H x o) h h':=by
 have hx:∀b,H b=none->b≠x:=fun b n z=>by subst z;rw[n] at mu;exact mu
 have hb:∀b,H b=none->b≠e:=fun b n z=>by
  subst z;rcases he with r|r
  ·exact hx b n r
  ·rw[n] at r;cases r
 have hm:∀b u,H b=some u->¬Mut (some u)->b≠x:=fun b u q nm z=>by subst z;rw[q] at mu;exact nm mu
 refine⟨fun b u q n _ _=>k b u (hb b n) q,fun b u q n _ _=>⟨u.slots,k b u (hb b n) q⟩,fun b u q n _=>by rw[ai (hx b n)]; exact n,fun b u q _=>?_,
  fun b xs q=>by rw[ai (hm b _ q fun z=>z)];exact q,fun b u xs q=>by rw[ai (hm b _ q fun z=>z)];exact q,fun b ps q=>⟨#[],by rw[ai (hm b _ q fun z=>z),q];simp⟩⟩
 by_cases hbe:b=e
 ·subst hbe;exact heo
 ·exact⟨u,k b u hbe q⟩
end
def trk (h:Heap)(H:Hp):List Addr:=(List.range h.objs.size).filter fun a=>(H a).isSome
def qt (h:Heap)(H:Hp):Heap:=W.hideAll h (trk h H)
theorem nr(h:Heap)(H:Hp):(qt h H).objs.size=h.objs.size:=W.hideAll_size _ _
theorem qJ{h:Heap}{H:Hp}{b:Addr}{o:Obj}(e:h.get? b=some o)(n:H b=none):(qt h H).get? b=some o:=
 W.hideAll_get _ e fun hm=>by
  have q:(H b).isSome=true:=(BI.mp hm).2;rw[n] at q;simp at q
theorem tj{h:Heap}{H:Hp}{b:Addr}{o:Obj}(e:(qt h H).get? b=some o):h.get? b=some o/\H b=none:=by
 have e':h.get? b=some o:=W.of_hideAll (trk h H) e;refine⟨e',?_⟩;cases q:H b with
 |none=>rfl
 |some x=>
  have hm:b∈trk h H:=BI.mpr ⟨BC.mpr (EL e'),by simp[q]⟩;have z:(qt h H).get? b=none:=W.hideAll_none (trk h H) hm;rw[z] at e;cases e
def ug (g h:Heap)(L:Addr):List (Addr×Obj):=(List.range h.objs.size).filterMap fun a=>if a=L\/(g.get? a).isSome=true then none else (h.get? a).map fun o=>(a,o)
def rest (g h:Heap)(L d:Addr):List (Addr×Obj):=(ug g h L).filter fun p=>decide (p.1≠d)
structure Mod(K:W.Frag)(mg:Str->Option Value)(base:Heap):Prop where
 kin:K.In base
 glob:base.Ns mainGlobals mg
 blt:∃mb,base.Ns builtinsNs mb/\∀x:Str,x≠"__name__"->mb x=bootBuiltins x
 nolimit:base.NoLimit
structure Cx where
 prog:Program
 w:World
 K:W.Frag
 mg:Str->Option Value
 base:Heap
 A:Around
 N:List Str
 s₀:Shared
 H₀:Hp
 env:Env
 outer:List Env
 stack:List Env
 ex:List Addr
 fn:Str->Bool
 calm:Bool
 pn:List (Addr×Obj)
 xe:Value->Shared->Prop
def frs (l:List Env):List Addr:=l.filterMap (·.frame)
abbrev Cx.fs(X:Cx):List Addr:=frs X.outer
def Vis (sc:Scope)(x:Str):Prop:=sc.names.lookup x=some .local\/sc.names.lookup x=some .cell\/sc.names.lookup x=some .free
def Loc (sc:Scope)(x:Str):Prop:=sc.names.lookup x=some .local\/sc.names.lookup x=some .cell
def Look (env:Env)(h:Heap)(m:Str->Option Value)(x:Str)(u:Value):Prop:=
 (env.kindOf x=some .local/\m x=some u)\/((env.kindOf x=some .cell\/env.kindOf x=some .free)/\∃c,env.cells.lookup x=some c/\h.IsCell c (some u))
structure Cx.Ok(X:Cx):Prop where
 mod:Mod X.K X.mg X.base
 kind:X.env.scope.kind=.function
 glob:X.env.globals=mainGlobals
 blt:X.env.builtins=builtinsNs
 above:X.s₀.heap.objs.size<=X.env.locals
 inj:∀x y c,X.env.cells.lookup x=some c->X.env.cells.lookup y=some c->x=y
 has:∀x,(X.env.kindOf x=some .cell\/X.env.kindOf x=some .free)->∃c,X.env.cells.lookup x=some c
 cab:∀x c,X.fn x=true->X.env.cells.lookup x=some c->X.s₀.heap.objs.size<=c
 hd:X.calm=true->X.A.handled=none
 frames:X.A.frames=some X.stack
 stk:X.stack=X.outer\/(X.stack=X.env::X.outer/\X.env.frame=some X.env.locals)
 exf:∀b∈X.ex,b≠X.env.locals/\∀x c,X.env.cells.lookup x=some c->c≠b
 bs:∀b o,X.base.get? b=some o->X.s₀.heap.get? b=some o/\X.H₀ b=none
 bsz:X.base.objs.size<=X.s₀.heap.objs.size
 Kl:∀b o,X.base.get? b=some o->b∉X.ex
 JC:∀b∈X.ex,b∉X.fs
 IL:X.s₀.heap.FunFrames X.base X.outer
 frf:∀b∈X.fs,X.H₀ b=none
structure Inv(X:Cx)(pins:List (Addr×Obj))(σ:List (Option V))(H:Hp)(s:Shared):Prop where
 ok:X.Ok
 os:s.os=X.s₀.os
 bare:AllBare s.gens
 base:Un X.fs X.ex X.H₀ H X.s₀.heap s.heap
 loc:∃m,s.heap.Ns X.env.locals m/\∀(i:Nat)(x:Str)(v:V),X.N[i]?=some x->σ[i]?=some (some v)->Vis X.env.scope x->∃u,RelV v u/\Look X.env s.heap m x u
 cell:∀x c,X.env.cells.lookup x=some c->∃v,s.heap.IsCell c v
 free:H X.env.locals=none
 FX:∀x c,X.env.cells.lookup x=some c->H c=none
 pin:∀p∈X.pn++pins,s.heap.get? p.1=some p.2/\H p.1=none/\p.1≠X.env.locals/\p.1∉X.fs/\∀v,p.2.data≠.cell v
 hok:HOk X.prog X.w H s.heap
 len:σ.length=X.N.length
section
variable {X:Cx}{pins:List (Addr×Obj)}{σ:List (Option V)}{H H':Hp}{s:Shared}{h':Heap}
theorem Cx.Ok.nofr(ok:X.Ok){b:Addr}{o:Obj}(e:X.base.get? b=some o):b∉X.fs:=fun hb=>by
 have:=(ok.IL.mem hb).1;rw[e] at this;cases this
theorem Inv.bs(I:Inv X pins σ H s):∀b o,X.base.get? b=some o->s.heap.get? b=some o/\H b=none:=fun b o e=>
 ⟨I.base.keep b o (I.ok.bs b o e).1 (I.ok.bs b o e).2 (I.ok.nofr e) (I.ok.Kl b o e),I.base.free b o (I.ok.bs b o e).1 (I.ok.bs b o e).2 (I.ok.Kl b o e)⟩
theorem Inv.bk(I:Inv X pins σ H s):∀b o,X.base.get? b=some o->s.heap.get? b=some o:=fun b o e=>(I.bs b o e).1
theorem Inv.mod(I:Inv X pins σ H s):Mod X.K X.mg X.base:=I.ok.mod
theorem Inv.kIn(I:Inv X pins σ H s):X.K.In s.heap:=I.ok.mod.kin.keeps I.bk
theorem Inv.nolimit(I:Inv X pins σ H s):s.heap.NoLimit:=I.ok.mod.nolimit.keeps I.bk
theorem Inv.lt(I:Inv X pins σ H s):X.env.locals<s.heap.objs.size:=let ⟨_,hn,_⟩:=I.loc;hn.lt
theorem Inv.sz(I:Inv X pins σ H s):X.s₀.heap.objs.size<=s.heap.objs.size:=AX I.ok.above (BA I.lt)
theorem Inv.nofs(I:Inv X pins σ H s){a:Addr}(h:s.heap.objs.size<=a):a∉X.fs:=fun hb=>by
 obtain⟨_,o,ho,_⟩:=I.ok.IL.mem hb;exact absurd (Be (EL ho) (AX I.sz h)) (Bl _)
theorem Inv.cne(I:Inv X pins σ H s):∀x c,X.env.cells.lookup x=some c->c≠X.env.locals:=fun x c e z=>by
 obtain⟨v,o,ho,hd⟩:=I.cell x c e;obtain⟨m,⟨o',es,ep,ho',hd',_⟩,_⟩:=I.loc;rw[z,ho'] at ho;cases ho;rw[hd'] at hd;cases hd
theorem Inv.IL(I:Inv X pins σ H s):s.heap.FunFrames X.base X.outer:=by
 have all:∀(l:List Env),(∀b∈frs l,b∈X.fs)->X.s₀.heap.FunFrames X.base l->s.heap.FunFrames X.base l:=by
  intro l;induction l with
  |nil=>intro _ _;trivial
  |cons env r ih=>
   intro hs hl;obtain⟨hk,⟨L,o,hf,hn,ho,hd⟩,hr⟩:=hl;have hL:L∈X.fs:=hs L (by unfold frs;rw[CJ,hf];exact AS);obtain⟨sl,e⟩:=I.base.slot L o ho (I.ok.frf L hL) hL fun z=>I.ok.JC L z hL;exact⟨hk,⟨L,_,hf,hn,e,hd⟩,ih (fun b hb=>hs b (by unfold frs;rw[CJ,hf];exact AY _ hb)) hr⟩
 exact all X.outer (fun _ hb=>hb) I.ok.IL
theorem Inv.stack(I:Inv X pins σ H s):s.heap.FunFrames X.base X.stack:=by
 rcases I.ok.stk with e|⟨e,hf⟩
 ·rw[e];exact I.IL
 ·rw[e];obtain⟨m,hn,_⟩:=I.loc;refine .cons (by rw[I.ok.kind];decide) hf hn ?_ I.IL;exact Heap.get?_none_of_le (AX I.ok.bsz I.ok.above)
theorem Inv.HI(I:Inv X pins σ H s):∀b∈frs X.stack,b∈X.env.locals::X.fs:=fun b hb=>by
 rcases I.ok.stk with e|⟨e,hf⟩
 ·rw[e] at hb;exact AY _ hb
 ·rw[e] at hb;unfold frs at hb;rw[CJ,hf] at hb;exact hb
theorem Inv.Hm(I:Inv X pins σ H s):∀b∈frs X.stack,H b=none:=fun b hb=>by
 rcases AN.mp (I.HI b hb) with e|hb
 ·rw[e];exact I.free
 ·obtain⟨_,o,ho,_⟩:=I.ok.IL.mem hb;exact I.base.free b o ho (I.ok.frf b hb) fun z=>I.ok.JC b z hb
theorem Inv.step{g':Array GenState}{t':Nat}{d':Drawn}{ch:List Addr}(I:Inv X pins σ H s)
  (hch:∀b∈ch,(b∈X.ex\/X.s₀.heap.get? b=none)/\b≠X.env.locals/\(∀x c,X.env.cells.lookup x=some c->c≠b)/\∀p∈X.pn++pins,p.1≠b)
  (keep:∀b o,b≠X.env.locals->b∉X.fs->b∉ch->s.heap.get? b=some o->H b=none->h'.get? b=some o)
  (slot:∀b o,b≠X.env.locals->b∈X.fs->b∉ch->s.heap.get? b=some o->H b=none->∃sl,h'.get? b=some {o with slots:=sl})(free:∀b o,b∉ch->s.heap.get? b=some o->H b=none->H' b=none)
  (there:∀b o,b∉ch->s.heap.get? b=some o->∃o',h'.get? b=some o')
  (IQ:∀b xs,H b=some (.tup xs)->H' b=some (.tup xs))(IH:∀b o u,H b=some (.frz o u)->H' b=some (.frz o u))(IK:∀b ps,H b=some (.tbl ps)->∃more,H' b=some (.tbl (ps++more)))
  (ns:∀m,s.heap.Ns X.env.locals m->h'.Ns X.env.locals m)(hok:HOk X.prog X.w H' h')(hg:AllBare g') :
  Inv X pins σ H' {s with heap:=h',gens:=g',drawn:=d',toks:=t'}:=by
 have neL:∀b o,X.s₀.heap.get? b=some o->b≠X.env.locals:=fun b o e=>AR (Be (EL e) I.ok.above);have neC:∀b o,X.s₀.heap.get? b=some o->b∉X.ex->b∉ch:=fun b o e hx hb=>by
  rcases (hch b hb).1 with z|z
  ·exact hx z
  ·rw[z] at e;cases e
 have cellK:∀x c,X.env.cells.lookup x=some c->∀v,s.heap.IsCell c v->h'.IsCell c v:=fun x c e v hq1=>by
  obtain⟨o,ho,hd⟩:=hq1;have nch:c∉ch:=fun z=>(hch c z).2.2.1 x c e rfl;by_cases hc:c∈X.fs
  ·obtain⟨sl,q⟩:=slot c o (I.cne x c e) hc nch ho (I.FX x c e);exact⟨_,q,hd⟩
  ·exact⟨o,keep c o (I.cne x c e) hc nch ho (I.FX x c e),hd⟩
 refine⟨I.ok,I.os,hg,⟨fun b o e n hb hx=>?_,fun b o e n hb hx=>?_,fun b o e n hx=>?_,fun b o e hx=>?_,fun b xs e=>IQ b xs (I.base.IQ b xs e),fun b o xs e=>IH b o xs (I.base.IH b o xs e),fun b ps e=>?_⟩,?_,fun x c e=>?_,?_,fun x c e=>?_,fun p hp=>?_,hok,I.len⟩
 ·exact keep b o (neL b o e) hb (neC b o e hx) (I.base.keep b o e n hb hx) (I.base.free b o e n hx)
 ·obtain⟨sl,e1⟩:=I.base.slot b o e n hb hx;obtain⟨sl',e2⟩:=slot b _ (neL b o e) hb (neC b o e hx) e1 (I.base.free b o e n hx);exact⟨sl',e2⟩
 ·obtain⟨o',e1⟩:=I.base.there b o e hx;exact free b o' (neC b o e hx) e1 (I.base.free b o e n hx)
 ·obtain⟨o',e1⟩:=I.base.there b o e hx;exact there b o' (neC b o e hx) e1
 ·obtain⟨m1,e1⟩:=I.base.IK b ps e;obtain⟨m2,e2⟩:=IK b _ e1;exact⟨m1++m2,by rw[e2,Array.append_assoc]⟩
 ·obtain⟨m,hn,hl⟩:=I.loc;refine⟨m,ns m hn,fun i x v e1 e2 e3=>?_⟩;obtain⟨u,r,l⟩:=hl i x v e1 e2 e3;refine⟨u,r,?_⟩;rcases l with l|⟨k,c,e,z⟩
  ·exact .inl l
  ·exact .inr ⟨k,c,e,cellK x c e _ z⟩
 ·obtain⟨v,z⟩:=I.cell x c e;exact⟨v,cellK x c e v z⟩
 ·obtain⟨m,⟨o,_,_,ho,_⟩,_⟩:=I.loc;exact free _ o (fun z=>(hch _ z).2.1 rfl) ho I.free
 ·obtain⟨v,o,ho,hd⟩:=I.cell x c e;exact free c o (fun z=>(hch c z).2.2.1 x c e rfl) ho (I.FX x c e)
 ·obtain⟨e,n,ne,nf,d⟩:=I.pin p hp;have nch:p.1∉ch:=fun z=>(hch p.1 z).2.2.2 p hp rfl;exact⟨keep p.1 p.2 ne nf nch e n,free p.1 p.2 nch e n,ne,nf,d⟩
theorem Inv.un{t':Nat}(I:Inv X pins σ H s)(u:Un X.fs [] H H' s.heap h')(hok:HOk X.prog X.w H' h'):Inv X pins σ H' {s with heap:=h',toks:=t'}:=by
 obtain⟨m,⟨o,es,ep,ho,r⟩,_⟩:=id I.loc;obtain⟨sl,hL⟩:=u.any ho I.free (by simp)
 exact I.step (g':=s.gens) (d':=s.drawn) (ch:=[]) (fun _ z=>nomatch z) (fun b o _ hb _ e n=>u.keep b o e n hb (by simp)) (fun b o _ hb _ e n=>u.slot b o e n hb (by simp)) (fun b o _ e n=>u.free b o e n (by simp)) (fun b o _ e=>u.there b o e (by simp)) u.IQ u.IH u.IK (fun m' hm=>by
  obtain⟨o',es',ep',ho',r'⟩:=hm;rw[ho] at ho';cases ho'
  exact⟨_,es',ep',hL,r'⟩) hok I.bare
theorem Inv.call{g':Array GenState}{t':Nat}{d':Drawn}{ch:List Addr}(I:Inv X pins σ H s)(u:Un (frs X.stack) ch H H' s.heap h')(hok:HOk X.prog X.w H' h')(hg:AllBare g')
  (hch:∀b∈ch,(b∈X.ex\/X.s₀.heap.get? b=none)/\b≠X.env.locals/\(∀x c,X.env.cells.lookup x=some c->c≠b)/\∀p∈X.pn++pins,p.1≠b) :
  Inv X pins σ H' {s with heap:=h',gens:=g',drawn:=d',toks:=t'}:=by
 obtain⟨m,⟨o,es,ep,ho,r⟩,_⟩:=id I.loc;obtain⟨sl,hL⟩:=u.any ho I.free fun z=>(hch _ z).2.1 rfl
 exact I.step (ch:=ch) hch (fun b o hL hb hc e n=>u.keep b o e n (fun z=>(AN.mp (I.HI b z)).elim hL hb) hc) (fun b o _ _ hc e n=>u.any e n hc) (fun b o hc e n=>u.free b o e n hc) (fun b o hc e=>u.there b o e hc) u.IQ u.IH u.IK (fun m' hm=>by
  obtain⟨o',es',ep',ho',r'⟩:=hm;rw[ho] at ho';cases ho'
  exact⟨_,es',ep',hL,r'⟩) hok hg
theorem Inv.turned{t':Nat}{it:Addr}(I:Inv X pins σ H s)(k:∀b o,b≠it->s.heap.get? b=some o->h'.get? b=some o)(hn:H it=none)(hL:it≠X.env.locals)
  (h1:it∈X.ex\/X.s₀.heap.get? it=none)(h2:∀x c,X.env.cells.lookup x=some c->c≠it)(h3:∀p∈X.pn++pins,p.1≠it):Inv X pins σ H {s with heap:=h',toks:=t'}:=by
 have nit:∀b u,H b=some u->b≠it:=fun b u e z=>by rw[z,hn] at e;cases e
 refine I.step (g':=s.gens) (d':=s.drawn) (ch:=[it]) (fun b hb=>?_) (fun b o _ _ hc e _=>k b o (fun z=>hc (by simp[z])) e) (fun b o _ _ hc e _=>⟨o.slots,k b o (fun z=>hc (by simp[z])) e⟩) (fun _ _ _ _ n=>n)
  (fun b o hc e=>⟨o,k b o (fun z=>hc (by simp[z])) e⟩) (fun _ _ e=>e) (fun _ _ _ e=>e) (fun b ps e=>⟨#[],by rw[e];simp⟩) (fun m hm=>?_) (fun b u e=>?_) I.bare
 ·have e:b=it:=by simpa using hb
  subst e;exact⟨h1,hL,h2,h3⟩
 ·obtain⟨o,es,ep,ho,r⟩:=hm;exact⟨o,es,ep,k _ o (EZ hL) ho,r⟩
 ·refine(I.hok b u e).IM (fun c v hc q=>k c v ?_ q) (fun _ q=>q) fun _ _ q=>q;rcases hc with z|z
  ·rw[z];exact nit b u e
  ·exact nit c _ z
theorem Inv.tok(I:Inv X pins σ H s)(t:Nat):Inv X pins σ H {s with toks:=t}:=I.un (h':=s.heap) (t':=t) Un.refl I.hok
theorem Inv.kept{t':Nat}(I:Inv X pins σ H s)(k:∀b u,s.heap.get? b=some u->h'.get? b=some u):Inv X pins σ H {s with heap:=h',toks:=t'}:=I.un (Un.kept k) (I.hok.kept k)
theorem Inv.laid{a:Addr}{o:HO}{t':Nat}(I:Inv X pins σ H s)(k:∀b u,s.heap.get? b=some u->h'.get? b=some u)(hp:s.heap.objs.size<=a)(new:Fz X.prog X.w (upd H a o) h' a o) :
  Inv X pins σ (upd H a o) {s with heap:=h',toks:=t'}:=I.un (Un.laid k hp (I.hok.fresh hp)) (I.hok.laid k hp new)
theorem Inv.write{x e:Addr}{o:HO}{t':Nat}(I:Inv X pins σ H s)(mu:Mut (H x))(he:e=x\/H e=some (.own x))(k:∀b u,b≠e->s.heap.get? b=some u->h'.get? b=some u)(heo:∃u,h'.get? e=some u)
  (new:Fz X.prog X.w (upd H x o) h' x o):Inv X pins σ (upd H x o) {s with heap:=h',toks:=t'}:=I.un (Un.write mu he k heo) (I.hok.write mu he k heo new)
theorem Inv.Ge{pins':List (Addr×Obj)}(I:Inv X pins σ H s)(h:∀p∈pins',s.heap.get? p.1=some p.2/\H p.1=none/\p.1≠X.env.locals/\p.1∉X.fs/\∀v,p.2.data≠.cell v):Inv X pins' σ H s:=
 ⟨I.ok,I.os,I.bare,I.base,I.loc,I.cell,I.free,I.FX,fun p hp=>(AO.mp hp).elim (fun z=>I.pin p (Bo _ z)) (h p),I.hok,I.len⟩
theorem ki{N:List Str}(hN:N.Nodup){i j:Nat}{x:Str}(a:N[i]?=some x)(b:N[j]?=some x):i=j:=by
 obtain⟨h1,e1⟩:=Bc.mp a;obtain⟨h2,e2⟩:=Bc.mp b;exact(List.getElem_inj hN).mp (e1.trans e2.symm)
theorem fB{M:Model}{A:Around}{E:Value->Shared->Prop}{i:Nat}{x:Str}{v:V}{u:Value}{Q:Unit->Shared->Prop}(I:Inv X pins σ H s)(hN:X.N.Nodup)(hi:X.N[i]?=some x)(hx:Loc X.env.scope x)(r:RelV v u)
  (h:∀s',Inv X pins (σ.set i (some v)) H s'->(∃a,Heap.SameBut a s.heap s'.heap/\(a=X.env.locals\/X.env.cells.lookup x=some a))->Q () s')(hf:X.fn x=true\/X.env.scope.names.lookup x=some .local:=by first|exact .inl rfl|exact .inr rfl|assumption):wpAny M A (storeName X.env x u) Q E s:=by
 obtain⟨m,hn,hl⟩:=id I.loc;have hcls:(X.env.scope.kind==.class||(X.env.scope.kind==.module&&X.env.locals != X.env.globals))=false:=by rw[I.ok.kind];rfl
 have hiσ:i<σ.length:=by rw[I.len];exact(Bc.mp hi).1
 have cne:=I.cne;have tracked:∀{a:Addr}{h':Heap},(∃o,s.heap.get? a=some o/\H a=none)->Heap.SameBut a s.heap h'->HOk X.prog X.w H h':=fun {a h'} ha hs b ob e=>by
  obtain⟨_,_,hfree⟩:=ha;refine(I.hok b ob e).IM (fun c w' hc q=>(hs.2 c ?_).trans q) (fun _ q=>q) fun _ _ q=>q;rintro rfl;rcases hc with rfl|hc
  ·rw[hfree] at e;cases e
  ·rw[hfree] at hc;cases hc
 rcases hx with hk|hk
 ·refine wpAny_storeName_local hk hn (fun h' hn' hs=>?_) hcls;obtain⟨oL,_,_,hoL,_⟩:=id hn;refine h _ ⟨I.ok,I.os,I.bare,⟨fun b o e n hb hx=>?_,fun b o e n hb hx=>?_,I.base.free,fun b o e hx=>?_,I.base.IQ,I.base.IH,I.base.IK⟩,⟨_,hn',fun j y v' e1 e2 e3=>?_⟩,fun y c e=>?_,I.free,I.FX,fun p hp=>?_,tracked ⟨oL,hoL,I.free⟩ hs,by simpa using I.len⟩ ⟨_,hs,.inl rfl⟩
  ·exact(hs.2 b (AR (Be (EL e) I.ok.above))).trans (I.base.keep b o e n hb hx)
  ·obtain⟨sl,e1⟩:=I.base.slot b o e n hb hx;exact⟨sl,(hs.2 b (AR (Be (EL e) I.ok.above))).trans e1⟩
  ·obtain⟨o',e1⟩:=I.base.there b o e hx;exact⟨o',(hs.2 b (AR (Be (EL e) I.ok.above))).trans e1⟩
  ·by_cases hj:j=i
   ·subst hj;rw[hi] at e1;cases e1;rw[CK hiσ] at e2;cases e2;exact⟨u,r,.inl ⟨hk,by simp⟩⟩
   ·rw[CL (EZ hj)] at e2;obtain⟨u',r',q⟩:=hl j y v' e1 e2 e3;refine⟨u',r',?_⟩;rcases q with ⟨k,e⟩|⟨k,c,e,z⟩
    ·refine .inl ⟨k,?_⟩;have:y≠x:=fun e=>hj (ki hN e1 (e▸hi));simp[this,e]
    ·exact .inr ⟨k,c,e,z.sameBut hs (cne y c e)⟩
  ·obtain⟨w',z⟩:=I.cell y c e;exact⟨w',z.sameBut hs (cne y c e)⟩
  ·obtain⟨e,n,ne,nf,d⟩:=I.pin p hp;exact⟨(hs.2 p.1 ne).trans e,n,ne,nf,d⟩
 ·have hfn:X.fn x=true:=by
   rcases hf with z|z
   ·exact z
   ·rw[z] at hk;cases hk
  obtain⟨c,hc⟩:=I.ok.has x (.inl hk);obtain⟨w',z⟩:=I.cell x c hc;refine wpAny_storeName_cell I.ok.kind hk hc z (fun h' hc' hs=>?_);obtain⟨oc,hoc,hocd⟩:=id z;refine h {s with heap:=h'} ⟨I.ok,I.os,I.bare,⟨fun b o e n hb hx=>?_,fun b o e n hb hx=>?_,I.base.free,fun b o e hx=>?_,I.base.IQ,I.base.IH,I.base.IK⟩,⟨m,hn.sameBut hs (EZ (cne x c hc)),fun j y v' e1 e2 e3=>?_⟩,fun y c' e=>?_,I.free,I.FX,fun p hp=>?_,tracked ⟨oc,hoc,I.FX x c hc⟩ hs,by simpa using I.len⟩ ⟨c,hs,.inr hc⟩
  ·exact(hs.2 b (AR (Be (EL e) (I.ok.cab x c hfn hc)))).trans (I.base.keep b o e n hb hx)
  ·obtain⟨sl,e1⟩:=I.base.slot b o e n hb hx;exact⟨sl,(hs.2 b (AR (Be (EL e) (I.ok.cab x c hfn hc)))).trans e1⟩
  ·obtain⟨o',e1⟩:=I.base.there b o e hx;exact⟨o',(hs.2 b (AR (Be (EL e) (I.ok.cab x c hfn hc)))).trans e1⟩
  ·by_cases hj:j=i
   ·subst hj;rw[hi] at e1;cases e1;rw[CK hiσ] at e2;cases e2;exact⟨u,r,.inr ⟨.inl hk,c,hc,hc'⟩⟩
   ·rw[CL (EZ hj)] at e2;obtain⟨u',r',q⟩:=hl j y v' e1 e2 e3;refine⟨u',r',?_⟩;rcases q with q|⟨k,c',e,z'⟩
    ·exact .inl q
    ·refine .inr ⟨k,c',e,z'.sameBut hs ?_⟩;rintro rfl;exact hj (ki hN e1 (I.ok.inj _ _ _ e hc▸hi))
  ·by_cases hcc:c'=c
   ·subst hcc;exact⟨_,hc'⟩
   ·obtain⟨w2,z2⟩:=I.cell y c' e;exact⟨w2,z2.sameBut hs hcc⟩
  ·obtain⟨e,n,ne,nf,d⟩:=I.pin p hp;refine⟨(hs.2 p.1 ?_).trans e,n,ne,nf,d⟩;intro q;rw[q,hoc] at e;have q':oc=p.2:=EM e;exact d w' (by rw[<- q'];exact hocd)
theorem eM{M:Model}{A:Around}{E:Value->Shared->Prop}{i:Nat}{x:Str}{v:V}{u:Value}{Q:Unit->Shared->Prop}(I:Inv X pins σ H s)(hN:X.N.Nodup)(hi:X.N[i]?=some x)(hx:Loc X.env.scope x)(r:RelV v u)
  (h:∀s',Inv X pins (σ.set i (some v)) H s'->Q () s')(hf:X.fn x=true\/X.env.scope.names.lookup x=some .local:=by first|exact .inl rfl|exact .inr rfl|assumption):wpAny M A (storeName X.env x u) Q E s:=
 fB I hN hi hx r (fun s' I' _=>h s' I') hf
theorem Inv.Km{s':Shared}{ch:List Addr}(I:Inv X pins σ H s)(ho:s'.os=s.os)(u:Un (frs X.stack) ch H H' s.heap s'.heap)(hok:HOk X.prog X.w H' s'.heap)(hg:AllBare s'.gens)
  (hch:∀b∈ch,(b∈X.ex\/X.s₀.heap.get? b=none)/\b≠X.env.locals/\(∀x c,X.env.cells.lookup x=some c->c≠b)/\∀p∈X.pn++pins,p.1≠b):Inv X pins σ H' s':=by
 obtain⟨h',g',d',t',o'⟩:=s';have e:o'=s.os:=ho;subst e;exact I.call (g':=g') (t':=t') (d':=d') u hok hg hch
end
abbrev XK:=Value->Option Addr->Hp->Prop
abbrev St:=List (Option V)
abbrev VK:=V->Hp->Prop
abbrev TE:=St->Hp->VK->Prop
abbrev TT:=St->Hp->(Bool->Hp->Prop)->Prop
abbrev TA:=St->Hp->(List V->Hp->Prop)->Prop
structure Ends where
 nx:St->Hp->Prop
 rt:VK
 bk:St->Hp->Prop:=fun _ _=>False
 ct:St->Hp->Prop:=fun _ _=>False
abbrev TS:=Ends->St->Hp->Prop
def EP (X:Cx)(pins:List (Addr×Obj))(σ:St)(Q:VK)(u:Value)(s':Shared):Prop:=∃v H',Inv X pins σ H' s'/\RelV v u/\Q v H'
def TP (X:Cx)(pins:List (Addr×Obj))(σ:St)(Q:Bool->Hp->Prop)(b:Bool)(s':Shared):Prop:=∃H',Inv X pins σ H' s'/\Q b H'
def AP (X:Cx)(pins:List (Addr×Obj))(σ:St)(Q:List V->Hp->Prop)(us:List Value)(s':Shared):Prop:=∃vs H',Inv X pins σ H' s'/\Vals vs us/\Q vs H'
def SP (X:Cx)(pins:List (Addr×Obj))(D:Ends)(f:Flow)(s':Shared):Prop:=
 match f with
 |.next=>∃σ' H',Inv X pins σ' H' s'/\D.nx σ' H'
 |.brk=>∃σ' H',Inv X pins σ' H' s'/\D.bk σ' H'
 |.cont=>∃σ' H',Inv X pins σ' H' s'/\D.ct σ' H'
 |.ret u=>∃v σ' H',Inv X pins σ' H' s'/\RelV v u/\D.rt v H'
def PE (X:Cx)(e:Expr)(t:TE):Prop:=
 ∀(pins:List (Addr×Obj))(s:Shared)(σ:St)(H:Hp)(Q:VK),Inv X pins σ H s->t σ H Q->(wq X) (eval e X.env) (EP X pins σ Q) X.xe s
def PT (X:Cx)(e:Expr)(t:TT):Prop:=
 ∀(pins:List (Addr×Obj))(s:Shared)(σ:St)(H:Hp)(Q:Bool->Hp->Prop),Inv X pins σ H s->t σ H Q->(wq X) (isTrue e X.env (eval e X.env)) (TP X pins σ Q) X.xe s
def PW (X:Cx)(e:Expr)(t:TT):Prop:=
 ∀(whole:Sem Value)(pins:List (Addr×Obj))(s:Shared)(σ:St)(H:Hp)(Q:Bool->Hp->Prop),Inv X pins σ H s->t σ H Q->(wq X) (isTrue e X.env whole) (TP X pins σ Q) X.xe s
theorem PW.pt{X:Cx}{e:Expr}{t:TT}(h:PW X e t):PT X e t:=h _
def PA (X:Cx)(es:List Expr)(t:TA):Prop:=
 ∀(pos:Pos)(pins:List (Addr×Obj))(s:Shared)(σ:St)(H:Hp)(Q:List V->Hp->Prop),Inv X pins σ H s->t σ H Q->(wq X) (spliced (backTo pos (starEach es X.env))) (AP X pins σ Q) X.xe s
def PS (X:Cx)(st:Stmt)(t:TS):Prop:=
 ∀(pins:List (Addr×Obj))(s:Shared)(σ:St)(H:Hp)(D:Ends),Inv X pins σ H s->t D σ H->(wq X) (exec st X.env) (SP X pins D) X.xe s
def PSs (X:Cx)(st:List Stmt)(t:TS):Prop:=
 ∀(pins:List (Addr×Obj))(s:Shared)(σ:St)(H:Hp)(D:Ends),Inv X pins σ H s->t D σ H->(wq X) (execs st X.env) (SP X pins D) X.xe s
theorem thn{α:Type}{t:Sem α}{Q Q':α->Shared->Prop}{M:Model}{A:Around}{E:Value->Shared->Prop}{s:Shared}(h:wpAny M A t Q E s)(hQ:∀a s,Q a s->Q' a s):wpAny M A t Q' E s:=EI h hQ fun _ _ x=>x
section
variable {X:Cx}
def wZ (i:Nat):TE:=fun σ H Q=>∃v,σ[i]?=some (some v)/\Q v H
def tC (v:V):TE:=fun _ H Q=>Q v H
theorem vy{i:Nat}{x:Str}{pos:Pos}(hN:X.N[i]?=some x)(hv:Vis X.env.scope x)(hd:(x==("__debug__":Str))=false:=by decide)(hcd:(x==("__classdict__":Str))=false:=by decide):PE X (.Name x pos) (wZ i):=by
 intro pins s σ H Q I h;obtain⟨v,e,h⟩:=h;obtain⟨m,hn,hl⟩:=I.loc;obtain⟨u,r,l⟩:=hl i x v hN e hv;have fin:EP X pins σ Q u s:=⟨v,H,I,r,h⟩
 rcases l with ⟨hk,hm⟩|⟨hk,c,hc,hcell⟩
 ·exact wpAny_Name (wpAny_loadName_local I.ok.kind hk hn hm fin) hd
 ·rcases hk with hk|hk
  ·exact wpAny_Name (wpAny_loadName_cell I.ok.kind hk hc hcell fin) hd
  ·exact wpAny_Name (wpAny_loadName_free I.ok.kind hk hc hcell fin hcd) hd
theorem ah{i j pos}:PE X (.Constant (.int i) j pos) (tC (.int i)):=fun _ _ _ H _ I h=>wpAny_Constant_int ⟨.int i,H,I.tok _,⟨_,rfl⟩,h⟩
theorem jK{b j pos}:PE X (.Constant (.bool b) j pos) (tC (.bl b)):=fun _ _ _ H _ I h=>Constant_bool ⟨.bl b,H,I,rfl,h⟩
theorem fu{j pos}:PE X (.Constant .none j pos) (tC .non):=fun _ _ _ H _ I h=>Constant_none ⟨.non,H,I,rfl,h⟩
theorem aU{x j pos}:PE X (.Constant (.str x) j pos) (tC (.str x)):=fun _ _ _ H _ I h=>Calls.Constant_str ⟨.str x,H,I.tok _,⟨_,rfl⟩,h⟩
def Gl (X:Cx)(x:Str):Prop:=X.env.kindOf x=some .globalImplicit
theorem nZ{E:Value->Shared->Prop}{pins:List (Addr×Obj)}{s:Shared}{σ:St}{H:Hp}{x:Str}{u:Value}{pos:Pos}{Q:Value->Shared->Prop}(I:Inv X pins σ H s)(hg:Gl X x)(hm:X.mg x=some u)(h:Q u s)
  (hd:(x==("__debug__":Str))=false:=by decide):(wq X) (eval (.Name x pos) X.env) Q E s:=
 Calls.Name_function_global I.ok.kind hg (Calls.loadGlobal_global (by rw[I.ok.glob];exact I.mod.glob.keeps I.bk) hm h) hd
theorem eF{E:Value->Shared->Prop}{pins:List (Addr×Obj)}{s:Shared}{σ:St}{H:Hp}{x:Str}{u:Value}{pos:Pos}{Q:Value->Shared->Prop}(I:Inv X pins σ H s)(hg:Gl X x)(hm:X.mg x=none)(hv:bootBuiltins x=some u)(h:Q u s)
  (hn:x≠"__name__":=by decide)(hd:(x==("__debug__":Str))=false:=by decide):(wq X) (eval (.Name x pos) X.env) Q E s:=by
 obtain⟨mb,h1,h2⟩:=I.mod.blt;exact Calls.Name_function_global I.ok.kind hg (Calls.loadGlobal_builtin (by rw[I.ok.glob];exact I.mod.glob.keeps I.bk) hm (by rw[I.ok.blt];exact h1.keeps I.bk) ((h2 x hn).trans hv) h) hd
theorem dO{x:Str}{v:V}{u:Value}{pos:Pos}(hg:Gl X x)(hm:X.mg x=some u)(r:RelV v u)(hd:(x==("__debug__":Str))=false:=by decide):PE X (.Name x pos) (tC v):=
 fun _ _ _ H _ I h=>nZ I hg hm ⟨v,H,I,r,h⟩ hd
theorem eB{x:Str}{v:V}{u:Value}{pos:Pos}(hg:Gl X x)(hm:X.mg x=none)(hv:bootBuiltins x=some u)(r:RelV v u)(hn:x≠"__name__":=by decide)(hd:(x==("__debug__":Str))=false:=by decide):PE X (.Name x pos) (tC v):=
 fun _ _ _ H _ I h=>eF I hg hm hv ⟨v,H,I,r,h⟩ hn hd
variable {a b:Expr}{ta tb:TE}{pos:Pos}
def PC (X:Cx)(op:CmpOp)(a b:Expr)(t:TE):Prop:=
 ∀(pins:List (Addr×Obj))(s:Shared)(σ:St)(H:Hp)(Q:VK),Inv X pins σ H s->t σ H Q ->
  (wq X) (eval a X.env) (fun v s₁=>(wq X) (eval b X.env) (fun u s₂=>(wq X) (compareOp op v u) (EP X pins σ Q) X.xe s₂) X.xe s₁) X.xe s
theorem gz(b:Expr){op:CmpOp}(h:op≠.In)(h2:op≠.NotIn):behindInMarks op b=false:=by
 have e1:(op==CmpOp.In)=false:=by cases op<;>first|rfl|exact absurd rfl h
 have e2:(op==CmpOp.NotIn)=false:=by cases op<;>first|rfl|exact absurd rfl h2
 cases b<;>simp[behindInMarks,e1,e2]
def tB (t:TE):TT:=fun σ H Q=>t σ H fun x H1=>∃c,x=.bl c/\Q c H1
theorem sL{op:CmpOp}{t:TE}(h:PC X op a b t)(h1:behindInMarks op b=false:=by first|exact gz _ (by decide) (by decide)|rfl):PT X (.Compare a [op] [b] pos) (tB t):=by
 intro pins s σ H Q I hw;refine wpAny_isTrue_Compare1 (thn (h pins s σ H _ I hw) fun v s1 h1=>thn h1 fun u s2 h2=>thn h2 fun c s3 hq2=>?_) h1;obtain⟨x,H1,I1,r1,q1⟩:=hq2;obtain⟨d,rfl,q⟩:=q1;cases r1;exact wpAny_truthy_bool ⟨H1,I1,q⟩
theorem dG{e:Expr}{t:TE}(h:PE X e t)(he:∀whole,isTrue e X.env whole=(do let v <- whole;standAt e.pos;holding [v] (truthy v)):=by intro _;rfl):PT X e (tB t):=by
 intro pins s σ H Q I hw;refine isTrue_plain (thn (h pins s σ H _ I hw) fun v s1 hq3=>?_) (he _);obtain⟨x,H1,I1,r1,q1⟩:=hq3;obtain⟨d,rfl,q⟩:=q1;cases r1;exact wpAny_truthy_bool ⟨H1,I1,q⟩
variable {tA tB':TT}{rest:List Expr}
def tAnd (t u:TT):TT:=fun σ H Q=>t σ H fun c H1=>if c=true then u σ H1 Q else Q false H1
def tOr (t u:TT):TT:=fun σ H Q=>t σ H fun c H1=>if c=true then Q true H1 else u σ H1 Q
def tNot (t:TT):TT:=fun σ H Q=>t σ H fun c H1=>Q (!c) H1
theorem dY(ha:PT X a tA):PW X (.BoolOp .And [a] pos) tA:=by
 intro wh pins s σ H Q I h;refine isTrue_and (thn (ha pins s σ H Q I h) fun c s1 e=>?_);cases c with
 |true=>exact isTrue_and_nil e
 |false=>exact e
theorem kL(ha:PT X a tA):PW X (.BoolOp .Or [a] pos) tA:=by
 intro wh pins s σ H Q I h;refine isTrue_or (thn (ha pins s σ H Q I h) fun c s1 e=>?_);cases c with
 |false=>exact isTrue_or_nil e
 |true=>exact e
theorem fM(ha:PT X a tA)(hb:PW X (.BoolOp .And (b::rest) pos) tB'):PW X (.BoolOp .And (a::b::rest) pos) (tAnd tA tB'):=by
 intro wh pins s σ H Q I h;refine isTrue_and (thn (ha pins s σ H _ I h) fun c s1 hq4=>?_);obtain⟨H1,I1,q1⟩:=hq4;cases c with
 |true=>exact hb wh pins s1 σ H1 Q I1 q1
 |false=>exact⟨H1,I1,q1⟩
theorem mq(ha:PT X a tA)(hb:PW X (.BoolOp .Or (b::rest) pos) tB'):PW X (.BoolOp .Or (a::b::rest) pos) (tOr tA tB'):=by
 intro wh pins s σ H Q I h;refine isTrue_or (thn (ha pins s σ H _ I h) fun c s1 hq5=>?_);obtain⟨H1,I1,q1⟩:=hq5;cases c with
 |true=>exact⟨H1,I1,q1⟩
 |false=>exact hb wh pins s1 σ H1 Q I1 q1
theorem iI(ha:PT X a tA):PT X (.UnaryOp .Not a pos) (tNot tA):=by
 intro pins s σ H Q I h;exact isTrue_not (ha pins s σ H (fun c H1=>Q (!c) H1) I h)
def xO (ta tb:TE):TE:=fun σ H Q=>ta σ H fun x H1=>∃c,x=.bl c/\if c=true then tb σ H1 Q else Q (.bl false) H1
def xx (ta:TE):TE:=fun σ H Q=>ta σ H fun x H1=>∃c,x=.bl c/\Q (.bl (!c)) H1
theorem kj{op}{t:TE}(h:PE X a t):PE X (.BoolOp op [a] pos) t:=fun pins s σ H Q I hw=>BoolOp_one (h pins s σ H Q I hw)
theorem fJ(ha:PE X a ta)(hb:PE X (.BoolOp .And (b::rest) pos) tb):PE X (.BoolOp .And (a::b::rest) pos) (xO ta tb):=by
 intro pins s σ H Q I h;refine BoolOp_and (thn (ha pins s σ H _ I h) fun v s1 hq6=>?_);obtain⟨x,H1,I1,r1,q1⟩:=hq6;obtain⟨c,rfl,q1⟩:=q1;cases r1;refine wpAny_truthy_bool ?_;cases c with
 |true=>exact hb pins s1 σ H1 Q I1 q1
 |false=>exact⟨.bl false,H1,I1,rfl,q1⟩
theorem sG(ha:PE X a ta):PE X (.UnaryOp .Not a pos) (xx ta):=by
 intro pins s σ H Q I h;refine UnaryOp_ (thn (ha pins s σ H _ I h) fun v s1 hq7=>?_);obtain⟨x,H1,I1,r1,q1⟩:=hq7;obtain⟨c,rfl,q1⟩:=q1;cases r1;exact not_of (wpAny_truthy_bool ⟨.bl (!c),H1,I1,rfl,q1⟩)
def tIf (t:TT)(ta tb:TE):TE:=fun σ H Q=>t σ H fun c H1=>if c=true then ta σ H1 Q else tb σ H1 Q
theorem dF{c:Expr}(hc:PT X c tA)(ha:PE X a ta)(hb:PE X b tb):PE X (.IfExp c a b pos) (tIf tA ta tb):=by
 intro pins s σ H Q I h;refine wpAny_IfExp (thn (hc pins s σ H _ I h) fun d s1 hq8=>?_);obtain⟨H1,I1,q1⟩:=hq8;cases d with
 |true=>exact ha pins s1 σ H1 Q I1 q1
 |false=>exact hb pins s1 σ H1 Q I1 q1
end
def SqL (K:W.Frag)(H:Hp)(a:Addr)(xs:List V):Prop:=
 Rd H a (.lst xs) \/
  ∃(o:Obj)(its:Array Value)(n:Nat),K.lookup a=some o/\o.cls=.type "list"/\o.dict=none/\o.data=.seq its n/\its.size<=sizeLine/\Vals xs its.toList
def SqT (K:W.Frag)(H:Hp)(a:Addr)(xs:List V):Prop:=
 Rd H a (.tup xs) \/
  ∃(o:Obj)(its:Array Value)(n:Nat),K.lookup a=some o/\o.cls=.type "tuple"/\o.data=.seq its n/\its.size<=sizeLine/\Vals xs its.toList
def absV:Value->Option V
 |.none=>some .non
 |.bool b=>some (.bl b)
 |.int i _=>some (.int i)
 |.str x _=>some (.str x)
 |.bytes b _=>some (.byt b)
 |.float b _=>some (.flt b)
 |.ref a=>some (.ref a)
 |.type n=>some (.ty n)
 |_=>none
theorem RelV.abs{x:V}{u:Value}(r:RelV x u):absV u=some x:=by
 cases x with
 |non=>cases r;rfl
 |bl _=>cases r;rfl
 |int _=>obtain⟨t,rfl⟩:=r;rfl
 |str _=>obtain⟨t,rfl⟩:=r;rfl
 |byt _=>obtain⟨t,rfl⟩:=r;rfl
 |flt _=>obtain⟨t,rfl⟩:=r;rfl
 |ref _=>cases r;rfl
 |ty _=>cases r;rfl
theorem RelV.inj{x y:V}{u:Value}(r:RelV x u)(q:RelV y u):x=y:=EM (r.abs.symm.trans q.abs)
theorem Vals.inj:∀{xs ys:List V}{us:List Value},Vals xs us->Vals ys us->xs=ys
 |_,_,_,.nil,.nil=>rfl
 |_,_,_,.cons r t,.cons r' t'=>by rw[r.inj r',Vals.inj t t']
section
variable {X:Cx}{pins:List (Addr×Obj)}{σ:St}{H:Hp}{s:Shared}{a:Addr}{xs ys:List V}
theorem SqL.of{K:W.Frag}(h:H a=some (.lst xs)):SqL K H a xs:=.inl (.inl h)
theorem SqT.of{K:W.Frag}(h:H a=some (.tup xs)):SqT K H a xs:=.inl (.inl h)
theorem Inv.list(I:Inv X pins σ H s)(h:SqL X.K H a xs):∃its:List Value,Vals xs its/\PlainL s.heap a its.toArray/\xs.length<=sizeLine:=by
 rcases h with h|⟨o,its,n,hk,hc,hd,hs,hz,r⟩
 ·obtain⟨z,its,n,r,e⟩:=h.ok I.hok;exact⟨its,r,⟨_,n,e,rfl,rfl,rfl⟩,z⟩
 ·refine⟨its.toList,r,⟨o,n,I.kIn a o hk,hc,hd,by simpa using hs⟩,?_⟩;have e:=r.length;simp only[Br] at e;lia
theorem Inv.tuple(I:Inv X pins σ H s)(h:SqT X.K H a xs):∃its:List Value,Vals xs its/\IsTup s.heap a its.toArray/\xs.length<=sizeLine:=by
 rcases h with h|⟨o,its,n,hk,hc,hs,hz,r⟩
 ·obtain⟨z,its,r,p⟩:=h.ok I.hok;exact⟨its,r,p,z⟩
 ·refine⟨its.toList,r,⟨o,I.kIn a o hk,hc,n,by simpa using hs⟩,?_⟩;have e:=r.length;simp only[Br] at e;lia
theorem Inv.IC(I:Inv X pins σ H s)(h:SqL X.K H a xs)(h':SqL X.K H a ys):xs=ys:=by
 obtain⟨its,r,⟨o,n,e,_,_,d⟩,_⟩:=I.list h;obtain⟨its',r',⟨o',n',e',_,_,d'⟩,_⟩:=I.list h';rw[e] at e';cases e';rw[d] at d';injection d' with d1 _;have:its=its':=by simpa using congrArg Array.toList d1
 subst this;exact r.inj r'
theorem Inv.Jg(I:Inv X pins σ H s)(h:SqT X.K H a xs)(h':SqT X.K H a ys):xs=ys:=by
 obtain⟨its,r,⟨o,e,_,n,d⟩,_⟩:=I.tuple h;obtain⟨its',r',⟨o',e',_,n',d'⟩,_⟩:=I.tuple h';rw[e] at e';cases e';rw[d] at d';injection d' with d1 _;have:its=its':=by simpa using congrArg Array.toList d1
 subst this;exact r.inj r'
end
abbrev Cx.FO(X:Cx)(E:Value->Shared->Prop):Cx:={X with xe:=E}
abbrev Cx.nox(X:Cx):Cx:=X.FO fun _ _=>False
theorem Cx.Ok.FO{X:Cx}(ok:X.Ok)(E:Value->Shared->Prop):(X.FO E).Ok:=
 ⟨ok.mod,ok.kind,ok.glob,ok.blt,ok.above,ok.inj,ok.has,ok.cab,ok.hd,ok.frames,ok.stk,ok.exf,ok.bs,ok.bsz,ok.Kl,ok.JC,ok.IL,ok.frf⟩
theorem Cx.Ok.Gv{X:Cx}{E:Value->Shared->Prop}(ok:(X.FO E).Ok):X.Ok:=
 ⟨ok.mod,ok.kind,ok.glob,ok.blt,ok.above,ok.inj,ok.has,ok.cab,ok.hd,ok.frames,ok.stk,ok.exf,ok.bs,ok.bsz,ok.Kl,ok.JC,ok.IL,ok.frf⟩
section
variable {X:Cx}{pins:List (Addr×Obj)}{σ:St}{H:Hp}{s:Shared}{E:Value->Shared->Prop}
theorem Inv.FO(I:Inv X pins σ H s)(E:Value->Shared->Prop):Inv (X.FO E) pins σ H s:=⟨I.ok.FO E,I.os,I.bare,I.base,I.loc,I.cell,I.free,I.FX,I.pin,I.hok,I.len⟩
theorem Inv.Gv(I:Inv (X.FO E) pins σ H s):Inv X pins σ H s:=⟨I.ok.Gv,I.os,I.bare,I.base,I.loc,I.cell,I.free,I.FX,I.pin,I.hok,I.len⟩
theorem SP.Gv{D:Ends}{f:Flow}{s':Shared}(h:SP (X.FO E) pins D f s'):SP X pins D f s':=by
 cases f with
 |next=>obtain⟨σ',H',I,q⟩:=h;exact⟨σ',H',I.Gv,q⟩
 |brk=>obtain⟨σ',H',I,q⟩:=h;exact⟨σ',H',I.Gv,q⟩
 |cont=>obtain⟨σ',H',I,q⟩:=h;exact⟨σ',H',I.Gv,q⟩
 |ret u=>obtain⟨v,σ',H',I,r,q⟩:=h;exact⟨v,σ',H',I.Gv,r,q⟩
theorem PSs.nox{st:List Stmt}{t:TS}(h:PSs X.nox st t):PSs X st t:=fun pins s σ H D I hw=>
 EI (h pins s σ H D (I.FO _) hw) (fun _ _ q=>q.Gv) fun _ _ z=>False.elim z
end
section
variable {X:Cx}{st:Stmt}{rest:List Stmt}{t u:TS}{e:Expr}{te:TE}{pos:Pos}
def LA:TS:=fun D σ H=>D.nx σ H
def tSeq (t u:TS):TS:=fun D σ H=>t {D with nx:=u D} σ H
theorem Fv:PSs X [] LA:=fun _ _ σ H _ I h=>wpAny_execs_nil ⟨σ,H,I,h⟩
theorem ag(h1:PS X st t)(h2:PSs X rest u):PSs X (st::rest) (tSeq t u):=by
 intro pins s σ H D I h;refine wpAny_execs_cons (thn (h1 pins s σ H {D with nx:=u D} I h) fun f s1 q=>?_);cases f with
 |next=>
  obtain⟨σ',H',I',q⟩:=q;exact h2 pins s1 σ' H' D I' q
 |ret v=>exact q
 |brk=>exact q
 |cont=>exact q
theorem ak(h1:PS X st t):PSs X [st] t:=by
 intro pins s σ H D I h;refine wpAny_execs_cons (thn (h1 pins s σ H D I h) fun f s1 q=>?_);cases f with
 |next=>exact wpAny_execs_nil q
 |ret v=>exact q
 |brk=>exact q
 |cont=>exact q
theorem Inv.quiet{pins:List (Addr×Obj)}{σ:St}{H:Hp}{s:Shared}(I:Inv X pins σ H s):interactive X.env=false:=by simp[interactive,I.ok.kind]
def xK (te:TE):TS:=fun D σ H=>te σ H fun _ H1=>D.nx σ H1
theorem bx(he:PE X e te)(hs:swapsWith e none pos.line X.env=pure false:=by rfl):PS X (.Expr e pos) (xK te):=by
 intro pins s σ H D I h;refine wpAny_Expr_any (thn (he pins s σ H _ I h) fun v s1 hq9=>?_) I.quiet hs;obtain⟨x,H1,I1,r1,q1⟩:=hq9;exact⟨σ,H1,I1,q1⟩
def tRet (te:TE):TS:=fun D σ H=>te σ H D.rt
theorem aI(he:PE X e te):PS X (.Return (some e) pos) (tRet te):=by
 intro pins s σ H D I h;refine wpAny_Return_some (thn (he pins s σ H _ I h) fun v s1 hq10=>?_);obtain⟨x,H1,I1,r1,q1⟩:=hq10;exact⟨x,σ,H1,I1,r1,q1⟩
def tIfS (c:TT)(t u:TS):TS:=fun D σ H=>c σ H fun b H1=>if b=true then t D σ H1 else u D σ H1
theorem bS{c:Expr}{a b:List Stmt}{tc:TT}(hc:PT X c tc)(ha:PSs X a t)(hb:PSs X b u):PS X (.If c a b pos) (tIfS tc t u):=by
 intro pins s σ H D I h;refine wpAny_If (thn (hc pins s σ H _ I h) fun d s1 hq11=>?_);obtain⟨H1,I1,q1⟩:=hq11;cases d with
 |true=>exact ha pins s1 σ H1 D I1 q1
 |false=>exact hb pins s1 σ H1 D I1 q1
def Ky:TS:=fun _ _ _=>False
theorem Gs:PS X st Ky:=fun _ _ _ _ _ _ h=>h.elim
end
abbrev TG:=V->St->Hp->(St->Hp->Prop)->Prop
abbrev TGs:=List V->St->Hp->(St->Hp->Prop)->Prop
def PG (X:Cx)(target:Expr)(t:TG):Prop:=
 ∀(pins:List (Addr×Obj))(s:Shared)(σ:St)(H:Hp)(v:V)(u:Value)(Q:St->Hp->Prop),Inv X pins σ H s->RelV v u->t v σ H Q ->
  (wq X) (assign target X.env u) (fun _ s'=>∃σ' H',Inv X pins σ' H' s'/\Q σ' H') X.xe s
def PGs (X:Cx)(ts:List Expr)(t:TGs):Prop:=
 ∀(pins:List (Addr×Obj))(s:Shared)(σ:St)(H:Hp)(vs:List V)(us:List Value)(Q:St->Hp->Prop),Inv X pins σ H s->Vals vs us->t vs σ H Q ->
  (wq X) (assignInOrder ((assignEach ts X.env).map (·.2)) us) (fun _ s'=>∃σ' H',Inv X pins σ' H' s'/\Q σ' H') X.xe s
abbrev Lv:=V->V->V->Hp->(Hp->Prop)->Prop
def yD (X:Cx)(t:Lv):Prop:=
 ∀(pins:List (Addr×Obj))(s:Shared)(σ:St)(H:Hp)(o i v:V)(ov iv u:Value)(Q:Hp->Prop),Inv X pins σ H s->RelV o ov->RelV i iv->RelV v u->t o i v H Q ->
  (wq X) (setItem ov iv u) (fun _ s'=>∃H',Inv X pins σ H' s'/\Q H') X.xe s
section
variable {X:Cx}{pos:Pos}
def oj (i:Nat):TG:=fun v σ H Q=>Q (σ.set i (some v)) H
theorem ao{i:Nat}{x:Str}(hN:X.N.Nodup)(hi:X.N[i]?=some x)(hx:Loc X.env.scope x)(hf:X.fn x=true\/X.env.scope.names.lookup x=some .local:=by first|exact .inl rfl|exact .inr rfl|assumption):PG X (.Name x pos) (oj i):=by
 intro pins s σ H v u Q I r h;exact wpAny_assign_Name (eM I hN hi hx r (fun s' I'=>⟨_,H,I',h⟩) hf)
def gNil:TGs:=fun vs σ H Q=>vs=[]/\Q σ H
def xR (t:TG)(u:TGs):TGs:=fun vs σ H Q=>∃v r,vs=v::r/\t v σ H fun σ' H'=>u r σ' H' Q
theorem FG:PGs X [] gNil:=by
 intro pins s σ H vs us Q I r h;obtain⟨e,h⟩:=h;subst e;cases r;exact assignInOrder_nil ⟨σ,H,I,h⟩
theorem ay{e:Expr}{es:List Expr}{t:TG}{u:TGs}(h1:PG X e t)(h2:PGs X es u)
  (hs:(assignEach (e::es) X.env).map (·.2)=assign e X.env::(assignEach es X.env).map (·.2):=by rfl):PGs X (e::es) (xR t u):=by
 intro pins s σ H vs us Q I r h;obtain⟨v,vr,e1,h⟩:=h;subst e1;cases r with
 |cons r rr=>
  rw[hs];refine assignInOrder_cons (thn (h1 pins s σ H _ _ _ I r h) fun _ s1 hq12=>?_);obtain⟨σ1,H1,I1,q1⟩:=hq12;exact h2 pins s1 σ1 H1 _ _ Q I1 rr q1
def yC (K:W.Frag)(n:Nat)(t:TGs):TG:=fun v σ H Q=>∃a xs,v=.ref a/\SqT K H a xs/\xs.length=n/\t xs σ H Q
theorem dD{es:List Expr}{k:Nat}{t:TGs}{n:Nat}(hc:X.calm=true)(h:PGs X es t)
  (hn:(assignEach es X.env).length=n:=by rfl)(hst:(assignEach es X.env).findIdx? (·.1)=none:=by rfl):PG X (.Tuple es k pos) (yC X.K n t):=by
 intro pins s σ H v u Q I r hw;obtain⟨a,xs,e1,hq,hl,hw⟩:=hw;subst e1;cases r;obtain⟨its,rv,ht,hz⟩:=I.tuple hq;refine assign_Tuple_tuple (I.ok.hd hc) ht (by simp[hn,<- hl,rv.length]) hst fun h' hx=>?_;have I1:Inv X pins σ H {s with heap:=h'}:=I.kept (t':=s.toks) fun b o e=>hx b o (AR (EL e)) e;exact h pins _ σ H xs _ Q I1 (by simpa using rv) hw
def gSub (to ti:TE)(t:Lv):TG:=fun v σ H Q=>to σ H fun o H1=>ti σ H1 fun i H2=>t o i v H2 fun H3=>Q σ H3
theorem pD{o i:Expr}{to ti:TE}{t:Lv}(ho:PE X o to)(hi:PE X i ti)(hs:yD X t)
  (ha:∀v,assign (.Subscript o i pos) X.env v=(do
   let ov <- holding [v] (eval o X.env)
   let iv <- holding [v,ov] (eval i X.env)
   standAt pos
   holding [v,ov,iv] (setItem ov iv v)
   release [v,ov,iv] []):=by intro _; rfl):PG X (.Subscript o i pos) (gSub to ti t):=by
 intro pins s σ H v u Q I r h;rw[ha];refine EA (EJ (thn (ho pins s σ H _ I h) fun ov s1 hq13=>?_));obtain⟨x,H1,I1,r1,q1⟩:=hq13;refine EA (EJ (thn (hi pins s1 σ H1 _ I1 q1) fun iv s2 hq14=>?_));obtain⟨y,H2,I2,r2,q2⟩:=hq14;refine EA (wpAny_standAt (EA (EJ (thn (hs pins s2 σ H2 x y v ov iv u _ I2 r1 r2 r q2) fun _ s3 hq15=>?_))));obtain⟨H3,I3,q3⟩:=hq15;exact wpAny_release ⟨σ,H3,I3,q3⟩
def yF (te:TE)(g:TG):TS:=fun D σ H=>te σ H fun x H1=>g x σ H1 D.nx
theorem fm{tg e:Expr}{te:TE}{g:TG}(he:PE X e te)(hg:PG X tg g)(hs:swapsWithSole [tg] e pos.line X.env=pure false:=by rfl)(hw:swappedStores [tg] e X.env=pure none:=by rfl)
  (h1:(assignEach [tg] X.env).map (·.2)=[assign tg X.env]:=by rfl):PS X (.Assign [tg] e pos) (yF te g):=by
 intro pins s σ H D I h;refine wpAny_Assign_stores (thn (he pins s σ H _ I h) fun v s1 hq16=>?_) hs hw;obtain⟨x,H1,I1,r1,q1⟩:=hq16;rw[h1];exact thn (hg pins s1 σ H1 x v _ I1 r1 q1) fun _ s2 q=>q
theorem ax{i:Nat}{x:Str}{e:Expr}{te:TE}{pos':Pos}(hN:X.N.Nodup)(hi:X.N[i]?=some x)(hx:Loc X.env.scope x)(he:PE X e te)(hs:swapsWith e (some (.Name x pos')) pos.line X.env=pure false:=by rfl)(hf:X.fn x=true\/X.env.scope.names.lookup x=some .local:=by first|exact .inl rfl|exact .inr rfl|assumption) :
  PS X (.Assign [.Name x pos'] e pos) (yF te (oj i)):=by
 intro pins s σ H D I h;refine wpAny_Assign_Name (thn (he pins s σ H _ I h) fun v s1 hq17=>?_) hs;obtain⟨y,H1,I1,r1,q1⟩:=hq17;exact eM I1 hN hi hx r1 (fun s2 I2=>⟨_,H1,I2,q1⟩) hf
def tPar (i j:Nat)(ta:TA):TS:=fun D σ H=>ta σ H fun vs H1=>∃v w,vs=[v,w]/\D.nx ((σ.set i (some v)).set j (some w)) H1
theorem sA{i j:Nat}{x y:Str}{a b:Expr}{ta:TA}{px py pt:Pos}{kt k2 pt2}(hc:X.calm=true)(hN:X.N.Nodup)(hi:X.N[i]?=some x)(hj:X.N[j]?=some y)(hij:i≠j)
  (hx:X.env.scope.names.lookup x=some .local)(hy:X.env.scope.names.lookup y=some .local)(ha:PA X [a,b] ta)
  (hw:swappedStores [.Tuple [.Name x px,.Name y py] kt pt] (.Tuple [a,b] k2 pt2) X.env=pure (some [x,y]))
  (hs:swapsWithSole [.Tuple [.Name x px,.Name y py] kt pt] (.Tuple [a,b] k2 pt2) pos.line X.env=pure false:=by rfl) :
  PS X (.Assign [.Tuple [.Name x px,.Name y py] kt pt] (.Tuple [a,b] k2 pt2) pos) (tPar i j ta):=by
 intro pins s σ H D I h;rw[exec_Assign_arm];refine EA (wpAny_standAt ?_);rw[hs];refine EA (EB ?_);rw[EE (by decide)];refine EA (Tuple_ (thn (ha _ pins s σ H _ I h) fun us s1 hq18=>?_));obtain⟨vs,H1,I1,r1,q1⟩:=hq18;obtain⟨v,w,e1,q1⟩:=q1;subst e1;obtain⟨u1,u2,rfl,rv,rw'⟩:∃u1 u2,us=[u1,u2]/\RelV v u1/\RelV w u2:=by
  cases r1 with
  |cons p q=>
   cases q with
   |cons p' q'=>
    cases q';exact⟨_,_,rfl,p,p'⟩
 refine wpAny_newObj_type ?_ (by show 2<=sizeLine;decide);have I2:Inv X pins σ H1 {s1 with heap:=s1.heap.push {cls:=.type "tuple",data:=.seq [u1,u2].toArray}}:=I1.kept (t':=s1.toks) fun b o e=>Fb _ e;rw[hw];refine EA (EB ?_);show (wq X) (do rule "assign.swapped-stores";let items <- unpackItems (.ref s1.heap.objs.size) 2 none;assignInOrder [fun v=>bindName X.env y v,fun v=>bindName X.env x v] items.reverse;pure Flow.next) _ _ _;refine EA (Fk (EA (unpackItems_tuple (items:=#[u1,u2]) (I.ok.hd hc) (IsTup.new s1.heap _) fun h' hx'=>?_)));have I3:=I2.kept (h':=h') (t':=s1.toks) fun b o e=>hx' b o (AR (EL e)) e;show wpAny _ _ (assignInOrder [fun v=>bindName X.env y v,fun v=>bindName X.env x v] [u2,u1] >>= fun _=>pure Flow.next) _ _ _;refine EA (assignInOrder_cons (wpAny_bindName (eM I3 hN hj (.inl hy) rw' (fun s2 I4=>?_) (.inr hy))));refine assignInOrder_cons (wpAny_bindName (eM I4 hN hi (.inl hx) rv (fun s3 I5=>assignInOrder_nil (EB ?_)) (.inr hx)));rw[List.set_comm _ _ (EZ hij)] at I5;exact⟨_,H1,I5,q1⟩
def wO (c:TT)(tb:TS):TS:=fun D σ H=>∃W:Nat->St->Hp->Prop,(∃m,W m σ H)/\∀m σ H,W m σ H ->
 c σ H fun b H1=>if b=true then ∃N:St->Hp->Prop,(∀σ' H',N σ' H'->∃m',m'<m/\W m' σ' H')/\tb {D with nx:=N,ct:=N,bk:=D.nx} σ H1 else D.nx σ H1
theorem gg{c:Expr}{body:List Stmt}{tc:TT}{tb:TS}(hp:PassesOwn (model X.prog X.w) X.A X.env X.xe)(hc:PT X c tc)(hb:PSs X body tb):PS X (.While c body [] pos) (wO tc tb):=by
 intro pins s σ H D I h;obtain⟨W,⟨m0,w0⟩,turn⟩:=h;refine wpAny_While (codeAny_whileLoop (fun n s'=>∃σ' H',Inv X pins σ' H' s'/\W n σ' H') ?_ m0 ⟨σ,H,I,w0⟩);rintro n s1 ⟨σ1,H1,I1,w1⟩;refine wpAny_passesOwn hp (thn (hc pins s1 σ1 H1 _ I1 (turn n σ1 H1 w1)) fun b s2 hq19=>?_);obtain⟨H2,I2,q2⟩:=hq19;cases b with
 |true=>
  obtain⟨N,hN,q2⟩:=q2;rw[EF rfl];refine wpAny_passesOwn hp (thn (hb pins s2 σ1 H2 _ I2 q2) fun f s3 q3=>?_);cases f with
  |next=>
   obtain⟨σ3,H3,I3,n3⟩:=q3;obtain⟨m',hm,w3⟩:=hN σ3 H3 n3;exact⟨m',hm,σ3,H3,I3,w3⟩
  |cont=>
   obtain⟨σ3,H3,I3,n3⟩:=q3;obtain⟨m',hm,w3⟩:=hN σ3 H3 n3;exact⟨m',hm,σ3,H3,I3,w3⟩
  |brk=>exact q3
  |ret v=>exact q3
 |false=>
  rw[EE Bm];exact wpAny_execs_nil ⟨σ1,H2,I2,q2⟩
end
structure It where
 go:Nat->Hp->Prop
 yld:Nat->Hp->V->Hp->Prop
 stop:Nat->Hp->Prop
def FY (X:Cx)(pins:List (Addr×Obj))(H:Hp)(b:Addr):Prop:=
 H b=none/\b≠X.env.locals/\b∉X.fs/\(b∈X.ex\/X.s₀.heap.get? b=none)/\(∀x c,X.env.cells.lookup x=some c->c≠b)/\∀p∈X.pn++pins,p.1≠b
theorem Inv.JA{X:Cx}{pins:List (Addr×Obj)}{σ:St}{H H':Hp}{s:Shared}{b:Addr}(I:Inv X pins σ H s)(hb:s.heap.objs.size<=b)(hn:H' b=none):FY X pins H' b:=by
 refine⟨hn,Cm (Be I.lt hb),I.nofs hb,.inr (Heap.get?_none_of_le (AX I.sz hb)),fun x c e z=>?_,fun p hp z=>?_⟩
 ·obtain⟨v,q⟩:=I.cell x c e;exact absurd (Be q.lt (by rw[z];exact hb)) (Bl _)
 ·exact absurd (Be (EL (I.pin p hp).1) (by rw[z];exact hb)) (Bl _)
structure Turn(P:Program)(w:World)(K:W.Frag)(tg:Expr)(J:It)(fp:List Addr)(it:Addr)(tn:Nat->Heap->Prop):Prop where
 mem:it∈fp
 obj:∀i h,tn i h->∀b∈fp,∃o,h.get? b=some o/\∀v,o.data≠.cell v
 keep:∀i h h',tn i h->(∀b∈fp,∀o,h.get? b=some o->h'.get? b=some o)->tn i h'
 item:∀(X:Cx),X.prog=P->X.w=w->X.K=K->X.calm=true->∀(i:Nat)(pins:List (Addr×Obj))(s:Shared)(σ:St)(H:Hp)(E:Value->Shared->Prop),Inv X pins σ H s->(∀b∈fp,FY X pins H b)->tn i s.heap->J.go i H ->
  wpAny (model P w) X.A (pyNext (.ref it)) (fun r s1=>∃u,r=some u /\
   wpAny (model P w) X.A (letOwnedTupleGo tg (.ref it) u) (fun _ s2=>∃x H',Inv X pins σ H' s2/\RelV x u/\J.yld i H x H'/\tn (i+1) s2.heap/\∀b∈fp,H' b=none) E s1) E s
 done:∀(X:Cx),X.prog=P->X.w=w->X.K=K->X.calm=true->∀(i:Nat)(pins:List (Addr×Obj))(s:Shared)(σ:St)(H:Hp)(E:Value->Shared->Prop),Inv X pins σ H s->(∀b∈fp,FY X pins H b)->tn i s.heap->J.stop i H ->
  wpAny (model P w) X.A (pyNext (.ref it)) (fun r s1=>r=none/\Inv X pins σ H s1) E s
 self:∀(A:Around)(i:Nat)(s:Shared)(Q:Value->Shared->Prop)(E:Value->Shared->Prop),tn i s.heap->Q (.ref it) s->wpAny (model P w) A (pyIter (.ref it)) Q E s
abbrev TI:=St->Hp->(It->Hp->Prop)->Prop
def PIE (X:Cx)(pins:List (Addr×Obj))(σ:St)(tg:Expr)(R:It->Hp->Prop)(itv:Value)(s2:Shared):Prop:=
 ∃(it:Addr)(fp:List Addr)(tn:Nat->Heap->Prop)(J:It)(H':Hp),itv=.ref it/\Inv X pins σ H' s2/\Turn X.prog X.w X.K tg J fp it tn/\tn 0 s2.heap/\(∀b∈fp,FY X pins H' b)/\R J H'
def PI (X:Cx)(tg iter:Expr)(wi:TI):Prop:=
 ∀(pins:List (Addr×Obj))(s:Shared)(σ:St)(H:Hp)(R:It->Hp->Prop),Inv X pins σ H s->wi σ H R ->
  (wq X) (eval iter X.env) (fun v s1=>(wq X) (pyIter v) (PIE X pins σ tg R) X.xe s1) X.xe s
theorem mQ{M:Model}{A:Around}{E:Value->Shared->Prop}{s:Shared}{tg:Expr}{it:Addr}{u:Value}{o:Obj}{n:String}{vs:Array Value}{Q:Unit->Shared->Prop}(ho:s.heap.get? it=some o)(hc:o.cls=.type n)(hd:o.data=.fields vs)
    (hn:["enumerate","zip","dict_itemiterator","dict_reverseitemiterator","odict_iterator","itertools.zip_longest","itertools.pairwise"].contains n=false)(hQ:Q () s):wpAny M A (letOwnedTupleGo tg (.ref it) u) Q E s:=by
  unfold letOwnedTupleGo;cases tg<;>first
    |exact EB hQ
    | (cases u <;> first
        |exact EB hQ
        | (refine EA (wpAny_load ho ?_)
           rw[hc,hd];show wpAny M A (if (["enumerate","zip","dict_itemiterator","dict_reverseitemiterator","odict_iterator","itertools.zip_longest","itertools.pairwise"].contains n&&vs[0]?==some (rawInt _))=true then _ else _) Q E s;rw[EE (by intro h;rw[hn,Bool.false_and] at h;cases h)]
           exact EB hQ))
def Itl (K:W.Frag)(a:Addr):It:=
 ⟨fun i H=>∃xs x,SqL K H a xs/\xs[i]?=some x,fun i H x H'=>H'=H/\∀xs,SqL K H a xs->xs[i]?=some x,fun i H=>∃xs,SqL K H a xs/\xs.length<=i⟩
def Itt (K:W.Frag)(a:Addr):It:=
 ⟨fun i H=>∃xs x,SqT K H a xs/\xs[i]?=some x,fun i H x H'=>H'=H/\∀xs,SqT K H a xs->xs[i]?=some x,fun i H=>∃xs,SqT K H a xs/\xs.length<=i⟩
def Itr (lo:Int)(n:Nat):It:=⟨fun i _=>i<n,fun i H x H'=>H'=H/\x=.int (lo+i),fun i _=>n<=i⟩
theorem qo{P:Program}{w:World}{K:W.Frag}{tg:Expr}(a it:Addr):Turn P w K tg (Itl K a) [it] it (fun i h=>h.IsListIter it a i) where
 mem:=by simp
 obj:=fun i h st b hb=>by
  have e:b=it:=by simpa using hb
  subst e;obtain⟨o,e,c,d⟩:=st;exact⟨o,e,fun v z=>by rw[d] at z;cases z⟩
 keep:=fun i h h' st k=>st.at fun o e=>k it (by simp) o e
 item:=by
  intro X hP hw hK hc i pins s σ H E I hf st hg;subst hP hw hK;obtain⟨xs,x,hq,hx⟩:=hg;obtain⟨its,rv,p,hz⟩:=I.list hq;obtain⟨u,hu,ru⟩:=rv.get hx;obtain⟨f0,f1,f2,f3,f4,f5⟩:=hf it (by simp);refine wpAny_pyNext_list_item st p.isList (x:=u) (by simpa using hu) fun h' st' sb=>?_;have I1:Inv X pins σ H {s with heap:=h'}:=I.turned (t':=s.toks) (fun b o hb e=>(sb.2 b hb).trans e) f0 f1 f3 f4 f5;obtain⟨o,e,c,d⟩:=id st';exact⟨u,rfl,mQ (s:={s with heap:=h'}) e c d (by decide) ⟨x,H,I1,ru,⟨rfl,fun ys hy=>by rw[I.IC hy hq];exact hx⟩,st',fun b hb=>(hf b hb).1⟩⟩
 done:=by
  intro X hP hw hK hc i pins s σ H E I hf st hg;subst hP hw hK;obtain⟨xs,hq,hx⟩:=hg;obtain⟨its,rv,p,hz⟩:=I.list hq;obtain⟨f0,f1,f2,f3,f4,f5⟩:=hf it (by simp);have hl:=rv.length;exact wpAny_pyNext_list_end (I.ok.hd hc) st p.isList (by simp;lia) fun h' eb=>⟨rfl,I.turned (t':=s.toks) (fun b o hb e=>eb b o hb e) f0 f1 f3 f4 f5⟩
 self:=fun _ _ _ _ _ st h=>wpAny_pyIter_listiter st h
theorem mD{P:Program}{w:World}{K:W.Frag}{tg:Expr}(a it:Addr):Turn P w K tg (Itt K a) [it] it (fun i h=>h.IsTupleIter it a i) where
 mem:=by simp
 obj:=fun i h st b hb=>by
  have e:b=it:=by simpa using hb
  subst e;obtain⟨o,e,c,d⟩:=st;exact⟨o,e,fun v z=>by rw[d] at z;cases z⟩
 keep:=fun i h h' st k=>st.at fun o e=>k it (by simp) o e
 item:=by
  intro X hP hw hK hc i pins s σ H E I hf st hg;subst hP hw hK;obtain⟨xs,x,hq,hx⟩:=hg;obtain⟨its,rv,p,hz⟩:=I.tuple hq;obtain⟨u,hu,ru⟩:=rv.get hx;obtain⟨f0,f1,f2,f3,f4,f5⟩:=hf it (by simp);refine wpAny_pyNext_tuple_item st (show s.heap.IsTuple a its.toArray from p) (x:=u) (by simpa using hu) fun h' st' sb=>?_;have I1:Inv X pins σ H {s with heap:=h'}:=I.turned (t':=s.toks) (fun b o hb e=>(sb.2 b hb).trans e) f0 f1 f3 f4 f5;obtain⟨o,e,c,d⟩:=id st';exact⟨u,rfl,mQ (s:={s with heap:=h'}) e c d (by decide) ⟨x,H,I1,ru,⟨rfl,fun ys hy=>by rw[I.Jg hy hq];exact hx⟩,st',fun b hb=>(hf b hb).1⟩⟩
 done:=by
  intro X hP hw hK hc i pins s σ H E I hf st hg;subst hP hw hK;obtain⟨xs,hq,hx⟩:=hg;obtain⟨its,rv,p,hz⟩:=I.tuple hq;obtain⟨f0,f1,f2,f3,f4,f5⟩:=hf it (by simp);have hl:=rv.length;exact wpAny_pyNext_tuple_end (I.ok.hd hc) st (show s.heap.IsTuple a its.toArray from p) (by simp;lia) fun h' eb=>⟨rfl,I.turned (t':=s.toks) (fun b o hb e=>eb b o hb e) f0 f1 f3 f4 f5⟩
 self:=fun _ _ _ _ _ st h=>wpAny_pyIter_tupleiter st h
theorem mG{P:Program}{w:World}{K:PySem.W.Frag}{tg:Expr}(it:Addr)(lo:Int)(n:Nat):Turn P w K tg (Itr lo n) [it] it (fun i h=>IsRangeIter h it (lo+(i:Nat)*1) ((n:Int)-(i:Nat)) 1) where
 mem:=by simp
 obj:=fun i h st b hb=>by
  have e:b=it:=by simpa using hb
  subst e
  exact⟨_,st,fun v z=>by
   have z':Data.fields _=Data.cell v:=z
   cases z'⟩
 keep:=fun i h h' st k=>k it (by simp) _ st
 item:=by
  intro X hP hw hK hc i pins s σ H E I hf st hg;subst hP hw hK;obtain⟨f0,f1,f2,f3,f4,f5⟩:=hf it (by simp);have W:=Walks.range (prog:=X.prog) (w:=X.w) (I.ok.hd hc) it lo 1 n;refine W.item i s _ _ hg st fun v h' tk hv st' kk=>?_;obtain⟨t,rfl⟩:=hv;have I1:Inv X pins σ H {s with heap:=h',toks:=tk}:=I.turned (fun b o hb e=>kk b o (by simpa using hb) e) f0 f1 f3 f4 f5;refine⟨_,rfl,mQ (s:={s with heap:=h',toks:=tk}) (n:="range_iterator") st' rfl rfl (by decide) ⟨.int (lo+i),H,I1,⟨t,?_⟩,⟨rfl,rfl⟩,st',fun b hb=>(hf b hb).1⟩⟩;rw[Int.mul_one]
 done:=by
  intro X hP hw hK hc i pins s σ H E I hf st hg;subst hP hw hK;obtain⟨f0,f1,f2,f3,f4,f5⟩:=hf it (by simp);exact wpAny_pyNext_range_end (I.ok.hd hc) st (by have:n<=i:=hg;lia) fun h' eb=>⟨rfl,I.turned (t':=s.toks) (fun b o hb e=>eb b o hb e) f0 f1 f3 f4 f5⟩
 self:=fun _ _ _ _ _ st h=>wpAny_pyIter_rangeiter st h
section
variable {X:Cx}{tg:Expr}
def xX (K:W.Frag)(tl:TE):TI:=fun σ H R=>tl σ H fun x H1=>∃a,x=.ref a/\(∃xs,SqL K H1 a xs)/\R (Itl K a) H1
def iTup (K:W.Frag)(tl:TE):TI:=fun σ H R=>tl σ H fun x H1=>∃a,x=.ref a/\(∃xs,SqT K H1 a xs)/\R (Itt K a) H1
theorem aN{l:Expr}{tl:TE}(hl:PE X l tl):PI X tg l (xX X.K tl):=by
 intro pins s σ H R I h;refine thn (hl pins s σ H _ I h) fun v s1 hq20=>?_;obtain⟨x,H1,I1,r1,q1⟩:=hq20;obtain⟨a,e,⟨xs,hq⟩,q⟩:=q1;subst e;cases r1;obtain⟨its,rv,p,hz⟩:=I1.list hq;refine wpAny_pyIter_list p.isList ?_;refine⟨s1.heap.objs.size,[s1.heap.objs.size],_,_,H1,rfl,I1.kept (t':=s1.toks) fun b o e=>Fb _ e,qo a _,⟨_,Fc _ rfl,rfl,rfl⟩,fun b hb=>?_,q⟩;have e:b=s1.heap.objs.size:=by simpa using hb
 subst e;exact I1.JA (AH _) (I1.hok.fresh (AH _))
theorem oh{l:Expr}{tl:TE}(hl:PE X l tl):PI X tg l (iTup X.K tl):=by
 intro pins s σ H R I h;refine thn (hl pins s σ H _ I h) fun v s1 hq21=>?_;obtain⟨x,H1,I1,r1,q1⟩:=hq21;obtain⟨a,e,⟨xs,hq⟩,q⟩:=q1;subst e;cases r1;obtain⟨its,rv,p,hz⟩:=I1.tuple hq;refine wpAny_pyIter_tuple (show s1.heap.IsTuple a its.toArray from p) ?_;refine⟨s1.heap.objs.size,[s1.heap.objs.size],_,_,H1,rfl,I1.kept (t':=s1.toks) fun b o e=>Fb _ e,mD a _,⟨_,Fc _ rfl,rfl,rfl⟩,fun b hb=>?_,q⟩;have e:b=s1.heap.objs.size:=by simpa using hb
 subst e;exact I1.JA (AH _) (I1.hok.fresh (AH _))
theorem lJ{pins:List (Addr×Obj)}{σ:St}{H:Hp}{s:Shared}{R:It->Hp->Prop}{E:Value->Shared->Prop}{lo hi:Int}{t u v:Tok}{tk:Nat}(I:Inv X pins σ H s)(h1:-(2^62)<=lo)(h2:lo<2^62)(h3:-(2^62)<=hi)(h4:hi<2^62)
  (q:R (Itr lo (hi-lo).toNat) H):(wq X) (pyIter (.ref s.heap.objs.size)) (PIE X pins σ tg R) E {s with heap:=s.heap.push {cls:=.type "range",data:=.fields #[.int lo t,.int hi u,.int 1 v]},toks:=tk}:=by
 refine wpAny_pyIter_range (IsRange.new ..) (small_one h1 h2 h3 h4) ?_;have I1:Inv X pins σ H {s with heap:=s.heap.push {cls:=.type "range",data:=.fields #[.int lo t,.int hi u,.int 1 v]},toks:=tk}:=I.kept fun b o e=>Fb _ e
 refine⟨(s.heap.push { cls:=.type "range",data:=.fields #[.int lo t,.int hi u,.int 1 v] }).objs.size,[(s.heap.push { cls:=.type "range",data:=.fields #[.int lo t,.int hi u,.int 1 v] }).objs.size],_,_,H,rfl,
  I1.kept (t':=tk) fun b o e=>Fb _ e,mG _ lo (hi-lo).toNat,?_,fun b hb=>?_,q⟩
 ·have e1:lo+((0:Nat):Int)*1=lo:=by simp
  have e2:(((hi-lo).toNat:Nat):Int)-((0:Nat):Int)=Builtin.Range.rangeSize lo hi 1:=by rw[rangeSize_one];split<;>lia
  show IsRangeIter _ _ (lo+((0:Nat):Int)*1) ((((hi-lo).toNat:Nat):Int)-((0:Nat):Int)) 1;rw[e1,e2];exact Fc _ rfl
 ·have e:b=(s.heap.push {cls:=.type "range",data:=.fields #[.int lo t,.int hi u,.int 1 v]}).objs.size:=by simpa using hb
  subst e;exact I1.JA (AH _) (I1.hok.fresh (AH _))
def xr (ta:TA):TI:=fun σ H R=>ta σ H fun vs H1=>∃j:Int,vs=[.int j]/\-(2^62)<=j/\j<2^62/\R (Itr 0 j.toNat) H1
def xu (ta:TA):TI:=fun σ H R=>ta σ H fun vs H1=>∃i j:Int,vs=[.int i,.int j]/\(-(2^62)<=i/\i<2^62/\-(2^62)<=j/\j<2^62)/\R (Itr i (j-i).toNat) H1
theorem bb{a:Expr}{ta:TA}{p pos:Pos}(hg:Gl X "range")(hm:X.mg "range"=none)(ha:PA X [a] ta)(hs:starEach [a] X.env=[(false,eval a X.env)]:=by rfl):PI X tg (.Call (.Name "range" p) [a] [] pos) (xr ta):=by
 intro pins s σ H R I h;refine Call_ (eF I hg hm boot_range (PyProof.Rows.callWith_type1 (thn (ha pos pins s σ H _ I h) fun us s1 hq22=>?_) hs rfl));obtain⟨vs,H1,I1,r1,q1⟩:=hq22;obtain⟨j,e,q1,q2,q⟩:=q1;subst e;cases r1 with
 |cons r rr=>
  cases rr;obtain⟨t,rfl⟩:=r;exact call_range_1 (lJ I1 (by lia) (by lia) q1 q2 (by simpa using q))
theorem hV{a b:Expr}{ta:TA}{p pos:Pos}(hg:Gl X "range")(hm:X.mg "range"=none)(ha:PA X [a,b] ta)(hs:starEach [a,b] X.env=[(false,eval a X.env),(false,eval b X.env)]:=by rfl)(hs2:starEach [b] X.env=[(false,eval b X.env)]:=by rfl) :
  PI X tg (.Call (.Name "range" p) [a,b] [] pos) (xu ta):=by
 intro pins s σ H R I h;refine Call_ (eF I hg hm boot_range (PyProof.Rows.callWith_type1 (thn (ha pos pins s σ H _ I h) fun us s1 hq23=>?_) (by rw[hs,hs2]) (by rw[hs2];rfl)));obtain⟨vs,H1,I1,r1,q1⟩:=hq23;obtain⟨i,j,e,⟨q1,q2,q3,q4⟩,q⟩:=q1;subst e;cases r1 with
 |cons r rr=>
  cases rr with
  |cons r' rr=>
   cases rr;obtain⟨t,rfl⟩:=r;obtain⟨t',rfl⟩:=r';exact call_range_2 (lJ I1 q1 q2 q3 q4 q)
def tFor (wi:TI)(g:TG)(tb:TS):TS:=fun D σ H=>wi σ H fun J H1=>∃W:Nat->Nat->St->Hp->Prop,(∃m,W 0 m σ H1)/\∀i m σ H,W i m σ H ->
 (J.stop i H/\D.nx σ H)\/(J.go i H/\∃N:St->Hp->Prop,(∀σ' H',N σ' H'->∃m',m'<m/\W (i+1) m' σ' H')/\∀x H',J.yld i H x H'->g x σ H' fun σ2 H2=>tb {D with nx:=N,ct:=N,bk:=D.nx} σ2 H2)
def cH (fp:List Addr)(h:Heap):List (Addr×Obj):=fp.filterMap fun b=>(h.get? b).map fun o=>(b,o)
theorem aQ{fp:List Addr}{h:Heap}{b:Addr}{o:Obj}(hb:b∈fp)(e:h.get? b=some o):(b,o)∈cH fp h:=BW.mpr ⟨b,hb,by rw[e];rfl⟩
theorem iA{fp:List Addr}{h:Heap}{p:Addr×Obj}(hp:p∈cH fp h):p.1∈fp/\h.get? p.1=some p.2:=by
 obtain⟨b,hb,e⟩:=BW.mp hp;cases q:h.get? b with
 |none=>rw[q] at e;cases e
 |some o=>
  rw[q] at e;have e':(b,o)=p:=EM e;subst e';exact⟨hb,q⟩
theorem Inv.pinned{pins:List (Addr×Obj)}{σ:St}{H:Hp}{s:Shared}{fp:List Addr}(I:Inv X pins σ H s)(hf:∀b∈fp,FY X pins H b)(ho:∀b∈fp,∃o,s.heap.get? b=some o/\∀v,o.data≠.cell v):Inv X (pins++cH fp s.heap) σ H s:=
 I.Ge fun p hp=>(AO.mp hp).elim (fun z=>I.pin p (AV _ z)) fun z=>by
  obtain⟨hb,e⟩:=iA z;obtain⟨f0,f1,f2,_⟩:=hf p.1 hb;obtain⟨o,e',d⟩:=ho p.1 hb;rw[e] at e';cases e';exact⟨e,f0,f1,f2,d⟩
theorem Inv.FC{pins pl:List (Addr×Obj)}{σ:St}{H:Hp}{s:Shared}(I:Inv X (pins++pl) σ H s):Inv X pins σ H s:=I.Ge fun p hp=>I.pin p (AV _ (Bo _ hp))
theorem bB{iter:Expr}{body:List Stmt}{wi:TI}{g:TG}{tb:TS}{pos:Pos}(hp:PassesOwn (model X.prog X.w) X.A X.env X.xe)(hc:X.calm=true)(hi:PI X tg iter wi)(hg:PG X tg g)(hb:PSs X body tb)
  (hs:∀x,foldedSetIterable iter X.env x=pure x:=by intro _;rfl):PS X (.For tg iter body [] pos) (tFor wi g tb):=by
 intro pins s σ H D I h;refine wpAny_For (thn (hi pins s σ H _ I h) fun v s1 h1=>thn h1 fun itv s2 h2=>?_) hs;obtain⟨it,fp,tn,J,H2,e,I2,T,st2,f2,W,⟨m0,w0⟩,turn⟩:=h2;subst e;have stat:∀{H':Hp},(∀b∈fp,H' b=none)->∀b∈fp,FY X pins H' b:=fun hn b hb=>⟨hn b hb,(f2 b hb).2⟩
 refine codeAny_forLoop_any (fun n s'=>∃i σ' H',Inv X pins σ' H' s'/\tn i s'.heap/\(∀b∈fp,H' b=none)/\W i n σ' H') ?_ m0 ⟨0,σ,H2,I2,st2,fun b hb=>(f2 b hb).1,w0⟩;rintro n s3 ⟨i,σ3,H3,I3,st3,fr3,w3⟩;rcases turn i n σ3 H3 w3 with ⟨stop,qn⟩|⟨go,N,hN,step⟩
 ·refine wpAny_passesOwn hp (thn (T.done X rfl rfl rfl hc i pins s3 σ3 H3 X.xe I3 (stat fr3) st3 stop) fun r s4 hq24=>?_);obtain⟨hr,I4⟩:=hq24;subst hr;exact wpAny_execs_nil ⟨σ3,H3,I4,qn⟩
 ·refine wpAny_passesOwn hp (thn (T.item X rfl rfl rfl hc i pins s3 σ3 H3 X.xe I3 (stat fr3) st3 go) fun r s4 hq25=>?_);obtain⟨u,hr,h4⟩:=hq25;subst hr;refine wpAny_passesOwn hp (thn h4 fun _ s5 hq26=>?_);obtain⟨x,H5,I5,r5,y5,st5,fr5⟩:=hq26;have I5':=I5.pinned (stat fr5) (T.obj _ _ st5);refine wpAny_passesOwn hp (thn (hg _ s5 σ3 H5 x u _ I5' r5 (step x H5 y5)) fun _ s6 hq27=>?_);obtain⟨σ6,H6,I6,q6⟩:=hq27;refine wpAny_passesOwn hp (thn (hb _ s6 σ6 H6 _ I6 q6) fun f s7 q7=>?_);have again:∀{σ7:St}{H7:Hp},Inv X (pins++cH fp s5.heap) σ7 H7 s7->N σ7 H7->∃m,m<n/\∃i σ' H',Inv X pins σ' H' s7/\tn i s7.heap/\(∀b∈fp,H' b=none)/\W i m σ' H':=fun {σ7 H7} I7 n7=>by
   obtain⟨m',hm,w7⟩:=hN σ7 H7 n7;refine⟨m',hm,i+1,σ7,H7,I7.FC,T.keep _ _ _ st5 fun b hb o e=>(I7.pin (b,o) (AV _ (AV _ (aQ hb e)))).1,fun b hb=>?_,w7⟩;obtain⟨o,e,d⟩:=T.obj _ _ st5 b hb;exact(I7.pin (b,o) (AV _ (AV _ (aQ hb e)))).2.1
  cases f with
  |next=>obtain⟨σ7,H7,I7,n7⟩:=q7;exact again I7 n7
  |cont=>obtain⟨σ7,H7,I7,n7⟩:=q7;exact again I7 n7
  |brk=>obtain⟨σ7,H7,I7,q7⟩:=q7;exact⟨σ7,H7,I7.FC,q7⟩
  |ret v=>obtain⟨x7,σ7,H7,I7,r7,q7⟩:=q7;exact⟨x7,σ7,H7,I7.FC,r7,q7⟩
end
theorem eU{K:PySem.W.Frag}{a:Addr}{xs:List V}{g:TG}{tb:TS}{D:Ends}{σ:St}{H:Hp}(Pv:Nat->St->Hp->Prop)(h0:Pv 0 σ H)(hl:∀i σ H,i<=xs.length->Pv i σ H->SqL K H a xs)
  (hs:∀i x σ H,xs[i]?=some x->Pv i σ H->g x σ H fun σ2 H2=>tb {D with nx:=Pv (i+1),ct:=Pv (i+1),bk:=D.nx} σ2 H2)(hd:∀σ H,Pv xs.length σ H->D.nx σ H) :
  ∃W:Nat->Nat->St->Hp->Prop,(∃m,W 0 m σ H)/\∀i m σ H,W i m σ H ->
   ((Itl K a).stop i H/\D.nx σ H)\/((Itl K a).go i H/\∃N:St->Hp->Prop,(∀σ' H',N σ' H'->∃m',m'<m/\W (i+1) m' σ' H')/\∀x H',(Itl K a).yld i H x H'->g x σ H' fun σ2 H2=>tb {D with nx:=N,ct:=N,bk:=D.nx} σ2 H2):=by
 refine⟨fun i m σ H=>m=xs.length-i/\i<=xs.length/\Pv i σ H,⟨xs.length,by simp,Bi _,h0⟩,?_⟩;rintro i m σ H ⟨rfl,hi,p⟩;have q:=hl i σ H hi p;by_cases hlt:i<xs.length
 ·refine .inr ⟨⟨xs,xs[i],q,by simp[hlt]⟩,Pv (i+1),fun σ' H' p'=>⟨xs.length-(i+1),by lia,rfl,hlt,p'⟩,fun x H' y=>?_⟩;obtain⟨e,y⟩:=y;subst e;exact hs i x σ _ (y xs q) p
 ·have e:i=xs.length:=by lia
  subst e;exact .inl ⟨⟨xs,q,AH _⟩,hd σ H p⟩
theorem oU{K:PySem.W.Frag}{a:Addr}{xs:List V}{g:TG}{tb:TS}{D:Ends}{σ:St}{H:Hp}(Pv:Nat->St->Hp->Prop)(h0:Pv 0 σ H)(hl:∀i σ H,i<=xs.length->Pv i σ H->SqT K H a xs)
  (hs:∀i x σ H,xs[i]?=some x->Pv i σ H->g x σ H fun σ2 H2=>tb {D with nx:=Pv (i+1),ct:=Pv (i+1),bk:=D.nx} σ2 H2)(hd:∀σ H,Pv xs.length σ H->D.nx σ H) :
  ∃W:Nat->Nat->St->Hp->Prop,(∃m,W 0 m σ H)/\∀i m σ H,W i m σ H ->
   ((Itt K a).stop i H/\D.nx σ H)\/((Itt K a).go i H/\∃N:St->Hp->Prop,(∀σ' H',N σ' H'->∃m',m'<m/\W (i+1) m' σ' H')/\∀x H',(Itt K a).yld i H x H'->g x σ H' fun σ2 H2=>tb {D with nx:=N,ct:=N,bk:=D.nx} σ2 H2):=by
 refine⟨fun i m σ H=>m=xs.length-i/\i<=xs.length/\Pv i σ H,⟨xs.length,by simp,Bi _,h0⟩,?_⟩;rintro i m σ H ⟨rfl,hi,p⟩;have q:=hl i σ H hi p;by_cases hlt:i<xs.length
 ·refine .inr ⟨⟨xs,xs[i],q,by simp[hlt]⟩,Pv (i+1),fun σ' H' p'=>⟨xs.length-(i+1),by lia,rfl,hlt,p'⟩,fun x H' y=>?_⟩;obtain⟨e,y⟩:=y;subst e;exact hs i x σ _ (y xs q) p
 ·have e:i=xs.length:=by lia
  subst e;exact .inl ⟨⟨xs,q,AH _⟩,hd σ H p⟩
theorem bZ{lo:Int}{n:Nat}{g:TG}{tb:TS}{D:Ends}{σ:St}{H:Hp}(Pv:Nat->St->Hp->Prop)(h0:Pv 0 σ H)
  (hs:∀i σ H,i<n->Pv i σ H->g (.int (lo+i)) σ H fun σ2 H2=>tb {D with nx:=Pv (i+1),ct:=Pv (i+1),bk:=D.nx} σ2 H2)(hd:∀σ H,Pv n σ H->D.nx σ H) :
  ∃W:Nat->Nat->St->Hp->Prop,(∃m,W 0 m σ H)/\∀i m σ H,W i m σ H ->
   ((Itr lo n).stop i H/\D.nx σ H)\/((Itr lo n).go i H/\∃N:St->Hp->Prop,(∀σ' H',N σ' H'->∃m',m'<m/\W (i+1) m' σ' H')/\∀x H',(Itr lo n).yld i H x H'->g x σ H' fun σ2 H2=>tb {D with nx:=N,ct:=N,bk:=D.nx} σ2 H2):=by
 refine⟨fun i m σ H=>m=n-i/\i<=n/\Pv i σ H,⟨n,by simp,Bi _,h0⟩,?_⟩;rintro i m σ H ⟨rfl,hi,p⟩;by_cases hlt:i<n
 ·refine .inr ⟨hlt,Pv (i+1),fun σ' H' p'=>⟨n-(i+1),by lia,rfl,hlt,p'⟩,fun x H' y=>?_⟩;obtain⟨e,y⟩:=y;subst e y;exact hs i σ _ hlt p
 ·have e:i=n:=by lia
  subst e;exact .inl ⟨AH _,hd σ H p⟩
abbrev R2:=V->V->Hp->VK->Prop
def OpR (X:Cx)(f:Value->Value->Sem Value)(r:R2):Prop:=
 ∀(pins:List (Addr×Obj))(s:Shared)(σ:St)(H:Hp)(x y:V)(v u:Value)(Q:VK),Inv X pins σ H s->RelV x v->RelV y u->r x y H Q ->
  (wq X) (f v u) (EP X pins σ Q) X.xe s
def UnR (X:Cx)(f:Value->Sem Value)(r:V->Hp->VK->Prop):Prop:=
 ∀(pins:List (Addr×Obj))(s:Shared)(σ:St)(H:Hp)(x:V)(v:Value)(Q:VK),Inv X pins σ H s->RelV x v->r x H Q ->
  (wq X) (f v) (EP X pins σ Q) X.xe s
def cq (X:Cx)(f:Value)(r:List V->Hp->VK->Prop):Prop:=
 ∀(pins:List (Addr×Obj))(s:Shared)(σ:St)(H:Hp)(xs:List V)(us:List Value)(Q:VK),Inv X pins σ H s->Vals xs us->r xs H Q ->
  (wq X) (call f us) (EP X pins σ Q) X.xe s
def TruR (X:Cx)(r:V->Hp->(Bool->Hp->Prop)->Prop):Prop:=
 ∀(pins:List (Addr×Obj))(s:Shared)(σ:St)(H:Hp)(x:V)(v:Value)(Q:Bool->Hp->Prop),Inv X pins σ H s->RelV x v->r x H Q ->
  (wq X) (truthy v) (TP X pins σ Q) X.xe s
def tOp (r:R2)(ta tb:TE):TE:=fun σ H Q=>ta σ H fun x H1=>tb σ H1 fun y H2=>r x y H2 Q
def tUn (r:V->Hp->VK->Prop)(ta:TE):TE:=fun σ H Q=>ta σ H fun x H1=>r x H1 Q
def rI (C:Int->Int->Prop)(g:Int->Int->V):R2:=fun x y H Q=>∃i j,x=.int i/\y=.int j/\C i j/\Q (g i j) H
def rI0 (g:Int->Int->V):R2:=fun x y H Q=>∃i j,x=.int i/\y=.int j/\Q (g i j) H
def rU (g:Int->V):V->Hp->VK->Prop:=fun x H Q=>∃i,x=.int i/\Q (g i) H
section
variable {X:Cx}{a b c:Expr}{ta tb tc:TE}{pos:Pos}
theorem xk(ha:PE X a ta)(hb:PE X b tb){pins:List (Addr×Obj)}{s:Shared}{σ:St}{H:Hp}{R:V->V->Hp->Prop}(I:Inv X pins σ H s)
  (h:ta σ H fun x H1=>tb σ H1 fun y H2=>R x y H2){Q:Value->Shared->Prop}{f:Value->Value->Sem Value}
  (hf:∀v u s2 x y H2,Inv X pins σ H2 s2->RelV x v->RelV y u->R x y H2->(wq X) (f v u) Q X.xe s2) :
  (wq X) (eval a X.env) (fun v s₁=>(wq X) (eval b X.env) (fun u s₂=>(wq X) (f v u) Q X.xe s₂) X.xe s₁) X.xe s:=by
 refine thn (ha pins s σ H _ I h) fun v s1 hq28=>?_;obtain⟨x,H1,I1,r1,q1⟩:=hq28;refine thn (hb pins s1 σ H1 _ I1 q1) fun u s2 hq29=>?_;obtain⟨y,H2,I2,r2,q2⟩:=hq29;exact hf v u s2 x y H2 I2 r1 r2 q2
theorem az{op:Operator}{r:R2}(ho:OpR X (binaryOp op) r)(ha:PE X a ta)(hb:PE X b tb):PE X (.BinOp a op b pos) (tOp r ta tb):=by
 intro pins s σ H Q I h;exact wpAny_BinOp (xk ha hb I h fun v u s2 x y H2 I2 rx ry q=>ho pins s2 σ H2 x y v u Q I2 rx ry q)
theorem rp{op:UnaryOp}{r:V->Hp->VK->Prop}(ho:UnR X (unaryOp op) r)(ha:PE X a ta):PE X (.UnaryOp op a pos) (tUn r ta):=by
 intro pins s σ H Q I h;refine UnaryOp_ (thn (ha pins s σ H _ I h) fun v s1 hq30=>?_);obtain⟨x,H1,I1,r1,q1⟩:=hq30;exact ho pins s1 σ H1 x v Q I1 r1 q1
theorem opI{f:Value->Value->Sem Value}{C:Int->Int->Prop}{g:Int->Int->Int}
  (rule:∀(i j:Int)(t u:Tok)(s:Shared)(Q:Value->Shared->Prop)(E:Value->Shared->Prop),C i j->Q (.int (g i j) s.toks) {s with toks:=s.toks+1}->(wq X) (f (.int i t) (.int j u)) Q E s) :
  OpR X f (rI C fun i j=>.int (g i j)):=by
 intro pins s σ H x y v u Q I rx ry h;obtain⟨i,j,rfl,rfl,hc,q⟩:=h;obtain⟨t,rfl⟩:=rx;obtain⟨t',rfl⟩:=ry;exact rule i j t t' s _ _ hc ⟨.int (g i j),H,I.tok _,⟨_,rfl⟩,q⟩
theorem yB{f:Value->Value->Sem Value}{g:Int->Int->Int}
  (rule:∀(i j:Int)(t u:Tok)(s:Shared)(Q:Value->Shared->Prop)(E:Value->Shared->Prop),Q (.int (g i j) s.toks) {s with toks:=s.toks+1}->(wq X) (f (.int i t) (.int j u)) Q E s) :
  OpR X f (rI0 fun i j=>.int (g i j)):=by
 intro pins s σ H x y v u Q I rx ry h;obtain⟨i,j,rfl,rfl,q⟩:=h;obtain⟨t,rfl⟩:=rx;obtain⟨t',rfl⟩:=ry;exact rule i j t t' s _ _ ⟨.int (g i j),H,I.tok _,⟨_,rfl⟩,q⟩
theorem xo{f:Value->Value->Sem Value}{g:Int->Int->Bool}
  (rule:∀(i j:Int)(t u:Tok)(s:Shared)(Q:Value->Shared->Prop)(E:Value->Shared->Prop),Q (.bool (g i j)) s->(wq X) (f (.int i t) (.int j u)) Q E s) :
  OpR X f (rI0 fun i j=>.bl (g i j)):=by
 intro pins s σ H x y v u Q I rx ry h;obtain⟨i,j,rfl,rfl,q⟩:=h;obtain⟨t,rfl⟩:=rx;obtain⟨t',rfl⟩:=ry;exact rule i j t t' s _ _ ⟨.bl (g i j),H,I,rfl,q⟩
def CDiv (i j:Int):Prop:=0<j/\j<1073741824
def CPow (i j:Int):Prop:=0<=j/\j<=1000000/\i.natAbs<2^64
def LH (i j:Int):Prop:=(-(2^64)<i/\i<2^64)\/(-(2^64)<j/\j<2^64)
theorem LH.ok{i j:Int}(h:LH i j):IntMulOk i j:=by
 rcases h with ⟨h1,h2⟩|⟨h1,h2⟩
 ·exact .of_left (intBits_le_64 h1 h2)
 ·exact .of_right (intBits_le_64 h1 h2)
theorem Fy:OpR X (binaryOp .Add) (rI0 fun i j=>.int (i+j)):=yB fun _ _ _ _ _ _ _ q=>add_int q
theorem GI:OpR X (binaryOp .Sub) (rI0 fun i j=>.int (i-j)):=yB fun _ _ _ _ _ _ _ q=>sub_int q
theorem FV:OpR X (binaryOp .Mult) (rI LH fun i j=>.int (i*j)):=opI fun _ _ _ _ _ _ _ hc q=>mul_int q hc.ok
theorem Jb:OpR X (binaryOp .FloorDiv) (rI CDiv fun i j=>.int (i/j)):=opI fun i j _ _ _ _ _ hc q=>by
 have h1:(0:Int)<j:=hc.1;have h2:j<1073741824:=hc.2;exact floordiv_int (by lia) (by rw[Er i (by lia)];exact q) (.inl (PyProof.noPylong_small (by lia)))
theorem FW:OpR X (binaryOp .Mod) (rI (fun _ j=>0<j) fun i j=>.int (i % j)):=opI fun i j _ _ _ _ _ hc q=>by
 have h1:(0:Int)<j:=hc;exact mod_int' (by lia) (by rw[Int.fmod_eq_emod_of_nonneg i (by lia)];exact q)
theorem Ic:OpR X (binaryOp .Pow) (rI CPow fun i j=>.int (i^j.toNat)):=opI fun _ _ _ _ _ _ _ hc q=>pow_int_small hc.1 hc.2.1 hc.2.2 q
theorem unI{f:Value->Sem Value}{g:Int->Int}
  (rule:∀(i:Int)(t:Tok)(s:Shared)(Q:Value->Shared->Prop)(E:Value->Shared->Prop),Q (.int (g i) s.toks) {s with toks:=s.toks+1}->(wq X) (f (.int i t)) Q E s) :
  UnR X f (rU fun i=>.int (g i)):=by
 intro pins s σ H x v Q I rx h;obtain⟨i,rfl,q⟩:=h;obtain⟨t,rfl⟩:=rx;exact rule i t s _ _ ⟨.int (g i),H,I.tok _,⟨_,rfl⟩,q⟩
theorem IE:UnR X (unaryOp .USub) (rU fun i=>.int (-i)):=unI fun _ _ _ _ _ q=>neg_int q
end
def LU:V->V->Bool
 |.non,.non=>true|.non,.int _=>true|.int _,.non=>true|.non,.bl _=>true|.bl _,.non=>true|.non,.str _=>true|.str _,.non=>true
 |.int _,.int _=>true|.bl _,.bl _=>true|.str _,.str _=>true|.byt _,.byt _=>true
 |.int _,.str _=>true|.str _,.int _=>true|.bl _,.str _=>true|.str _,.bl _=>true
 |_,_=>false
def rEq:R2:=fun x y H Q=>LU x y=true/\Q (.bl (decide (x=y))) H
def rNe:R2:=fun x y H Q=>LU x y=true/\Q (.bl (!decide (x=y))) H
theorem nE{i j:Int}:decide (V.int i=V.int j)=(i==j):=by
 rw[Fe];simp
theorem sh{i j:Bool}:decide (V.bl i=V.bl j)=(i==j):=by
 rw[Fe];simp
theorem oN{i j:Str}:decide (V.str i=V.str j)=(i==j):=by
 rw[Fe];simp
theorem oX{i j:Array UInt8}:decide (V.byt i=V.byt j)=(i.toList==j.toList):=by
 rw[Fe];cases i;cases j;simp
section
variable {X:Cx}{a b c:Expr}{ta tb tc:TE}{pos:Pos}
theorem aP{pins:List (Addr×Obj)}{σ:St}{H:Hp}{s:Shared}{Q:VK}{k k':Bool}(I:Inv X pins σ H s)(q:Q (.bl k) H)(e:k=k'):EP X pins σ Q (.bool k') s:=by
 subst e;exact⟨.bl k,H,I,rfl,q⟩
theorem GP:OpR X (compareOp .Eq) rEq:=by
 intro pins s σ H x y v u Q I rx ry h;obtain⟨hs,q⟩:=h;cases x with
 |non=>
  cases rx;cases y with
  |non=>cases ry;exact PySem.EqNone.eq_none_none (aP I q (by simp))
  |bl j=>cases ry;exact PySem.EqNone.eq_none_bool (aP I q (by simp))
  |int j=>obtain⟨t',rfl⟩:=ry;exact PySem.EqNone.eq_none_int (aP I q (by simp))
  |str j=>obtain⟨t',rfl⟩:=ry;exact PySem.EqNone.eq_none_str (aP I q (by simp))
  |_=>exact absurd (show false=true from hs) Bm
 |bl i=>
  cases rx;cases y with
  |non=>cases ry;exact PySem.EqNone.eq_bool_none (aP I q (by simp))
  |bl j=>cases ry;exact eq_bool (aP I q sh)
  |str j=>obtain⟨t',rfl⟩:=ry;exact PySem.EqMixed.eq_bool_str (aP I q (by simp))
  |_=>exact absurd (show false=true from hs) Bm
 |int i=>
  obtain⟨t,rfl⟩:=rx;cases y with
  |non=>cases ry;exact PySem.EqNone.eq_int_none (aP I q (by simp))
  |int j=>obtain⟨t',rfl⟩:=ry;exact eq_int (aP I q nE)
  |str j=>obtain⟨t',rfl⟩:=ry;exact PySem.EqMixed.eq_int_str (aP I q (by simp))
  |_=>exact absurd (show false=true from hs) Bm
 |str i=>
  obtain⟨t,rfl⟩:=rx;cases y with
  |non=>cases ry;exact PySem.EqNone.eq_str_none (aP I q (by simp))
  |bl j=>cases ry;exact PySem.EqMixed.eq_str_bool (aP I q (by simp))
  |int j=>obtain⟨t',rfl⟩:=ry;exact PySem.EqMixed.eq_str_int (aP I q (by simp))
  |str j=>obtain⟨t',rfl⟩:=ry;exact eq_str (aP I q oN)
  |_=>exact absurd (show false=true from hs) Bm
 |byt i=>
  obtain⟨t,rfl⟩:=rx;cases y with
  |byt j=>obtain⟨t',rfl⟩:=ry;exact W.eq_bytes (aP I q oX)
  |_=>exact absurd (show false=true from hs) Bm
 |_=>cases y<;>exact absurd (show false=true from hs) Bm
theorem Jr:OpR X (compareOp .NotEq) rNe:=by
 intro pins s σ H x y v u Q I rx ry h;obtain⟨hs,q⟩:=h;cases x with
 |non=>
  cases rx;cases y with
  |non=>cases ry;exact PySem.EqNone.ne_none_none (aP I q (by simp))
  |bl j=>cases ry;exact PySem.EqNone.ne_none_bool (aP I q (by simp))
  |int j=>obtain⟨t',rfl⟩:=ry;exact PySem.EqNone.ne_none_int (aP I q (by simp))
  |str j=>obtain⟨t',rfl⟩:=ry;exact PySem.EqNone.ne_none_str (aP I q (by simp))
  |_=>exact absurd (show false=true from hs) Bm
 |bl i=>
  cases rx;cases y with
  |non=>cases ry;exact PySem.EqNone.ne_bool_none (aP I q (by simp))
  |bl j=>cases ry;exact ne_bool (aP I q (congrArg not sh))
  |str j=>obtain⟨t',rfl⟩:=ry;exact PySem.EqMixed.ne_bool_str (aP I q (by simp))
  |_=>exact absurd (show false=true from hs) Bm
 |int i=>
  obtain⟨t,rfl⟩:=rx;cases y with
  |non=>cases ry;exact PySem.EqNone.ne_int_none (aP I q (by simp))
  |int j=>obtain⟨t',rfl⟩:=ry;exact ne_int (aP I q (congrArg not nE))
  |str j=>obtain⟨t',rfl⟩:=ry;exact PySem.EqMixed.ne_int_str (aP I q (by simp))
  |_=>exact absurd (show false=true from hs) Bm
 |str i=>
  obtain⟨t,rfl⟩:=rx;cases y with
  |non=>cases ry;exact PySem.EqNone.ne_str_none (aP I q (by simp))
  |bl j=>cases ry;exact PySem.EqMixed.ne_str_bool (aP I q (by simp))
  |int j=>obtain⟨t',rfl⟩:=ry;exact PySem.EqMixed.ne_str_int (aP I q (by simp))
  |str j=>obtain⟨t',rfl⟩:=ry;exact ne_str (aP I q (congrArg not oN))
  |_=>exact absurd (show false=true from hs) Bm
 |byt i=>
  obtain⟨t,rfl⟩:=rx;cases y with
  |byt j=>obtain⟨t',rfl⟩:=ry;exact W.ne_bytes (aP I q (congrArg not oX))
  |_=>exact absurd (show false=true from hs) Bm
 |_=>cases y<;>exact absurd (show false=true from hs) Bm
theorem JD:OpR X (compareOp .Lt) (rI0 fun i j=>.bl (decide (i<j))):=xo fun _ _ _ _ _ _ _ q=>lt_int q
theorem IJ:OpR X (compareOp .LtE) (rI0 fun i j=>.bl (decide (i<=j))):=xo fun _ _ _ _ _ _ _ q=>le_int q
theorem GY:OpR X (compareOp .Gt) (rI0 fun i j=>.bl (decide (j<i))):=xo fun _ _ _ _ _ _ _ q=>gt_int q
theorem Jk:OpR X (compareOp .GtE) (rI0 fun i j=>.bl (decide (j<=i))):=xo fun _ _ _ _ _ _ _ q=>ge_int q
theorem JK:OpR X (compareOp .Is) (fun x y H Q=>y=.non/\Q (.bl (decide (x=.non))) H):=by
 intro pins s σ H x y v u Q I rx ry h;obtain⟨rfl,q⟩:=h;cases ry;refine is_none_gen (aP I q ?_);cases x<;>first
  |(cases rx;rfl)
  |(obtain⟨t,rfl⟩:=rx;rfl)
theorem Jf:OpR X (compareOp .IsNot) (fun x y H Q=>y=.non/\Q (.bl (!decide (x=.non))) H):=by
 intro pins s σ H x y v u Q I rx ry h;obtain⟨rfl,q⟩:=h;cases ry;refine isnot_none_gen (aP I q ?_);cases x<;>first
  |(cases rx;rfl)
  |(obtain⟨t,rfl⟩:=rx;rfl)
theorem aE(b:Expr){op:CmpOp}(h:op≠.In:=by decide)(h2:op≠.NotIn:=by decide):behindInMarks op b=false:=by
 have e1:(op==CmpOp.In)=false:=by cases op<;>first|rfl|exact absurd rfl h
 have e2:(op==CmpOp.NotIn)=false:=by cases op<;>first|rfl|exact absurd rfl h2
 cases b<;>simp[behindInMarks,e1,e2]
theorem dP{op:CmpOp}{r:R2}(ho:OpR X (compareOp op) r)(ha:PE X a ta)(hb:PE X b tb)(hm:behindInMarks op b=false):PE X (.Compare a [op] [b] pos) (tOp r ta tb):=by
 intro pins s σ H Q I h;exact wpAny_Compare1 (xk ha hb I h fun v u s2 x y H2 I2 rx ry q=>ho pins s2 σ H2 x y v u Q I2 rx ry q) hm
def vL (t:TE):TT:=fun σ H Q=>t σ H fun x H'=>∃k,x=.bl k/\Q k H'
theorem aA{op:CmpOp}{r:R2}(ho:OpR X (compareOp op) r)(ha:PE X a ta)(hb:PE X b tb)(hm:behindInMarks op b=false):PT X (.Compare a [op] [b] pos) (vL (tOp r ta tb)):=by
 intro pins s σ H Q I h
 refine wpAny_isTrue_Compare1 (thn (ha pins s σ H _ I h) fun v s1 ⟨x,H1,I1,r1,q1⟩=>thn (hb pins s1 σ H1 _ I1 q1) fun u s2 ⟨y,H2,I2,r2,q2⟩ =>
  thn (ho pins s2 σ H2 x y v u _ I2 r1 r2 q2) fun c s3 ⟨z,H3,I3,r3,k,e,q3⟩=>?_) hm
 subst e;cases r3;exact wpAny_truthy_bool ⟨H3,I3,q3⟩
def wz (r r':R2)(ta tb tc:TE):TE:=fun σ H Q=>ta σ H fun x H1=>tb σ H1 fun y H2=>r x y H2 fun z H3=>∃k,z=.bl k /\
 (if k=true then tc σ H3 fun w' H4=>r' y w' H4 Q else Q (.bl false) H3)
theorem lA{op op':CmpOp}{r r':R2}(ho:OpR X (compareOp op) r)(ho':OpR X (compareOp op') r')(ha:PE X a ta)(hb:PE X b tb)(hc:PE X c tc)
  (hm:lastMarks [op,op'] [b,c]=false:=by with_unfolding_all rfl):PT X (.Compare a [op,op'] [b,c] pos) (vL (wz r r' ta tb tc)):=by
 intro pins s σ H Q I h
 refine isTrue_chain (thn (ha pins s σ H _ I h) fun v s1 ⟨x,H1,I1,r1,q1⟩=>test_link (thn (hb pins s1 σ H1 _ I1 q1) fun u s2 ⟨y,H2,I2,r2,q2⟩ =>
  thn (ho pins s2 σ H2 x y v u _ I2 r1 r2 q2) fun d s3 ⟨z,H3,I3,r3,k,e,q3⟩=>?_)) hm
 subst e;cases r3;refine wpAny_truthy_bool ?_;cases k with
 |false=>
  obtain⟨k',e',q'⟩:=q3;cases e';exact ite_ff ⟨H3,I3,q'⟩
 |true=>
  refine ite_tt (test_last (thn (hc pins s3 σ H3 _ I3 q3) fun w' s4 hq31=>?_));obtain⟨z',H4,I4,r4,q4⟩:=hq31;refine thn (ho' pins s4 σ H4 y z' u w' _ I4 r2 r4 q4) fun d' s5 ⟨z2,H5,I5,r5,k2,e2,q5⟩=>?_;subst e2;cases r5;exact wpAny_truthy_bool ⟨H5,I5,q5⟩
def yE (K:W.Frag)(x:V)(H:Hp)(k:Bool):Prop:=
 match x with
 |.non=>k=false
 |.bl b=>k=b
 |.int i=>k=(i != 0)
 |.str y=>y.length<=sizeLine/\k=((y.length:Int) != 0)
 |.byt y=>y.size<=sizeLine/\k=((y.size:Int) != 0)
 |.ref p=>(∃xs,SqL K H p xs/\k=!xs.isEmpty)\/(∃xs,SqT K H p xs/\k=!xs.isEmpty)\/∃kvs,H p=some (.dK kvs)/\k=!kvs.isEmpty
 |_=>False
theorem mC{κ:Type}{kvs:List (κ×V)}{vs:List (κ×Value)}(r:KV kvs vs):(!vs.isEmpty)=!kvs.isEmpty:=by
 cases r<;>rfl
theorem fG{xs:List V}{its:List Value}(r:Vals xs its):(!its.toArray.isEmpty)=!xs.isEmpty:=by
 cases r<;>simp
theorem GH:(sizeLine:Nat)<2^63:=by rw[sizeLine_eq];decide
theorem Ko:TruR X (fun x H Q=>∃k,yE X.K x H k/\Q k H):=by
 intro pins s σ H x v Q I rx h;obtain⟨k,e,q⟩:=h;have hl:=GH;have hs:sizeLine=16777216:=sizeLine_eq;cases x with
 |non=>
  cases rx;have e':k=false:=e;subst e';exact truthy_none ⟨H,I,q⟩
 |bl b=>
  cases rx;have e':k=b:=e;subst e';exact wpAny_truthy_bool ⟨H,I,q⟩
 |int i=>
  obtain⟨t,rfl⟩:=rx;have e':k=(i != 0):=e;subst e';exact PySem.P.truthy_int ⟨H,I,q⟩
 |str y=>
  obtain⟨t,rfl⟩:=rx;obtain⟨hy,e'⟩:y.length<=sizeLine/\k=((y.length:Int) != 0):=e;subst e';exact PySem.P.truthy_str (by lia) ⟨H,I.tok _,q⟩
 |byt y=>
  obtain⟨t,rfl⟩:=rx;obtain⟨hy,e'⟩:y.size<=sizeLine/\k=((y.size:Int) != 0):=e;subst e';exact W.truthy_bytes (by lia) ⟨H,I.tok _,q⟩
 |ref p=>
  cases rx;have e':(∃xs,SqL X.K H p xs/\k=!xs.isEmpty)\/(∃xs,SqT X.K H p xs/\k=!xs.isEmpty)\/∃kvs,H p=some (.dK kvs)/\k=!kvs.isEmpty:=e;rcases e' with ⟨xs,hx,e'⟩|⟨xs,hx,e'⟩|⟨kvs,hx,e'⟩
  ·subst e';obtain⟨its,r,pl,hz⟩:=I.list hx;have hlen:=r.length;exact wpAny_truthy_list pl.isList (by simp only[Bb];lia) ⟨H,I.tok _,by rw[fG r];exact q⟩
  ·subst e';obtain⟨its,r,pl,hz⟩:=I.tuple hx;have hlen:=r.length;exact truthy_tuple pl (by simp only[Bb];lia) ⟨H,I.tok _,by rw[fG r];exact q⟩
  ·subst e';obtain⟨hz,hS,vs,r,m⟩:kvs.length<=sizeLine/\(p==sysModules)=false/\∃vs,KV kvs vs/\s.heap.DictOf (aF X.prog X.w) p vs:=I.hok p _ hx;have hlen:kvs.length=vs.length:=Paired.length r;exact wpAny_truthy_dict hS m (by lia) ⟨H,I.tok _,by rw[mC r];exact q⟩
 |_=>exact(show False from e).elim
theorem qZ(ha:PE X a ta)(he:∀whole,isTrue a X.env whole=(do let v <- whole;standAt a.pos;holding [v] (truthy v))) :
  PT X a (fun σ H Q=>ta σ H fun x H'=>∃k,yE X.K x H' k/\Q k H'):=by
 intro pins s σ H Q I h;refine isTrue_plain (thn (ha pins s σ H _ I h) fun v s1 hq32=>?_) (he _);obtain⟨x,H1,I1,r1,q1⟩:=hq32;exact Ko pins s1 σ H1 x v Q I1 r1 q1
theorem FP:OpR X (binaryOp .Add) (fun x y H Q=>∃i j,x=.str i/\y=.str j/\i.length+j.length<=sizeLine/\Q (.str (i++j)) H):=by
 intro pins s σ H x y v u Q I rx ry h;obtain⟨i,j,rfl,rfl,hz,q⟩:=h;obtain⟨t,rfl⟩:=rx;obtain⟨t',rfl⟩:=ry;exact add_str (fun t' tk=>⟨.str (i++j),H,I.tok _,⟨_,rfl⟩,q⟩) hz
def qL (b:Expr):Prop:=∀o i,subscripted b false o i=operate [o,i] (getItem o i)
theorem jA(ha:PE X a ta)(hb:PE X b tb)(hs:qL b) :
  PE X (.Subscript a b pos) (tOp (fun x y H Q=>∃z i c,x=.str z/\y=.int i/\0<=i/\i<2^63/\i<z.length/\z.cps[i.toNat]?=some c/\Q (.str ⟨#[c]⟩) H) ta tb):=by
 intro pins s σ H Q I h;refine Subscript_ (xk ha hb I h fun v u s2 x y H2 I2 rx ry q=>?_);obtain⟨z,i,c,rfl,rfl,h0,h63,h1,hc,q⟩:=q;obtain⟨t,rfl⟩:=rx;obtain⟨t',rfl⟩:=ry;have e:seqIndex? i z.length=some i.toNat:=PySem.StrLaws.seqIndex_nonneg h0 h1
 exact tail_any (typeIs_str s2 z t) slot_str_getitem.lookup (getItem_str (c:=c) (by
  have e1:decide (i < -(2^63:Int))=false:=EH (by lia);have e2:decide (i≥2^63)=false:=EH (by lia)
  rw[e1,e2] <;> rfl) (by rw[e]; exact hc) ⟨.str ⟨#[c]⟩,H2,I2.tok _,⟨_,rfl⟩,q⟩) (hs _ _)
theorem dq{x:V}{us:List Value}(r:Vals [x] us):∃u,us=[u]/\RelV x u:=by
 cases r with
 |cons r1 r2=>cases r2;exact⟨_,rfl,r1⟩
theorem ue{x y:V}{us:List Value}(r:Vals [x,y] us):∃u w',us=[u,w']/\RelV x u/\RelV y w':=by
 cases r with
 |cons r1 r2=>
  cases r2 with
  |cons r3 r4=>cases r4;exact⟨_,_,rfl,r1,r3⟩
theorem mL(hc:X.calm=true):cq X (.builtin "max") (fun xs H Q=>∃i j,xs=[.int i,.int j]/\Q (.int (if j>i then j else i)) H):=by
 intro pins s σ H xs us Q I r h;obtain⟨i,j,rfl,q⟩:=h;obtain⟨u,w',rfl,⟨t,rfl⟩,⟨t',rfl⟩⟩:=ue r;refine max_two_ints (I.ok.hd hc) fun h' tk k=>⟨_,H,I.kept k,?_,q⟩
 by_cases hj:j>i
 ·rw[EF hj,EF hj];exact⟨_,rfl⟩
 ·rw[EE hj,EE hj];exact⟨_,rfl⟩
theorem pX(hc:X.calm=true):cq X (.builtin "min") (fun xs H Q=>∃i j,xs=[.int i,.int j]/\Q (.int (if j<i then j else i)) H):=by
 intro pins s σ H xs us Q I r h;obtain⟨i,j,rfl,q⟩:=h;obtain⟨u,w',rfl,⟨t,rfl⟩,⟨t',rfl⟩⟩:=ue r;refine min_two_ints (I.ok.hd hc) fun h' tk k=>⟨_,H,I.kept k,?_,q⟩
 by_cases hj:j<i
 ·rw[EF hj,EF hj];exact⟨_,rfl⟩
 ·rw[EE hj,EE hj];exact⟨_,rfl⟩
theorem HC:cq X (.type "int") (fun xs H Q=>(∃i,xs=[.int i]/\Q (.int i) H)\/∃k,xs=[.bl k]/\Q (.int (if k then 1 else 0)) H):=by
 intro pins s σ H xs us Q I r h;rcases h with ⟨i,rfl,q⟩|⟨k,rfl,q⟩
 ·obtain⟨u,rfl,t,rfl⟩:=dq r;exact call_int_int ⟨.int i,H,I,⟨_,rfl⟩,q⟩
 ·obtain⟨u,rfl,r1⟩:=dq r;cases r1;exact call_int_bool ⟨.int (if k then 1 else 0),H,I.tok _,⟨_,rfl⟩,q⟩
end
structure LF(h:Heap)(x dx C:Addr)(mA:Str->Option Value):Prop where
 obj:h.get? x=some (W.instObj C dx)
 ns:h.Ns1 dx mA
 ne:dx≠x
theorem mK{h:Heap}{dx:Addr}{mA:Str->Option Value}(n:h.Ns1 dx mA):∃od,h.get? dx=some od/\∀name,W.lookIn name od=some (mA name):=by
 obtain⟨o,es,ep,ho,hd,hk,_,hm⟩:=n;refine⟨o,ho,fun name=>?_⟩;have e:=hm name;unfold nsFind findBy at e;rw[<- Array.find?_toList] at e;unfold W.lookIn;rw[hd];dsimp only;split
 ·rename_i y q;rw[q] at e;exact congrArg some e
 ·rename_i q;rw[q] at e;have a:es.toList.any (·.refKey)=false:=by
   rw[DE];intro y hy;obtain⟨z,t,hkey⟩:=hk y (DG.mp hy);simp[DictEntry.refKey,hkey]
  have a':¬es.toList.any (·.refKey)=true:=by rw[a];exact Bm
  rw[EE a'];exact congrArg some e
theorem LF.look{h:Heap}{x dx C:Addr}{mA:Str->Option Value}(I:LF h x dx C mA):∃od,W.InstAt h x (W.instObj C dx) C (some od)/\∀name,W.lookIn name od=some (mA name):=
 let ⟨od,ho,hl⟩:=mK I.ns
 ⟨od,⟨I.obj,rfl,rfl,ho⟩,hl⟩
theorem HK.some_of{v:V}{o:Option Value}(r:HK (some v) o):∃u,o=some u/\RelV v u:=by
 cases o with
 |none=>exact(show False from r).elim
 |some u=>exact⟨u,rfl,r⟩
section
variable {P:Program}{w:World}{H H':Hp}{h h':Heap}{a C dx:Addr}{fs fs':List (Str×V)}
theorem tX(hok:HOk P w H h)(e:H a=some (.ins C dx fs)):∃mA,LF h a dx C mA/\(∀f,HK (fs.lookup f) (mA f))/\PySem.Within mA (fs.map (·.1))/\fs.length<=1000/\H dx=some (.own a):=by
 obtain⟨d,z,ne,ob,mA,n,r,q⟩:=(show Fz P w H h a (.ins C dx fs) from hok a _ e)
 exact⟨mA,⟨ob,n,ne⟩,r,q,z,d⟩
end
structure Cls(K:W.Frag)(C:Addr):Prop where
 pg:W.plainGet K C Str.empty=true
 hd:W.hasDictIn K C=true
 po:W.plainOver K C=true
 sa:W.findIn K (.ref C) "__setattr__"=some (some (.builtin "object.__setattr__"))
theorem Cls.get{K:W.Frag}{C:Addr}(c:Cls K C)(f:Str):W.plainGet K C f=true:=c.pg
section
variable {X:Cx}{pins:List (Addr×Obj)}{σ:St}{H:Hp}{s:Shared}{A:Around}{E:Value->Shared->Prop}{Q:Value->Shared->Prop}{c:Value}{b:Bool}
inductive HM(K:W.Frag)(H:Hp):V->Value->Prop where
 |non:HM K H .non (.type "NoneType")
 |bl (x:Bool):HM K H (.bl x) (.type "bool")
 |int (i:Int):HM K H (.int i) (.type "int")
 |str (x:Str):HM K H (.str x) (.type "str")
 |flt (x:UInt64):HM K H (.flt x) (.type "float")
 |lst {a:Addr}{xs:List V} (e:H a=some (.lst xs)):HM K H (.ref a) (.type "list")
 |frz {a:Addr}{o:Obj}{xs:List V} (e:H a=some (.frz o (.lst xs))):HM K H (.ref a) (.type "list")
 |tup {a:Addr}{xs:List V} (e:H a=some (.tup xs)):HM K H (.ref a) (.type "tuple")
 |dK {a:Addr}{kvs:List (Key×V)} (e:H a=some (.dK kvs)):HM K H (.ref a) (.type "dict")
 |dT {a:Addr}{kvs:List (List Key×V)} (e:H a=some (.dT kvs)):HM K H (.ref a) (.type "dict")
 |ins {a C dx:Addr}{fs:List (Str×V)} (e:H a=some (.ins C dx fs)) (cl:Cls K C) (ha:W.findIn K (.ref C) "__class__"=some (some (.builtin "object.__class__")))
   (hn:W.specialIn K (.builtin "object.__class__") "__get__"=some (some (.builtin "getset_descriptor.__get__"))) (htk:W.takesIn K (.builtin "object.__class__")=some true)
   (hm:W.mroIn K C (.type "object")=some true):HM K H (.ref a) (.ref C)
theorem oV{x:V}{u t:Value}(I:Inv X pins σ H s)(rx:RelV x u)(ty:HM X.K H x t)(e:W.kitOne X.K t c=some b)(h:∀tk,Q (.bool b) {s with toks:=tk}) :
  wpAny (model X.prog X.w) A (call (.builtin "isinstance") [u,c]) Q E s:=by
 cases ty with
 |non=>cases (show u=Value.none from rx);exact W.kia_one W.kitx_none I.kIn True.intro e (fun z=>nomatch z) h
 |bl y=>cases (show u=Value.bool y from rx);exact W.kia_one W.kitx_bool I.kIn True.intro e (fun z=>nomatch z) h
 |int i=>obtain⟨t,q⟩:=(show ∃t,u=Value.int i t from rx);cases q;exact W.kia_one W.kitx_int I.kIn True.intro e (fun z=>nomatch z) h
 |str y=>obtain⟨t,q⟩:=(show ∃t,u=Value.str y t from rx);cases q;exact W.kia_one W.kitx_str I.kIn True.intro e (fun z=>nomatch z) h
 |flt y=>obtain⟨t,q⟩:=(show ∃t,u=Value.float y t from rx);cases q;exact W.kia_one W.kitx_float I.kIn True.intro e (fun z=>nomatch z) h
 |@lst a xs ea=>
  cases (show u=Value.ref a from rx);obtain⟨_,_,n,_,h1⟩:=(show Fz X.prog X.w H s.heap a (.lst xs) from I.hok a _ ea)
  exact W.kia_one W.kitx_list I.kIn ⟨_,h1,rfl⟩ e (fun z=>nomatch z) h
 |@frz a ob xs ea=>
  cases (show u=Value.ref a from rx);obtain⟨_,_,_,n,_,h1⟩:=(show Fz X.prog X.w H s.heap a (.frz ob (.lst xs)) from I.hok a _ ea)
  exact W.kia_one W.kitx_list I.kIn ⟨_,h1,rfl⟩ e (fun z=>nomatch z) h
 |@tup a xs ea=>
  cases (show u=Value.ref a from rx);obtain⟨_,_,_,p⟩:=(show Fz X.prog X.w H s.heap a (.tup xs) from I.hok a _ ea)
  obtain⟨o,h1,h2,_⟩:=p;exact W.kia_one W.kitx_tuple I.kIn ⟨o,h1,h2⟩ e (fun z=>nomatch z) h
 |@dK a kvs ea=>
  cases (show u=Value.ref a from rx);obtain⟨_,_,vs,_,p⟩:=(show Fz X.prog X.w H s.heap a (.dK kvs) from I.hok a _ ea)
  obtain⟨o,es,ep,h1,h2,_⟩:=p;exact W.kia_one W.kitx_dict I.kIn ⟨o,h1,h2.1⟩ e (fun z=>nomatch z) h
 |@dT a kvs ea=>
  cases (show u=Value.ref a from rx);obtain⟨_,_,xs,_,o,es,ep,h1,h2,_⟩:=(show Fz X.prog X.w H s.heap a (.dT kvs) from I.hok a _ ea)
  exact W.kia_one W.kitx_dict I.kIn ⟨o,h1,h2.1⟩ e (fun z=>nomatch z) h
 |@ins a C dx fs ea cl ha hn htk hm=>
  cases (show u=Value.ref a from rx);obtain⟨mA,O,_⟩:=tX I.hok ea;obtain⟨od,J,_⟩:=O.look;exact W.kia_one (W.kitx_own (cl.get _) cl.hd ha hn htk hm) I.kIn J e (fun z=>nomatch z) h
end
structure Gy(k:Nat)(A:Around):Prop where
 hd:A.handled=none
 dp:A.depth+3*k+5<recursionLimit
 un:A.units+16*k+200<cLine
theorem Gy.mono{j k:Nat}{A:Around}(r:Gy k A)(h:j<=k):Gy j A:=⟨r.hd,by have:=r.dp;lia,by have:=r.un;lia⟩
theorem Gy.deeper{k:Nat}{A:Around}(r:Gy (k+1) A)(env:Env):Gy k (A.deeper env):=
 ⟨r.hd,by have:=r.dp;show A.depth+1+3*k+5<_;lia,by have:=r.un;show A.units+3+16*k+200<_;lia⟩
theorem Gy.depth{k:Nat}{A:Around}(r:Gy k A):A.depth<recursionLimit:=by have:=r.dp;lia
theorem Gy.units{k:Nat}{A:Around}(r:Gy k A):A.units+64<cLine:=by have:=r.un;lia
def Jt:TA:=fun _ H Q=>Q [] H
def gy (ta:TE)(tr:TA):TA:=fun σ H Q=>ta σ H fun x H1=>tr σ H1 fun xs H2=>Q (x::xs) H2
section
variable {X:Cx}{e:Expr}{es:List Expr}{te:TE}{t:TA}{pos:Pos}
theorem FE:PA X [] Jt:=fun _ _ _ _ H Q I h=>Calls.spliced_nil ⟨[],H,I,.nil,h⟩
theorem Fn(ha:PE X e te)(hr:PA X es t)(hs:starEach (e::es) X.env=(false,eval e X.env)::starEach es X.env:=by rfl):PA X (e::es) (gy te t):=by
 intro pos pins s σ H Q I h;rw[hs];show wpAny _ _ (spliced ((false,eval e X.env)::backTo pos (starEach es X.env))) _ _ s;refine Calls.spliced_cons (thn (ha pins s σ H _ I h) fun u s1 hq33=>?_);obtain⟨x,H1,I1,r1,q1⟩:=hq33;refine thn (hr pos pins s1 σ H1 _ I1 q1) fun us s2 hq34=>?_;obtain⟨xs,H2,I2,r2,q2⟩:=hq34;exact⟨x::xs,H2,I2,.cons r1 r2,q2⟩
def tTup (t:TA):TE:=fun σ H Q=>t σ H fun xs H1=>xs.length<=sizeLine/\∀p,H1 p=none->Q (.ref p) (upd H1 p (.tup xs))
def tLst (t:TA):TE:=fun σ H Q=>t σ H fun xs H1=>xs.length<=sizeLine/\∀p,H1 p=none->Q (.ref p) (upd H1 p (.lst xs))
theorem aO{x1}(h:PA X es t):PE X (.Tuple es x1 pos) (tTup t):=by
 intro pins s σ H Q I hq;refine wpAny_Tuple_spliced (thn (h pos pins s σ H _ I hq) fun us s1 hq35=>?_);obtain⟨xs,H1,I1,r,z,q⟩:=hq35;refine⟨by rw[<- r.length];exact z,?_⟩;have hf:H1 s1.heap.objs.size=none:=I1.hok.fresh (AH _);refine⟨.ref s1.heap.objs.size,upd H1 s1.heap.objs.size (.tup xs),I1.laid (t':=s1.toks) (fun b u e=>Fb _ e) (AH _) ?_,rfl,q _ hf⟩;exact⟨z,us,r,⟨_,Fc _ rfl,rfl,_,rfl⟩⟩
theorem bg(h:PA X es t):PE X (.List es pos) (tLst t):=by
 intro pins s σ H Q I hq;refine wpAny_List_spliced (thn (h pos pins s σ H _ I hq) fun us s1 hq36=>?_);obtain⟨xs,H1,I1,r,z,q⟩:=hq36;refine⟨by rw[<- r.length];exact z,?_⟩;have hf:H1 s1.heap.objs.size=none:=I1.hok.fresh (AH _);refine⟨.ref s1.heap.objs.size,upd H1 s1.heap.objs.size (.lst xs),I1.laid (t':=s1.toks) (fun b u e=>Fb _ e) (AH _) ?_,rfl,q _ hf⟩;exact⟨z,us,0,r,Fc _ rfl⟩
end
abbrev Sp:=List V->Hp->VK->XK->Prop
abbrev CXT:=List Env->Hp->Shared->XK->Value->Shared->Prop
structure Lq(P:Program)(w:World)(K:W.Frag)(mg:Str->Option Value)(base:Heap)(A:Around)(outer:List Env)(s:Shared)(H:Hp):Prop where
 frames:A.frames=some outer
 mod:Mod K mg base
 bs:∀b o,base.get? b=some o->s.heap.get? b=some o/\H b=none
 bsz:base.objs.size<=s.heap.objs.size
 IL:s.heap.FunFrames base outer
 frf:∀b∈frs outer,H b=none
 hok:HOk P w H s.heap
 bare:AllBare s.gens
def CE (outer:List Env)(P:Program)(w:World)(H:Hp)(s:Shared)(Q:VK)(u:Value)(s':Shared):Prop:=
 ∃v H',s'.os=s.os/\AllBare s'.gens/\Un (frs outer) [] H H' s.heap s'.heap/\HOk P w H' s'.heap/\RelV v u/\Q v H'
def CR (CX:CXT)(outer:List Env)(P:Program)(w:World)(H:Hp)(s:Shared)(Q:VK)(E:XK)(r:Result)(s':Shared):Prop:=
 match r with
 |.ok (.ret u)=>CE outer P w H s Q u s'
 |.ok _=>False
 |.error e=>CX outer H s E e s'
structure Fx(P:Program)(w:World)(K:W.Frag)(mg:Str->Option Value)(base:Heap)(CX:CXT)(k:Nat)(f:Addr)(fd:FuncData)(ps:List Str)(sp:Sp):Prop where
 len:∀vs H Q E,sp vs H Q E->vs.length=ps.length
 run:∀(A:Around)(outer:List Env)(s:Shared)(H:Hp)(args:Args)(us:List Value)(vs:List V)(Q:VK)(E:XK),Gy k A->Lq P w K mg base A outer s H->BindsTo s fd args (ps.zip us)->Vals vs us->sp vs H Q E ->
  codeAny (model P w) A (.call (.ref f) args) (CR CX outer P w H s Q E) s
theorem Fx.mono{P:Program}{w:World}{K:W.Frag}{mg:Str->Option Value}{base:Heap}{CX:CXT}{j k:Nat}{f:Addr}{fd:FuncData}{ps:List Str}{sp:Sp}(F:Fx P w K mg base CX j f fd ps sp)(h:j<=k) :
  Fx P w K mg base CX k f fd ps sp:=⟨F.len,fun A outer s H args us vs Q E hr=>F.run A outer s H args us vs Q E (hr.mono h)⟩
section
variable {X:Cx}{pins:List (Addr×Obj)}{σ:St}{H:Hp}{s s':Shared}
theorem Inv.env0(I:Inv X pins σ H s):Lq X.prog X.w X.K X.mg X.base X.A X.stack s H:=
 ⟨I.ok.frames,I.ok.mod,I.bs,AX I.ok.bsz I.sz,I.stack,I.Hm,I.hok,I.bare⟩
theorem Inv.after{Q:VK}{u:Value}(I:Inv X pins σ H s)(h:CE X.stack X.prog X.w H s Q u s'):EP X pins σ Q u s':=by
 obtain⟨v,H',os,bare,un,hok,r,q⟩:=h;obtain⟨hh,g,d,t,os'⟩:=s';obtain rfl:os'=s.os:=os;exact⟨v,H',I.call (h':=hh) (g':=g) (d':=d) (t':=t) (ch:=[]) un hok bare (fun b z=>absurd z (by simp)),r,q⟩
end
def tq (sp:Sp)(dvs:List V)(E:XK)(t:TA):TE:=fun σ H Q=>t σ H fun vs H1=>sp (vs++dvs) H1 Q E
def Binds(K:W.Frag)(fd:FuncData)(ps:List Str)(ds:List Value):Prop:=
 ∀(s:Shared)(us:List Value),K.In s.heap->(us++ds).length=ps.length->BindsTo s fd ⟨us,[]⟩ (ps.zip (us++ds))
theorem Binds.all{K:W.Frag}{fd:FuncData}{ps:List Str}(h:∀us:List Value,us.length=ps.length->bindArgs fd ⟨us,[]⟩=pure (ps.zip us)):Binds K fd ps []:=fun s us _ hl=>by
 rw[Bp] at hl ⊢;exact .of_eq (h us hl)
def pC (CX:CXT)(X:Cx)(E:XK):Prop:=∀(pins:List (Addr×Obj))(σ:St)(H:Hp)(s:Shared)(e:Value)(s':Shared),Inv X pins σ H s->CX X.stack H s E e s'->X.xe e s'
section
variable {X:Cx}{CX:CXT}{k:Nat}{f C:Addr}{fd:FuncData}{ps:List Str}{sp:Sp}{dvs:List V}{ds:List Value}{E:XK}{x m:Str}{p pos apos:Pos}{e o:Expr}{es:List Expr}{ta:TE}{t:TA}
theorem vO{pins:List (Addr×Obj)}{σ:St}{H:Hp}{s:Shared}{Q:VK}{us:List Value}{vs:List V}(F:Fx X.prog X.w X.K X.mg X.base CX k f fd ps sp)(hr:Gy k X.A)(hb:Binds X.K fd ps ds)(hd:Vals dvs ds)(hx:pC CX X E)
  (I:Inv X pins σ H s)(r:Vals vs us)(h:sp (vs++dvs) H Q E):(wq X) (call (.ref f) us) (EP X pins σ Q) X.xe s:=by
 have r2:Vals (vs++dvs) (us++ds):=r.append hd;have hl:(us++ds).length=ps.length:=by rw[<- r2.length];exact F.len _ _ _ _ h
 refine wpAny_call (codeAny_mono (F.run X.A X.stack s H ⟨us,[]⟩ (us++ds) (vs++dvs) Q E hr I.env0 (hb s us I.kIn hl) r2 h) fun r s' hq=>?_);cases r with
 |error e=>exact hx pins σ H s e s' I hq
 |ok fl=>
  cases fl with
  |ret u=>exact I.after hq
  |next=>exact False.elim hq
  |brk=>exact False.elim hq
  |cont=>exact False.elim hq
theorem mX(F:Fx X.prog X.w X.K X.mg X.base CX k f fd ps sp)(hr:Gy k X.A)(hg:Gl X x)(hm:X.mg x=some (.ref f))(hk:W.keepIn X.K (.ref f)=true)(hb:Binds X.K fd ps ds)(hd:Vals dvs ds)(hx:pC CX X E)
  (ha:PA X (e::es) t)(hdb:(x==("__debug__":Str))=false:=by decide)(he:starEach (e::es) X.env=(false,eval e X.env)::starEach es X.env:=by rfl)(hpl:(backTo pos (starEach es X.env)).any (·.1)=false:=by rfl) :
  PE X (.Call (.Name x p) (e::es) [] pos) (tq sp dvs E t):=by
 intro pins s σ H Q I h;refine wpAny_Call_Name_kw (nZ I hg hm ?_ hdb);refine W.callWith_K (h₀:=X.base) I.ok.mod.kin hk (thn (ha pos pins s σ H _ I h) fun us s1 hq37=>?_) he hpl;obtain⟨vs,H1,I1,r,q⟩:=hq37;refine⟨I1.kIn,?_⟩;exact vO F hr hb hd hx I1 r q
end
def PK (X:Cx)(kws:List Keyword)(t:TA):Prop:=
 ∀(pos:Pos)(pins:List (Addr×Obj))(s:Shared)(σ:St)(H:Hp)(Q:List V->Hp->Prop),Inv X pins σ H s->t σ H Q->(wq X) (evalAll ((backToKw pos (keywordEach kws X.env)).map (·.2))) (AP X pins σ Q) X.xe s
section
variable {X:Cx}{CX:CXT}{k:Nat}{f C:Addr}{fd:FuncData}{ps ks:List Str}{sp:Sp}{E:XK}{x m:Str}{p pos apos kpos:Pos}{e o:Expr}{es:List Expr}{kws:List Keyword}{te ta:TE}{t tk:TA}{nm:Option Str}
theorem Ks:PK X [] Jt:=fun _ _ _ _ H Q I h=>wpAny_evalAll_nil ⟨[],H,I,.nil,h⟩
theorem uF(ha:PE X e te)(hr:PK X kws t):PK X (⟨nm,e,kpos⟩::kws) (gy te t):=by
 intro pos pins s σ H Q I h;show wpAny _ _ (evalAll ((do let v <- eval e X.env;standAt pos;pure v)::(backToKw pos (keywordEach kws X.env)).map (·.2))) _ _ s;refine wpAny_evalAll_cons (EA (thn (ha pins s σ H _ I h) fun u s1 hq38=>?_));obtain⟨x,H1,I1,r1,q1⟩:=hq38;refine EA (wpAny_standAt (EB ?_));refine thn (hr pos pins s1 σ H1 _ I1 q1) fun us s2 hq39=>?_;obtain⟨xs,H2,I2,r2,q2⟩:=hq39;exact⟨x::xs,H2,I2,.cons r1 r2,q2⟩
variable {g:List Value->List Value->List Value}{gV:List V->List V->List V}
end
structure Fs(N P:List Str)(sc:Scope):Prop where
 kind:sc.kind=.function
 co:sc.isCoroutine=false
 gen:sc.isGenerator=false
 nd:N.Nodup
 pre:N.take P.length=P
 par:∀x∈P,sc.names.lookup x=some .local\/sc.names.lookup x=some .cell
 KZ:∀y∈sc.names,y.2≠.free
theorem iH{kindOf:Str->Option NameKind}{x:Str}:∀{binds:List (Str×Value)}{m:Str->Option Value},(∀v,(x,v)∉binds)->bindL kindOf binds m x=m x
 |[],_,_=>rfl
 |(n,v)::r,m,h=>by
  unfold bindL;rw[iH fun w hw=>h w (AY _ hw)];split
  ·have:x≠n:=by rintro rfl;exact h v AS
   simp[this]
  ·rfl
theorem ja{kindOf:Str->Option NameKind}{x:Str}:∀{binds:List (Str×Value)}{m:Str->Option Value},(∀v,(x,v)∉binds)->bindC kindOf binds m x=m x
 |[],_,_=>rfl
 |(n,v)::r,m,h=>by
  unfold bindC;rw[ja fun w hw=>h w (AY _ hw)];split
  ·rfl
  ·have:x≠n:=by rintro rfl;exact h v AS
   simp[this]
theorem iN{kindOf:Str->Option NameKind}{x:Str}{v:Value}:∀{P:List Str}{vs:List Value}{i:Nat}{m:Str->Option Value},P.Nodup->P[i]?=some x->vs[i]?=some v->kindOf x=some .local ->
  bindL kindOf (P.zip vs) m x=some v
 |[],_,_,_,_,h,_,_=>by simp at h
 |_::_,[],_,_,_,_,h,_=>by simp at h
 |p::P,w::vs,0,m,nd,h1,h2,hk=>by
  simp at h1 h2;subst h1;subst h2;show bindL kindOf ((p,w)::P.zip vs) m p=_;unfold bindL;rw[iH fun v hv=>(BK.mp nd).1 (DH hv).1,EF hk];simp
 |p::P,w::vs,i+1,m,nd,h1,h2,hk=>by
  show bindL kindOf ((p,w)::P.zip vs) m x=_;unfold bindL;exact iN (i:=i) (BK.mp nd).2 (by simpa using h1) (by simpa using h2) hk
theorem jh{kindOf:Str->Option NameKind}{x:Str}{v:Value}:∀{P:List Str}{vs:List Value}{i:Nat}{m:Str->Option Value},P.Nodup->P[i]?=some x->vs[i]?=some v->kindOf x≠some .local ->
  bindC kindOf (P.zip vs) m x=some v
 |[],_,_,_,_,h,_,_=>by simp at h
 |_::_,[],_,_,_,_,h,_=>by simp at h
 |p::P,w::vs,0,m,nd,h1,h2,hk=>by
  simp at h1 h2;subst h1;subst h2;show bindC kindOf ((p,w)::P.zip vs) m p=_;unfold bindC;rw[ja fun v hv=>(BK.mp nd).1 (DH hv).1,EE hk];simp
 |p::P,w::vs,i+1,m,nd,h1,h2,hk=>by
  show bindC kindOf ((p,w)::P.zip vs) m x=_;unfold bindC;exact jh (i:=i) (BK.mp nd).2 (by simpa using h1) (by simpa using h2) hk
def start(N:List Str)(vs:List V):St:=vs.map some++List.replicate (N.length-vs.length) none
def cg (CX:CXT)(P:Program)(w:World)(K:W.Frag)(mg:Str->Option Value)(base:Heap)(N:List Str)(qual:Str)(scope:Scope)(f:Addr)(cd:Value)(A:Around)(outer:List Env)(s:Shared)(H:Hp)(E:XK):Cx where
 prog:=P
 w:=w
 K:=K
 mg:=mg
 base:=base
 A:=A.deeper (envOfC qual scope s.heap.objs.size f cd)
 N:=N
 s₀:=s
 H₀:=H
 env:=envOfC qual scope s.heap.objs.size f cd
 outer:=outer
 stack:=envOfC qual scope s.heap.objs.size f cd::outer
 ex:=[]
 calm:=A.handled.isNone
 fn:=fun _=>true
 pn:=[]
 xe:=fun e s'=>wpAny (model P w) (A.deeper (envOfC qual scope s.heap.objs.size f cd)) (leaving (envOfC qual scope s.heap.objs.size f cd) e) (fun _ s''=>CX outer H s E e s'') (fun e' s''=>CX outer H s E e' s'') s'
theorem lu{sc:Scope}{n:Nat}{x:Str}(h:sc.names.lookup x=some .cell):∃c,(cellsFrom n sc.names []).lookup x=some c:=by
 have q:=W.cellsFrom_some sc.names n [] (.inl h);exact Cy.mp q
theorem qg{CX:CXT}{P:Program}{w:World}{K:W.Frag}{mg:Str->Option Value}{base:Heap}{N ps:List Str}{qual:Str}{scope:Scope}{f:Addr}{cd:Value}{A:Around}{outer:List Env}{s s1:Shared}{H:Hp}{E:XK}{us:List Value}{vs:List V}
  (S:Fs N ps scope)(e0:Lq P w K mg base A outer s H)(hl:vs.length=ps.length)(r:Vals vs us)
  (x:InCallC s s.heap.objs.size (bindL (envOfC qual scope s.heap.objs.size f cd).kindOf (ps.zip us) fun _=>none) (cellsFrom (s.heap.objs.size+1) scope.names []) (bindC (envOfC qual scope s.heap.objs.size f cd).kindOf (ps.zip us) fun _=>none) s1) :
  Inv (cg CX P w K mg base N qual scope f cd A outer s H E) [] (start N vs) H s1:=by
 have hpl:ps.length<=N.length:=by have:=congrArg List.length S.pre;rw[AZ] at this;lia
 obtain⟨h1,tk,rfl,hk⟩:=x.done;have noA:∀b:Addr,b∉(cg CX P w K mg base N qual scope f cd A outer s H E).ex:=fun b z=>absurd (show b∈([]:List Addr) from z) (by simp)
 refine⟨⟨e0.mod,S.kind,rfl,rfl,AH _,fun y z c h1 h2=>?_,fun y hy=>?_,fun y c _ h=>?_,fun h=>Es.mp h,Around.frames_deeper e0.frames,.inr ⟨rfl,rfl⟩,fun b z=>absurd z (noA b),e0.bs,e0.bsz,fun b _ _=>noA b,fun b z=>absurd z (noA b),e0.IL,e0.frf⟩,
  rfl,e0.bare,Un.kept hk,⟨_,x.toInCall.ns,fun i y v h1 h2 h3=>?_⟩,fun y c h=>⟨_,x.cell y c h⟩,e0.hok.fresh (AH _),fun y c h=>?_,fun p hp=>absurd (show p∈([]:List (Addr×Obj)) from hp) (by simp),e0.hok.kept hk,?_⟩
 ·exact name_of_addr x.apart (PySem.mem_of_lookup h1) (PySem.mem_of_lookup h2)
 ·have hy:scope.names.lookup y=some .cell\/scope.names.lookup y=some .free:=hy;rcases hy with hy|hy
  ·exact lu hy
  ·exact absurd rfl (S.KZ _ (PySem.mem_of_lookup hy))
 ·exact BA (x.above y c (PySem.mem_of_lookup h))
 ·have hi:i<vs.length:=by
   unfold start at h2;by_cases hi:i<vs.length
   ·exact hi
   ·rw[Co (by simpa using hi)] at h2;rw[DI] at h2;split at h2<;>cases h2
  have ha:vs[i]?=some v:=by
   unfold start at h2;rw[CM (by simpa using hi),AW] at h2;cases e:vs[i]? with
   |none=>rw[e] at h2;cases h2
   |some a=>rw[e] at h2;cases h2;rfl
  obtain⟨u,hu,rv⟩:=r.get ha;have hp:ps[i]?=some y:=by
   rw[<- S.pre,List.getElem?_take_of_lt (by lia)];exact h1
  have ndP:ps.Nodup:=by rw[<- S.pre];exact S.nd.sublist (List.take_sublist _ _)
  refine⟨u,rv,?_⟩;rcases S.par y (Bg hp) with k|k
  ·exact .inl ⟨k,iN ndP hp hu k⟩
  ·obtain⟨c,e⟩:=lu (n:=s.heap.objs.size+1) k;refine .inr ⟨.inl k,c,e,?_⟩;have q:=x.cell y c e;rw[jh ndP hp hu (by show scope.names.lookup y≠_;rw[k];decide)] at q;exact q
 ·exact e0.hok.fresh (BA (x.above y c (PySem.mem_of_lookup h)))
 ·unfold start;show _=N.length;rw[AK,AI,Cz];lia
theorem we{CX:CXT}{P:Program}{w:World}{K:W.Frag}{mg:Str->Option Value}{base:Heap}{k:Nat}{f:Addr}{name qual:Str}{params:Arguments}{body:List Stmt}{scope:Scope}{dV kV doc pm cdv ct oc:Value}{an od:Option Addr}
  {osl:Array (Option Value)}{N ps:List Str}{sp:Sp}(lk:K.lookup f=some ⟨oc,od,.func (W.fnOf name qual params body scope dV kV doc pm an cdv ct),osl⟩)(hcd:W.codeIn K cdv qual=true)(S:Fs N ps scope)
  (len:∀vs H Q E,sp vs H Q E->vs.length=ps.length)
  (hbody:∀(A:Around) (outer:List Env) (s:Shared) (H:Hp) (vs:List V) (Q:VK) (E:XK),Gy k (A.deeper (envOfC qual scope s.heap.objs.size f cdv))->sp vs H Q E ->
   ∃t,PSs (cg CX P w K mg base N qual scope f cdv A outer s H E) body t/\t { nx:=fun _ H'=>Q .non H',rt:=Q } (start N vs) H) :
  Fx P w K mg base CX (k+1) f (W.fnOf name qual params body scope dV kV doc pm an cdv ct) ps sp:=by
 refine⟨len,fun A outer s H args us vs Q E hr e0 hb r hsp=>?_⟩;have hl:=len _ _ _ _ hsp;have KX:K.In s.heap:=e0.mod.kin.keeps fun b o e=>(e0.bs b o e).1;have lim:s.heap.NoLimit:=e0.mod.nolimit.keeps fun b o e=>(e0.bs b o e).1;have hkind:∀y∈ps.zip us,scope.names.lookup y.1=some .local\/(scope.names.lookup y.1=some .cell/\((cellsFrom (s.heap.objs.size+1) scope.names []).lookup y.1).isSome=true):=fun⟨n,v⟩ hy=>by
  rcases S.par n (DH hy).1 with q|q
  ·exact .inl q
  ·exact .inr ⟨q,W.cellsFrom_some _ _ _ (.inl q)⟩
 refine codeAny_call_function hr.depth (KX _ _ lk) rfl S.co S.gen rfl (W.codeRec_of KX hcd) (hb _ _ _ _ ?_);refine wpAny_newFunctionEnv_cells S.kind hkind fun env he s1 x=>?_;subst he;refine⟨lim.keeps x.toInCall.keep,codeAny_func ?_⟩;obtain⟨t,ht,hq⟩:=hbody A outer s H vs Q E (hr.deeper _) hsp;have I:Inv (cg CX P w K mg base N qual scope f cdv A outer s H E) [] (start N vs) H s1:=qg S e0 hl r x;refine EI (ht [] s1 (start N vs) H _ I hq) (fun fl s' hs=>?_) fun e s' hs=>hs;have fin:∀{σ':St}{H':Hp}{v:V}{u:Value},Inv (cg CX P w K mg base N qual scope f cdv A outer s H E) [] σ' H' s'->RelV v u->Q v H'->CE outer P w H s Q u s':=
  fun {σ' H' v u} J rv q=>⟨v,H',J.os,J.bare,J.base,J.hok,rv,q⟩
 cases fl with
 |ret u=>
  obtain⟨v,σ',H',J,rv,q⟩:=hs;exact fin J rv q
 |next=>
  obtain⟨σ',H',J,q⟩:=hs;exact fin (v:=V.non) (u:=Value.none) J rfl q
 |brk=>
  obtain⟨_,_,_,q⟩:=hs;exact False.elim q
 |cont=>
  obtain⟨_,_,_,q⟩:=hs;exact False.elim q
section
variable {X:Cx}{x:Str}{p pos:Pos}{e:Expr}{es:List Expr}{t:TA}{id T:String}{r:List V->Hp->VK->Prop}
def tCB (r:List V->Hp->VK->Prop)(t:TA):TE:=fun σ H Q=>t σ H fun vs H1=>r vs H1 Q
theorem aJ(hc:cq X (.builtin id) r)(hg:Gl X x)(hm:X.mg x=none)(hv:bootBuiltins x=some (.builtin id))(ha:PA X (e::es) t)(hn:x≠"__name__":=by decide)(hdb:(x==("__debug__":Str))=false:=by decide)
  (he:starEach (e::es) X.env=(false,eval e X.env)::starEach es X.env:=by rfl)(hpl:(backTo pos (starEach es X.env)).any (·.1)=false:=by rfl):PE X (.Call (.Name x p) (e::es) [] pos) (tCB r t):=by
 intro pins s σ H Q I h;refine wpAny_Call_Name_kw (eF I hg hm hv ?_ hn hdb);refine PyProof.Rows.callWith_builtin1 (thn (ha pos pins s σ H _ I h) fun us s1 hq40=>?_) he hpl;obtain⟨vs,H1,I1,r1,q1⟩:=hq40;exact hc pins s1 σ H1 vs us Q I1 r1 q1
theorem br(hc:cq X (.type T) r)(hg:Gl X x)(hm:X.mg x=none)(hv:bootBuiltins x=some (.type T))(ha:PA X (e::es) t)(hn:x≠"__name__":=by decide)(hdb:(x==("__debug__":Str))=false:=by decide)
  (he:starEach (e::es) X.env=(false,eval e X.env)::starEach es X.env:=by rfl)(hpl:(backTo pos (starEach es X.env)).any (·.1)=false:=by rfl):PE X (.Call (.Name x p) (e::es) [] pos) (tCB r t):=by
 intro pins s σ H Q I h;refine wpAny_Call_Name_kw (eF I hg hm hv ?_ hn hdb);refine PyProof.Rows.callWith_type1 (thn (ha pos pins s σ H _ I h) fun us s1 hq41=>?_) he hpl;obtain⟨vs,H1,I1,r1,q1⟩:=hq41;exact hc pins s1 σ H1 vs us Q I1 r1 q1
end
end L2
namespace HT
open PySem PyProof.Rows
def lexLt:List Int->List Int->Bool
 |[],[]=>false
 |[],_::_=>true
 |_::_,[]=>false
 |x::xs,y::ys=>if x=y then lexLt xs ys else decide (x<y)
theorem FR(x y:Int)(xs ys:List Int):lexLt (x::xs) (y::ys)=if x=y then lexLt xs ys else decide (x<y):=rfl
theorem Iy(A:Around)(s:Shared)(a:Int)(t:Tok)(c:Int)(u:Tok)(prog:Program)(w:World)(E:Value->Shared->Prop)(Q:Value->Shared->Prop)(h:Q (.bool (decide (a<c))) s) :
  wpAny (model prog w) A (richCompare .Lt (.int a t) (.int c u)) Q E s:=
 (PyProof.Rows.lt_int h:wpAny (model prog w) A (compareOp .Lt (.int a t) (.int c u)) Q E s)
section
variable {prog:Program}{w:World}{A:Around}{E:Value->Shared->Prop}{s:Shared}
def sIx (n d:Nat):Option Int->Nat
 |none=>d
 |some v=>if v<0 then (v+(n:Int)).toNat else min v.toNat n
theorem GA(n d:Nat):sIx n d none=d:=rfl
theorem GZ(n d k:Nat):sIx n d (some (k:Int))=min k n:=by
 show(if (k:Int)<0 then ((k:Int)+(n:Int)).toNat else min (k:Int).toNat n)=min k n;rw[EE (by lia),Bu]
theorem JH(n d:Nat)(hd:d<=n)(o:Option Int):sIx n d o<=n:=by
 cases o with
 |none=>exact hd
 |some v=>
  show(if v<0 then (v+(n:Int)).toNat else min v.toNat n)<=n;by_cases hv:v<0
  ·rw[EF hv];lia
  ·rw[EE hv];exact DJ _ _
end
end HT
namespace L2
open PySem PySem.Spec PyProof.Rows
abbrev TO:=St->Hp->(Option Int->Hp->Prop)->Prop
def PO (X:Cx)(e:Option Expr)(t:TO):Prop:=
 ∀(pins:List (Addr×Obj))(s:Shared)(σ:St)(H:Hp)(Q:Option Int->Hp->Prop),Inv X pins σ H s->t σ H Q ->
  (wq X) (evalPart e X.env) (fun u s'=>∃o H',Inv X pins σ H' s'/\IsPart u o/\Q o H') X.xe s
def Ka:TO:=fun _ H Q=>Q none H
def xV (t:TE):TO:=fun σ H Q=>t σ H fun x H1=>∃i,x=.int i/\Q (some i) H1
theorem mr{ns:List Int}:∀{us:List Value},Vals (ns.map V.int) us->IntsAre us ns:=by
 induction ns with
 |nil=>intro us r;rw[Cb] at r;cases r;exact .nil
 |cons n ns ih=>
  intro us r;rw[AQ] at r;cases r with
  |cons r1 r2=>
   obtain⟨t,e⟩:=r1;subst e;exact .cons n t (ih r2)
section
variable {X:Cx}{e:Expr}{te:TE}{lo hi:Option Expr}{tl th:TO}{pos p2:Pos}
theorem FH:PO X none Ka:=by
 intro pins s σ H Q I h;rw[evalPart_none];exact EB ⟨none,H,I,.none,h⟩
theorem bC(h:PE X e te):PO X (some e) (xV te):=by
 intro pins s σ H Q I hw;rw[evalPart_some];refine thn (h pins s σ H _ I hw) fun u s1 hq42=>?_;obtain⟨x,H1,I1,r1,q1⟩:=hq42;obtain⟨i,rfl,q⟩:=q1;obtain⟨t,rfl⟩:=r1;exact⟨some i,H1,I1,.int i t,q⟩
def SlR (X:Cx)(r:V->Option Int->Option Int->Hp->VK->Prop):Prop:=
 ∀(pins:List (Addr×Obj))(s:Shared)(σ:St)(H:Hp)(x:V)(v vl vu:Value)(lo hi:Option Int)(sl:Addr)(Q:VK),Inv X pins σ H s->RelV x v->s.heap.IsSliceOf sl vl vu .none->IsPart vl lo->IsPart vu hi->r x lo hi H Q ->
  ∃T id,typeLookup (.type T) "__getitem__"=pure (some (.builtin id))/\s.TypeIs v T/\(wq X) (getItem v (.ref sl)) (EP X pins σ Q) X.xe s
def tSl (r:V->Option Int->Option Int->Hp->VK->Prop)(te:TE)(tl th:TO):TE:=fun σ H Q=>te σ H fun x H1=>tl σ H1 fun l H2=>th σ H2 fun u H3=>r x l u H3 Q
theorem bf{r:V->Option Int->Option Int->Hp->VK->Prop}(hr:SlR X r)(he:PE X e te)(hl:PO X lo tl)(hu:PO X hi th):PE X (.Subscript e (.Slice lo hi none p2) pos) (tSl r te tl th):=by
 intro pins s σ H Q I h;refine Subscript_ (thn (he pins s σ H _ I h) fun v s1 hq43=>?_);obtain⟨x,H1,I1,r1,q1⟩:=hq43;refine wpAny_Slice (thn (hl pins s1 σ H1 _ I1 q1) fun vl s2 hq44=>?_);obtain⟨l,H2,I2,pl,q2⟩:=hq44;refine thn (hu pins s2 σ H2 _ I2 q2) fun vu s3 ⟨u,H3,I3,pu,q3⟩=>?_;rw[evalPart_none];refine EB ?_;have I4:Inv X pins σ H3 {s3 with heap:=s3.heap.push {cls:=.type "slice",data:=.fields #[vl,vu,.none]}}:=I3.kept (t':=s3.toks) fun b ob q=>Fb _ q;obtain⟨T,id,hT,ht,hg⟩:=hr pins {s3 with heap:=s3.heap.push {cls:=.type "slice",data:=.fields #[vl,vu,.none]}} σ H3 x v vl vu l u s3.heap.objs.size Q I4 r1 (Heap.IsSliceOf.new ..) pl pu q3;show (wq X) (subscriptTail e (.Slice lo hi none p2) v (.ref s3.heap.objs.size)) (EP X pins σ Q) X.xe {s3 with heap:=s3.heap.push {cls:=.type "slice",data:=.fields #[vl,vu,.none]}};exact tail_any (ops:=[.ref s3.heap.objs.size,v]) ht hT hg (by with_unfolding_all rfl)
def oB (xs:List V)(lo hi:Option Int):List V:=(xs.drop (HT.sIx xs.length 0 lo)).take (HT.sIx xs.length xs.length hi-HT.sIx xs.length 0 lo)
theorem jX(xs:List V)(lo hi:Option Int):(oB xs lo hi).length<=xs.length:=by
 unfold oB;rw[AZ,BX];lia
end
def ixN (n:Nat)(i:Int):Option Nat:=if 0<=i then (if i<n then some i.toNat else none) else if -(n:Int)<=i then some (i+n).toNat else none
def atI {α:Type}(xs:List α)(i:Int):Option α:=(ixN xs.length i).bind fun j=>xs[j]?
theorem jT{n:Nat}{i:Int}{j:Nat}(h:ixN n i=some j):seqIndex? i n=some j/\j<n/\-(n:Int)<=i/\i<n:=by
 unfold ixN at h;by_cases h0:0<=i
 ·rw[EF h0] at h;by_cases h1:i<n
  ·rw[EF h1] at h;have e:i.toNat=j:=EM h;exact⟨by rw[seqIndex_of h0 h1,e],by lia,by lia,h1⟩
  ·rw[EE h1] at h;cases h
 ·rw[EE h0] at h;by_cases h1:-(n:Int)<=i
  ·rw[EF h1] at h;have e:(i+n).toNat=j:=EM h;exact⟨by rw[seqIndex_neg (by lia) h1,e],by lia,h1,by lia⟩
  ·rw[EE h1] at h;cases h
theorem jz{α:Type}{xs:List α}{i:Int}{v:α}(h:atI xs i=some v):∃j,seqIndex? i xs.length=some j/\xs[j]?=some v/\j<xs.length/\-(xs.length:Int)<=i/\i<xs.length:=by
 unfold atI at h;cases e:ixN xs.length i with
 |none=>rw[e] at h;cases h
 |some j=>
  rw[e] at h;obtain⟨h1,h2,h3,h4⟩:=jT e;exact⟨j,h1,h,h2,h3,h4⟩
theorem bh{α:Type}{xs:List α}{j:Nat}{v:α}(h:xs[j]?=some v):atI xs (j:Int)=some v:=by
 have hj:j<xs.length:=(Bc.mp h).1;have e:ixN xs.length (j:Int)=some j:=by
  unfold ixN;rw[EF (by lia),EF (by lia)];simp
 unfold atI;rw[e];exact h
def tN (b:Expr):Prop:=∀o i,subscripted b false o i=operate [o,i] (getItem o i)
def IxR (X:Cx)(r:R2):Prop:=
 ∀(value slice:Expr)(pins:List (Addr×Obj))(s:Shared)(σ:St)(H:Hp)(x y:V)(v u:Value)(Q:VK),Inv X pins σ H s->RelV x v->RelV y u->r x y H Q ->
  subscripted slice false v u=operate [v,u] (getItem v u)->(wq X) (subscriptTail value slice v u) (EP X pins σ Q) X.xe s
def MtR (X:Cx)(id:String)(r:V->List V->Hp->VK->Prop):Prop:=
 ∀(pins:List (Addr×Obj))(s:Shared)(σ:St)(H:Hp)(x:V)(xs:List V)(v:Value)(us:List Value)(Q:VK),Inv X pins σ H s->RelV x v->Vals xs us->r x xs H Q ->
  (wq X) (call (.builtin id) (v::us)) (EP X pins σ Q) X.xe s
section
variable {X:Cx}{a b:Expr}{ta tb:TE}{pos:Pos}
theorem aL{r:R2}(hr:IxR X r)(ha:PE X a ta)(hb:PE X b tb)(hs:tN b):PE X (.Subscript a b pos) (tOp r ta tb):=by
 intro pins s σ H Q I h;exact Subscript_ (xk ha hb I h fun v u s2 x y H2 I2 rx ry q=>hr a b pins s2 σ H2 x y v u Q I2 rx ry q (hs _ _))
def jj (K:W.Frag):R2:=fun x y H Q=>∃p xs i v,x=.ref p/\y=.int i/\SqL K H p xs/\atI xs i=some v/\Q v H
def uO (K:W.Frag):R2:=fun x y H Q=>∃p xs i v,x=.ref p/\y=.int i/\SqT K H p xs/\atI xs i=some v/\Q v H
def rIxS:R2:=fun x y H Q=>∃z i c,x=.str z/\y=.int i/\z.length<=sizeLine/\atI z.cps.toList i=some c/\Q (.str ⟨#[c]⟩) H
theorem Fq:IxR X (jj X.K):=by
 intro value slice pins s σ H x y v u Q I rx ry h hs;obtain⟨p,xs,i,z,rfl,rfl,hq,he,q⟩:=h;cases rx;obtain⟨t,rfl⟩:=ry;obtain⟨its,r,pl,hz⟩:=I.list hq;obtain⟨j,h1,h2,h3,h4,h5⟩:=jz he;obtain⟨w,ew,rw'⟩:=r.get h2;have hl:=r.length;have hn:=GH;have fin:EP X pins σ Q w s:=⟨z,H,I,rw',q⟩
 by_cases h0:0<=i
 ·have hj:i.toNat=j:=by
   rw[seqIndex_of h0 h5] at h1;exact EM h1
  exact item_listR pl.isList h0 (by lia) (by rw[hj];simpa using ew) fin hs
 ·have hj:(i+(its.toArray.size:Int)).toNat=j:=by
   rw[seqIndex_neg (by lia) h4] at h1;rw[Bb,<- hl];exact EM h1
  exact subscriptTail_builtinR (x:=w) pl.isList.typeIs slot_list_getitem.lookup
   (wpAny_getItem_list_neg (Q:=fun r s'=>r=w/\EP X pins σ Q r s') pl.isList (by lia) (by rw[Bb]<;>lia) (by lia) (by rw[hj];simpa using ew) ⟨rfl,fin⟩) hs
theorem FQ:IxR X (uO X.K):=by
 intro value slice pins s σ H x y v u Q I rx ry h hs;obtain⟨p,xs,i,z,rfl,rfl,hq,he,q⟩:=h;cases rx;obtain⟨t,rfl⟩:=ry;obtain⟨its,r,pl,hz⟩:=I.tuple hq;obtain⟨j,h1,h2,h3,h4,h5⟩:=jz he;obtain⟨w,ew,rw'⟩:=r.get h2;have hl:=r.length;have hn:=GH;have fin:EP X pins σ Q w s:=⟨z,H,I,rw',q⟩
 exact subscriptTail_builtinR (x:=w) pl.typeIs slot_tuple_getitem.lookup
  (getItem_tuple (j:=j) (Q:=fun r s'=>r=w/\EP X pins σ Q r s') pl (by lia) (by lia) (by rw[Bb,<- hl];exact h1) (by simpa using ew) ⟨rfl,fin⟩) hs
theorem JL:IxR X rIxS:=by
 intro value slice pins s σ H x y v u Q I rx ry h hs;obtain⟨z,i,c,rfl,rfl,hz,he,q⟩:=h;obtain⟨t,rfl⟩:=rx;obtain⟨t',rfl⟩:=ry;obtain⟨j,h1,h2,h3,h4,h5⟩:=jz he;have hl:z.cps.toList.length=z.length:=by simp[Str.length]
 rw[hl] at h1 h4 h5;have hn:=GH
 exact tail_any (typeIs_str s z t) slot_str_getitem.lookup (getItem_str (c:=c) (by
  have e1:decide (i < -(2^63:Int))=false:=EH (by lia);have e2:decide (i≥2^63)=false:=EH (by lia)
  rw[e1,e2,Bool.or_false]) (by rw[h1]; simpa using h2) ⟨.str ⟨#[c]⟩,H,I.tok _,⟨_,rfl⟩,q⟩) hs
theorem lO(its:List Value)(n j:Nat)(u:Value):Obj.mapSeq (·.setIfInBounds j u) {cls:=.type "list",data:=.seq its.toArray n}={cls:=.type "list",data:=.seq (its.set j u).toArray n}:=by
 simp[Obj.mapSeq]
theorem Inv.lst{pins:List (Addr×Obj)}{σ:St}{H:Hp}{s:Shared}{p:Addr}{xs:List V}(I:Inv X pins σ H s)(h:H p=some (.lst xs)) :
  ∃(its:List Value)(n:Nat),Vals xs its/\s.heap.get? p=some {cls:=.type "list",data:=.seq its.toArray n}/\xs.length<=sizeLine:=by
 obtain⟨z,its,n,r,e⟩:=I.hok p _ h;exact⟨its,n,r,e,z⟩
theorem Inv.Le{pins:List (Addr×Obj)}{σ:St}{H:Hp}{s:Shared}{p:Addr}{xs ys:List V}{its its':List Value}{n n':Nat}{f:Obj->Obj}(I:Inv X pins σ H s)(h:H p=some (.lst xs))
  (ho:s.heap.get? p=some {cls:=.type "list",data:=.seq its.toArray n})(hf:f {cls:=.type "list",data:=.seq its.toArray n}={cls:=.type "list",data:=.seq its'.toArray n'})(r:Vals ys its')(hz:ys.length<=sizeLine)(t:Nat) :
  Inv X pins σ (upd H p (.lst ys)) {s with heap:=s.heap.update p f,toks:=t}:=by
 have e:(s.heap.update p f).get? p=some {cls:=.type "list",data:=.seq its'.toArray n'}:=by
  rw[Heap.get?_update_self f ho (by rw[hf]<;>rfl),hf]
 refine I.write (x:=p) (e:=p) (by rw[h];trivial) (.inl rfl) (fun b u hb q=>(Heap.get?_update_other _ _ (EZ hb)).trans q) ⟨_,e⟩ ?_;exact⟨hz,its',n',r,e⟩
def Lu:V->V->V->Hp->(Hp->Prop)->Prop:=fun o i v H Q=>∃p xs k j,o=.ref p/\i=.int k/\H p=some (.lst xs)/\ixN xs.length k=some j/\Q (upd H p (.lst (xs.set j v)))
theorem set_list:yD X Lu:=by
 intro pins s σ H o i v ov iv u Q I ro ri rv h;obtain⟨p,xs,k,j,rfl,rfl,hp,hj,q⟩:=h;cases ro;obtain⟨t,rfl⟩:=ri;obtain⟨its,n,r,ho,hz⟩:=I.lst hp;obtain⟨h1,h2,h3,h4⟩:=jT hj;have hl:=r.length;have hn:=GH;have I':Inv X pins σ (upd H p (.lst (xs.set j v))) {s with heap:=s.heap.update p (Obj.mapSeq (·.setIfInBounds j u))}:=
  I.Le hp ho (lO its n j u) (r.set rv j) (by rw[DN];exact hz) s.toks
 by_cases h0:0<=k
 ·have hk:k.toNat=j:=by
   rw[seqIndex_of h0 h4] at h1;exact EM h1
  exact W.ki_setAt ho h0 (by lia) (by rw[Bb,<- hl];exact h4) (by rw[hk];exact⟨_,I',q⟩)
 ·have hk:(k+(its.toArray.size:Int)).toNat=j:=by
   rw[seqIndex_neg (by lia) h3] at h1;rw[Bb,<- hl];exact EM h1
  exact W.ki_setBack ho (by lia) (by rw[Bb,<- hl];exact h3) (by lia) (by rw[hk];exact⟨_,I',q⟩)
theorem iK(lo hi:Option Int)(n:Nat):(sliceBounds lo hi none n).1=((HT.sIx n 0 lo:Nat):Int)/\(sliceBounds lo hi none n).2.1=((HT.sIx n n hi:Nat):Int)/\(sliceBounds lo hi none n).2.2=1:=by
 refine⟨?_,?_,rfl⟩
 ·cases lo with
  |none=>simp[sliceBounds,HT.sIx]
  |some i=>
   simp only[sliceBounds,HT.sIx,Option.getD_none,show(1:Int)>0 by decide,if_true];by_cases h:i<0
   ·simp only[h,if_true]<;>lia
   ·simp only[h,if_false]<;>lia
 ·cases hi with
  |none=>simp[sliceBounds,HT.sIx]
  |some i=>
   simp only[sliceBounds,HT.sIx,Option.getD_none,show(1:Int)>0 by decide,if_true];by_cases h:i<0
   ·simp only[h,if_true]<;>lia
   ·simp only[h,if_false]<;>lia
theorem gZ(its:List Value)(lo hi:Option Int):slicePick its.toArray lo hi none=((its.drop (HT.sIx its.length 0 lo)).take (HT.sIx its.length its.length hi-HT.sIx its.length 0 lo)).toArray:=by
 obtain⟨h1,h2,h3⟩:=iK lo hi its.toArray.size;unfold slicePick;rw[h1,h2,h3];simp only[sliceRange_one,pick_run,Bb]<;>rfl
def rSlL (K:W.Frag):V->Option Int->Option Int->Hp->VK->Prop:=fun x lo hi H Q=>∃a xs,x=.ref a/\SqL K H a xs/\∀p,H p=none->Q (.ref p) (upd H p (.lst (oB xs lo hi)))
theorem Ho:SlR X (rSlL X.K):=by
 intro pins s σ H x v vl vu lo hi sl Q I rx hs pl pu h;obtain⟨a,xs,rfl,hx,q⟩:=h;cases rx;obtain⟨its,r,ht,hz⟩:=I.list hx;have hlen:=r.length;refine⟨"list",_,slot_list_getitem.lookup,ht.isList.typeIs,?_⟩;refine wpAny_getItem_list_slice ht.isList hs pl pu .none (by simp) ?_ (by rw[Bb]<;>lia);rw[gZ,<- hlen];refine⟨.ref s.heap.objs.size,_,I.laid (t':=s.toks) (o:=.lst (oB xs lo hi)) (fun b ob q=>Fb _ q) (AH _) ?_,rfl,q _ (I.hok.fresh (AH _))⟩;exact⟨AX (jX xs lo hi) hz,_,0,(r.drop (HT.sIx xs.length 0 lo)).take (HT.sIx xs.length xs.length hi-HT.sIx xs.length 0 lo),Fc _ rfl⟩
def He:V->Bool
 |.non=>true
 |.bl _=>true
 |.int _=>true
 |.str _=>true
 |_=>false
def eqV:V->V->Bool
 |.non,.non=>true
 |.bl a,.bl b=>a==b
 |.bl a,.int b=>(if a then 1 else 0)==b
 |.int a,.bl b=>a==(if b then 1 else 0)
 |.int a,.int b=>a==b
 |.str a,.str b=>a==b
 |_,_=>false
theorem vi{A:Around}{s:Shared}{y x:V}{u v:Value}(ry:RelV y u)(rx:RelV x v)(fy:He y=true)(fx:He x=true):SeqAt.EqAt A s u v (eqV y x):=by
 cases y with
 |non=>
  cases ry;cases x with
  |non=>cases rx;exact SeqAt.EqAt.same _
  |bl b=>cases rx;exact SeqAt.EqAt.none_bool b
  |int b=>obtain⟨t,rfl⟩:=rx;exact SeqAt.EqAt.none_int b t
  |str b=>obtain⟨t,rfl⟩:=rx;exact SeqAt.EqAt.none_str b t
  |_=>exact absurd (show false=true from fx) Bm
 |bl a=>
  cases ry;cases x with
  |non=>cases rx;exact SeqAt.EqAt.bool_none a
  |bl b=>cases rx;exact SeqAt.EqAt.bool_bool a b
  |int b=>obtain⟨t,rfl⟩:=rx;exact SeqAt.EqAt.bool_int a b t
  |str b=>obtain⟨t,rfl⟩:=rx;exact SeqAt.EqAt.bool_str a b t
  |_=>exact absurd (show false=true from fx) Bm
 |int a=>
  obtain⟨t',rfl⟩:=ry;cases x with
  |non=>cases rx;exact SeqAt.EqAt.int_none a t'
  |bl b=>cases rx;exact SeqAt.EqAt.int_bool a t' b
  |int b=>obtain⟨t,rfl⟩:=rx;exact SeqAt.EqAt.int_int a t' b t
  |str b=>obtain⟨t,rfl⟩:=rx;exact SeqAt.EqAt.int_str a t' b t
  |_=>exact absurd (show false=true from fx) Bm
 |str a=>
  obtain⟨t',rfl⟩:=ry;cases x with
  |non=>cases rx;exact SeqAt.EqAt.str_none a t'
  |bl b=>cases rx;exact SeqAt.EqAt.str_bool a t' b
  |int b=>obtain⟨t,rfl⟩:=rx;exact SeqAt.EqAt.str_int a t' b t
  |str b=>obtain⟨t,rfl⟩:=rx;exact SeqAt.EqAt.str_str a t' b t
  |_=>exact absurd (show false=true from fx) Bm
 |_=>exact absurd (show false=true from fy) Bm
def eqU (x:V)(u:Value):Bool:=match u with
 |.none=>eqV .non x
 |.bool b=>eqV (.bl b) x
 |.int i _=>eqV (.int i) x
 |.str z _=>eqV (.str z) x
 |_=>false
theorem sR{x y:V}{u:Value}(r:RelV y u)(f:He y=true):eqU x u=eqV y x:=by
 cases y with
 |non=>cases r;rfl
 |bl b=>cases r;rfl
 |int i=>obtain⟨t,rfl⟩:=r;rfl
 |str z=>obtain⟨t,rfl⟩:=r;rfl
 |_=>exact absurd (show false=true from f) Bm
theorem jy{x:V}:∀{xs:List V}{us:List Value},Vals xs us->xs.all He=true->us.any (eqU x)=xs.any fun y=>eqV y x
 |_,_,.nil,_=>rfl
 |y::xs,u::us,.cons r t,f=>by
  rw[List.all_cons,Bx] at f;rw[Cq,Cq,sR r f.1,jy t f.2]
theorem gi{A:Around}{s:Shared}{x:V}{v:Value}(rx:RelV x v)(fx:He x=true):∀{xs:List V}{us:List Value},Vals xs us->xs.all He=true->∀u∈us,SeqAt.EqAt A s u v (eqU x u)
 |_,_,.nil,_=>fun u hu=>by cases hu
 |y::xs,u::us,.cons r t,f=>fun u' hu=>by
  rw[List.all_cons,Bx] at f;rcases AN.mp hu with rfl|hu
  ·rw[sR r f.1];exact vi r rx f.1 fx
  ·exact gi rx fx t f.2 u' hu
def inV (x:V)(xs:List V):Bool:=xs.any fun y=>eqV y x
def rIn (K:W.Frag)(neg:Bool):R2:=fun x y H Q=>∃p xs,y=.ref p/\(SqL K H p xs\/SqT K H p xs)/\He x=true/\xs.all He=true/\Q (.bl (if neg then !inV x xs else inV x xs)) H
theorem GN:OpR X (compareOp .In) (rIn X.K false):=by
 intro pins s σ H x y v u Q I rx ry h;obtain⟨p,xs,rfl,hq,fx,fs,q⟩:=h;cases ry;rcases hq with hq|hq
 ·obtain⟨its,r,pl,hz⟩:=I.list hq;refine SeqAt.in_listAt (eqU x) pl.isList (fun w hw=>gi rx fx r fs w (by simpa using hw)) ⟨.bl _,H,I,rfl,?_⟩;rw[show its.toArray.any (eqU x)=its.any (eqU x) by simp,jy r fs];exact q
 ·obtain⟨its,r,pl,hz⟩:=I.tuple hq;refine SeqAt.in_tupleAt (eqU x) pl (fun w hw=>gi rx fx r fs w (by simpa using hw)) ⟨.bl _,H,I,rfl,?_⟩;rw[show its.toArray.any (eqU x)=its.any (eqU x) by simp,jy r fs];exact q
theorem Ft:cq X (.builtin "len") (fun xs H Q=>∃p ys,xs=[.ref p]/\(SqL X.K H p ys\/SqT X.K H p ys)/\Q (.int ys.length) H):=by
 intro pins s σ H xs us Q I r h;obtain⟨p,ys,rfl,hq,q⟩:=h;obtain⟨u,rfl,rx⟩:=dq r;cases rx;have hn:=GH;rcases hq with hq|hq
 ·obtain⟨its,r',pl,hz⟩:=I.list hq;have hlen:=r'.length;exact Calls.call_len_list pl.isList (by simp only[Bb]<;>lia) ⟨.int ys.length,H,I.tok _,⟨s.toks+1,by rw[Bb,hlen]⟩,q⟩
 ·obtain⟨its,r',pl,hz⟩:=I.tuple hq;have hlen:=r'.length;exact len_tuple pl (by simp only[Bb]<;>lia) ⟨.int ys.length,H,I.tok _,⟨s.toks+1,by rw[Bb,hlen]⟩,q⟩
theorem Fp:cq X (.builtin "len") (fun xs H Q=>∃z,xs=[.str z]/\z.length<=sizeLine/\Q (.int z.length) H):=by
 intro pins s σ H xs us Q I r h;obtain⟨z,rfl,hz,q⟩:=h;obtain⟨u,rfl,t,rfl⟩:=dq r;have hn:=GH;exact len_str (by lia) ⟨.int z.length,H,I.tok _,⟨_,rfl⟩,q⟩
theorem FZ:cq X (.type "list") (fun xs H Q=>∃p ys,xs=[.ref p]/\(SqL X.K H p ys\/SqT X.K H p ys)/\∀l,H l=none->Q (.ref l) (upd H l (.lst ys))):=by
 intro pins s σ H xs us Q I r h;obtain⟨p,ys,rfl,hq,q⟩:=h;obtain⟨u,rfl,rx⟩:=dq r;cases rx;have fin:∀(its:List Value),Vals ys its->ys.length<=sizeLine->∀(h':Heap)(c':Nat),(∀b o',s.heap.get? b=some o'->h'.get? b=some o') ->
   h'.get? s.heap.objs.size=some {cls:=.type "list",dict:=none,data:=.seq its.toArray c',slots:=#[]}->EP X pins σ Q (.ref s.heap.objs.size) {s with heap:=h'}:=fun its r' hz h' c' kp e=>
  ⟨.ref s.heap.objs.size,_,I.laid (t':=s.toks) kp (AH _) (show Fz X.prog X.w _ h' _ (.lst ys) from⟨hz,its,c',r',e⟩),rfl,q _ (I.hok.fresh (AH _))⟩
 rcases hq with hq|hq
 ·obtain⟨its,r',pl,hz⟩:=I.list hq;have hlen:=r'.length;obtain⟨o,ho,hc,n,hd⟩:=pl.isList;exact call_list_seq p (.inl rfl) ho hc hd (fun h' c' kp e=>fin its r' hz h' c' kp e) (by simp only[Bb]<;>lia)
 ·obtain⟨its,r',pl,hz⟩:=I.tuple hq;have hlen:=r'.length;obtain⟨o,ho,hc,n,hd⟩:=pl;exact call_list_seq p (.inr rfl) ho hc hd (fun h' c' kp e=>fin its r' hz h' c' kp e) (by simp only[Bb]<;>lia)
theorem FT:cq X (.type "tuple") (fun xs H Q=>∃p ys,xs=[.ref p]/\((SqL X.K H p ys/\∀l,H l=none->Q (.ref l) (upd H l (.tup ys)))\/(SqT X.K H p ys/\Q (.ref p) H))):=by
 intro pins s σ H xs us Q I r h;obtain⟨p,ys,rfl,h⟩:=h;obtain⟨u,rfl,rx⟩:=dq r;cases rx;rcases h with ⟨hq,q⟩|⟨hq,q⟩
 ·obtain⟨its,r',pl,hz⟩:=I.list hq;have hlen:=r'.length;refine call_tuple_list pl.isList (fun h' kp=>?_) (by simp only[Bb]<;>lia);have I1:Inv X pins σ H {s with heap:=h'}:=I.kept (t':=s.toks) kp;have I2:Inv X pins σ (upd H h'.objs.size (.tup ys)) {s with heap:=h'.push {cls:=.type "tuple",data:=.seq its.toArray}}:=
   I1.laid (t':=s.toks) (fun b o e=>Fb _ e) (AH _) (show Fz X.prog X.w _ _ _ (.tup ys) from⟨hz,its,r',IsTup.new _ _⟩)
  exact⟨.ref h'.objs.size,_,I2,rfl,q _ (I1.hok.fresh (AH _))⟩
 ·obtain⟨its,r',pl,hz⟩:=I.tuple hq;exact call_tuple_same pl ⟨.ref p,H,I,rfl,q⟩
def tyV (K:W.Frag)(T:String)(x:V)(H:Hp):Prop:=match x with
 |.str _=>T="str"
 |.int _=>T="int"
 |.ref p=>(T="list"/\∃xs,SqL K H p xs)\/(T="tuple"/\∃o,K.lookup p=some o/\o.cls=.type "tuple"/\o.dict=none) \/
   (T="dict"/\((∃kvs,H p=some (.dK kvs))\/∃kvs,H p=some (.dT kvs)))\/(T="set"/\∃S n,H p=some (.set S n))
 |_=>False
theorem sV{pins:List (Addr×Obj)}{σ:St}{H:Hp}{s:Shared}{T:String}{x:V}{v:Value}(I:Inv X pins σ H s)(r:RelV x v)(ty:tyV X.K T x H) :
  s.TypeIs v T/\∀a,v=.ref a->∃ob,s.heap.get? a=some ob/\ob.dict=none:=by
 cases x with
 |str z=>
  obtain⟨t,rfl⟩:=r;cases (show T="str" from ty);exact⟨typeIs_str s z t,fun _ e=>nomatch e⟩
 |int i=>
  obtain⟨t,rfl⟩:=r;cases (show T="int" from ty);exact⟨typeIs_int s i t,fun _ e=>nomatch e⟩
 |ref p=>
  cases r;rcases ty with ⟨rfl,xs,hq⟩|⟨rfl,o,hk,hc,hd⟩|⟨rfl,hk⟩|⟨rfl,S,n,hk⟩
  ·obtain⟨its,_,pl,_⟩:=I.list hq;refine⟨pl.isList.typeIs,fun a e=>?_⟩;cases e;obtain⟨o,n,e,c,hd,_⟩:=pl;exact⟨o,e,hd⟩
  ·refine⟨⟨o,I.kIn p o hk,hc⟩,fun a e=>?_⟩;cases e;exact⟨o,I.kIn _ o hk,hd⟩
  ·have z:∃o,s.heap.get? p=some o/\o.ExactDict:=by
    rcases hk with ⟨kvs,hk⟩|⟨kvs,hk⟩
    ·obtain⟨_,_,_,_,o,_,_,e,ex,_⟩:=I.hok p _ hk;exact⟨o,e,ex⟩
    ·obtain⟨_,_,_,_,o,_,_,e,ex,_⟩:=I.hok p _ hk;exact⟨o,e,ex⟩
   obtain⟨o,e,ex⟩:=z;refine⟨⟨o,e,ex.1⟩,fun a e2=>?_⟩;cases e2;exact⟨o,e,ex.2.1⟩
  ·obtain⟨o,_,_,_,e,ex,_⟩:=I.hok p _ hk;refine⟨⟨o,e,ex.1⟩,fun a e2=>?_⟩;cases e2;exact⟨o,e,ex.2.1⟩
 |_=>exact False.elim ty
def tBM0 (K:W.Frag)(T:String)(r:V->List V->Hp->VK->Prop)(to:TE):TE:=fun σ H Q=>to σ H fun x H1=>tyV K T x H1/\r x [] H1 Q
def tBM (K:W.Frag)(T:String)(r:V->List V->Hp->VK->Prop)(to:TE)(t:TA):TE:=fun σ H Q=>to σ H fun x H1=>tyV K T x H1/\t σ H1 fun xs H2=>r x xs H2 Q
variable {o e:Expr}{es:List Expr}{to:TE}{t:TA}{name:Str}{apos cpos:Pos}{T id:String}{r:V->List V->Hp->VK->Prop}
theorem vT(pa:PlainAttrs T)(slot:Slot T name id)(hty:typeOf (.builtin id)=pure (.type "method_descriptor"))(hm:MtR X id r)(ho:PE X o to)
  (hbase:attributeBase o name X.env (eval o X.env)=eval o X.env:=by rfl)(hline:(apos.endLine==cpos.line)=true:=by rfl):PE X (.Call (.Attribute o name apos) [] [] cpos) (tBM0 X.K T r to):=by
 intro pins s σ H Q I h;refine wpAny_Call_method0_late hbase hline (thn (ho pins s σ H _ I h) fun v s1 hq45=>?_);obtain⟨x,H1,I1,r1,ty,q1⟩:=hq45;obtain⟨h1,h2⟩:=sV I1 r1 ty;exact⟨T,id,pa,slot,hty,h1,h2,Calls.callWith_builtin rfl (PySem.evalArgs_none (hm pins s1 σ H1 x [] v [] Q I1 r1 .nil q1))⟩
theorem lQ(pa:PlainAttrs T)(slot:Slot T name id)(hty:typeOf (.builtin id)=pure (.type "method_descriptor"))(hm:MtR X id r)(ho:PE X o to)(ha:PA X (e::es) t)
  (hbase:attributeBase o name X.env (eval o X.env)=eval o X.env:=by rfl)
  (hfew:((backTo cpos (starEach (e::es) X.env)).all (fun x=>!x.1) && (backToKw cpos (keywordEach [] X.env)).all (fun x=>x.1.isSome)
   && decide ((e::es).length+([]:List Keyword).length+(if ([]:List Keyword).isEmpty then 0 else 1) < 30))=true:=by rfl)
  (hline:(apos.endLine==cpos.line)=true:=by rfl) (hs:starEach (e::es) X.env=(false,eval e X.env)::starEach es X.env:=by rfl) (hplain:(backTo cpos (starEach es X.env)).any (·.1)=false:=by rfl) :
  PE X (.Call (.Attribute o name apos) (e::es) [] cpos) (tBM X.K T r to t):=by
 intro pins s σ H Q I h;refine wpAny_Call_method_late hbase hfew hline rfl (thn (ho pins s σ H _ I h) fun v s1 hq46=>?_);obtain⟨x,H1,I1,r1,ty,q1⟩:=hq46;obtain⟨h1,h2⟩:=sV I1 r1 ty;refine⟨T,id,pa,slot,hty,h1,h2,?_⟩;have hA:=ha cpos pins s1 σ H1 _ I1 q1;rw[hs] at hA ⊢;refine Calls.callWith_builtin (by show(false||(backTo cpos (starEach es X.env)).any (·.1))=false;rw[hplain]<;>rfl) (Calls.evalArgs_plain ?_);refine thn hA fun us s2 hq47=>?_;obtain⟨vs,H2,I2,r2,q2⟩:=hq47;exact hm pins s2 σ H2 x vs v us Q I2 r1 r2 q2
end
def MtM (X:Cx)(id:String)(r:V->List V->Hp->VK->Prop):Prop:=
 ∀(pins:List (Addr×Obj))(s:Shared)(σ:St)(H:Hp)(x:V)(xs:List V)(v:Value)(us:List Value)(Q:VK),Inv X pins σ H s->RelV x v->Vals xs us->r x xs H Q ->
  (wq X) (call (.builtin id) (v::us)) (EP X pins σ Q) X.xe s
theorem Vals.one:∀{x:V}{us:List Value},Vals [x] us->∃u,us=[u]/\RelV x u
 |_,_,.cons r .nil=>⟨_,rfl,r⟩
theorem Vals.zero:∀{us:List Value},Vals [] us->us=[]
 |_,.nil=>rfl
theorem Vals.dropLast{xs:List V}{us:List Value}(h:Vals xs us):Vals xs.dropLast us.dropLast:=by
 induction h with
 |nil=>exact .nil
 |cons r t ih=>
  cases t with
  |nil=>exact .nil
  |cons q t'=>exact .cons r ih
theorem Vals.eraseIdx:∀{xs:List V}{us:List Value}(i:Nat),Vals xs us->Vals (xs.eraseIdx i) (us.eraseIdx i)
 |_,_,_,.nil=>.nil
 |_,_,0,.cons _ t=>t
 |_,_,i+1,.cons r t=>.cons r (Vals.eraseIdx i t)
theorem lT{α:Type}(l:List α):l.eraseIdx (l.length-1)=l.dropLast:=by
 induction l with
 |nil=>rfl
 |cons a r ih=>
  cases r with
  |nil=>rfl
  |cons b r=>
   have e:(a::b::r).length-1=((b::r).length-1)+1:=by
    have h1:(a::b::r).length=r.length+2:=rfl;have h2:(b::r).length=r.length+1:=rfl;lia
   rw[e,List.eraseIdx_cons_succ,ih]
   all_goals rfl
theorem iM{α:Type}:∀(l:List α)(i:Nat),(l.eraseIdx i).length<=l.length
 |[],_=>AH _
 |_::_,0=>BL _
 |_::r,i+1=>Ff (iM r i)
section
variable {X:Cx}{pins:List (Addr×Obj)}{σ:St}{H:Hp}{s:Shared}{l b:Addr}{xs ys zs:List V}
theorem Inv.LC{its its':List Value}{n:Nat}{f:Array Value->Array Value}{t':Nat}(I:Inv X pins σ H s)(hH:H l=some (.lst xs))
  (e:s.heap.get? l=some {cls:=.type "list",data:=.seq its.toArray n})(hf:f its.toArray=its'.toArray)(hv:Vals ys its')(hz:ys.length<=sizeLine) :
  Inv X pins σ (upd H l (.lst ys)) {s with heap:=s.heap.update l (Obj.mapSeq f),toks:=t'}:=by
 have q:=PySem.IsL.update e f;rw[hf] at q;refine I.write (x:=l) (e:=l) (by rw[hH];exact trivial) (.inl rfl) (fun b' u hb hu=>(Heap.get?_update_other s.heap (Obj.mapSeq f) (EZ hb)).trans hu) ⟨_,q⟩ ?_;exact⟨hz,its',_,hv,q⟩
theorem Inv.lnew{its:List Value}{t':Nat}(I:Inv X pins σ H s)(hv:Vals ys its)(hz:ys.length<=sizeLine) :
  Inv X pins σ (upd H s.heap.objs.size (.lst ys)) {s with heap:=s.heap.push {cls:=.type "list",data:=.seq its.toArray},toks:=t'}:=
 I.laid (fun _ _ q=>Fb _ q) (AH _) ⟨hz,its,0,hv,Fc _ rfl⟩
theorem Inv.fresh(I:Inv X pins σ H s):H s.heap.objs.size=none:=I.hok.fresh (AH _)
theorem Inv.Kz(I:Inv X pins σ H s)(hH:H l=some (.lst xs)):xs.length<=sizeLine/\∃(its:List Value)(n:Nat),Vals xs its/\xs.length=its.length/\s.heap.get? l=some {cls:=.type "list",data:=.seq its.toArray n}:=by
 obtain⟨z,its,n,r,e⟩:=I.hok l _ hH;exact⟨z,its,n,r,r.length,e⟩
end
section
variable {X:Cx}
def Jl:V->List V->Hp->VK->Prop:=fun x vs H Q=>∃l xs y,x=.ref l/\vs=[y]/\H l=some (.lst xs)/\xs.length<sizeLine/\Q .non (upd H l (.lst (xs++[y])))
theorem Hw:MtM X "list.append" Jl:=by
 intro pins s σ H x vs v us Q I rx rv h;obtain⟨l,xs,y,rfl,rfl,hH,hz,q⟩:=h;cases rx;obtain⟨u,rfl,ru⟩:=rv.one;obtain⟨z,its,n,r,hl,e⟩:=I.Kz hH;refine call_meets F.slot_list_append ⟨_,e,rfl⟩ F.entry_list_append (F.args_list_append_2 _ _) (PySem.list_append l its.toArray n u (by rw[Bb];lia)) ⟨e,?_⟩;refine⟨.non,_,I.LC (its':=its++[u]) hH e (by simp) (r.append (.cons ru .nil)) ?_,rfl,q⟩;rw[AK,List.length_singleton];lia
def rPop:V->List V->Hp->VK->Prop:=fun x vs H Q=>∃l xs y,x=.ref l/\vs=[]/\H l=some (.lst xs)/\xs[xs.length-1]?=some y/\Q y (upd H l (.lst xs.dropLast))
theorem La:MtM X "list.pop" rPop:=by
 intro pins s σ H x vs v us Q I rx rv h;obtain⟨l,xs,y,rfl,rfl,hH,hy,q⟩:=h;cases rx;have hus:=rv.zero;subst hus;obtain⟨z,its,n,r,hl,e⟩:=I.Kz hH;obtain⟨u,hu,ru⟩:=r.get hy;have hy':its.toArray[its.toArray.size-1]?=some u:=by
  show its.toArray[its.length-1]?=some u;rw[<- BE,<- hl];exact hu
 refine call_meets F.slot_list_pop ⟨_,e,rfl⟩ F.entry_list_pop (F.args_list_pop_1 _) (MeetsSeq.list_pop_last l its.toArray n u hy' (by rw[Bb];lia)) ⟨e,?_⟩;refine⟨y,_,I.LC (its':=its.dropLast) hH e ?_ r.dropLast ?_,ru,q⟩
 ·show its.toArray.eraseIdxIfInBounds (its.toArray.size-1)=its.dropLast.toArray;rw[Bb,Et,lT]
 ·rw[DO];lia
def Lh:V->List V->Hp->VK->Prop:=fun x vs H Q=>∃l xs i k y,x=.ref l/\vs=[.int i]/\H l=some (.lst xs)/\-(2^63)<=i/\i<2^63/\seqIndex? i xs.length=some k/\xs[k]?=some y/\Q y (upd H l (.lst (xs.eraseIdx k)))
theorem JB:MtM X "list.pop" Lh:=by
 intro pins s σ H x vs v us Q I rx rv h;obtain⟨l,xs,i,k,y,rfl,rfl,hH,h1,h2,hk,hy,q⟩:=h;cases rx;obtain⟨u,rfl,ru⟩:=rv.one;obtain⟨t,rfl⟩:=ru;obtain⟨z,its,n,r,hl,e⟩:=I.Kz hH;obtain⟨w,hw,rw'⟩:=r.get hy;refine call_meets F.slot_list_pop ⟨_,e,rfl⟩ F.entry_list_pop (F.args_list_pop_2 _ _)
  (MeetsSeq.list_pop_at l its.toArray n i t k w (fitsIndex_both h1 h2) (by rw[Bb,<- hl];exact hk) (by rw[<- BE];exact hw) (by rw[Bb];lia)) ⟨e,?_⟩
 refine⟨y,_,I.LC (its':=its.eraseIdx k) hH e ?_ (r.eraseIdx k) ?_,rw',q⟩
 ·show its.toArray.eraseIdxIfInBounds k=(its.eraseIdx k).toArray;rw[Et]
 ·have:=iM xs k;lia
def rCat:R2:=fun x y H Q=>∃l b xs zs,x=.ref l/\y=.ref b/\H l=some (.lst xs)/\H b=some (.lst zs)/\xs.length+zs.length<=sizeLine/\∀p,H p=none->Q (.ref p) (upd H p (.lst (xs++zs)))
theorem GF:OpR X (binaryOp .Add) rCat:=by
 intro pins s σ H x y v u Q I rx ry h;obtain⟨l,b,xs,zs,rfl,rfl,hH,hB,hz,q⟩:=h;cases rx;cases ry;obtain⟨z,its,n,r,hl,e⟩:=I.Kz hH;obtain⟨z2,its2,n2,r2,hl2,e2⟩:=I.Kz hB;refine PySem.P.add_list e e2 ?_ (by rw[Bb,Bb];lia);have ea:its.toArray++its2.toArray=(its++its2).toArray:=by simp
 rw[ea];exact⟨.ref _,_,I.lnew (t':=s.toks) (r.append r2) (by rw[AK];lia),rfl,q _ I.fresh⟩
end
end L2
namespace Att
open PySem PySem.W PySem.Calls PyProof.Rows
theorem fA{P:Params}{h:Heap}:∀(ns:List Int)(vs:List Value),WellAll P h vs (ns.map WData.int)->IntsAre vs ns:=by
 intro ns;induction ns with
 |nil=>
  intro vs w;rw[Cb] at w;cases w;exact .nil
 |cons n ns ih=>
  intro vs w;rw[AQ] at w;cases w with
  |cons a b=>
   cases a;exact .cons _ _ (ih _ b)
theorem pB{l:OpenLaw}{n:Nat}(hn:l.most=some n){P:Params}{h:Heap}{args:List WData}{vals:List Value}
  (hpre:l.row.toRowW.claim.pre args=true)(hwl:WellAll P h vals args) :
  ∃a vs ns,vals=[Value.ref a]/\args=[WData.list (ns.map WData.int)]/\h.get? a=some {cls:=.type "list",data:=.seq vs.toArray}/\IntsAre vs ns/\ns.length<=n:=by
 have hsh:WShape.hasAll [] args [.list .int]=true:=(pre_splitW hpre).1;have hc:l.pre.holds [] {args:=args}=true:=(pre_splitW hpre).2;obtain⟨d,r,rfl,h1,h2⟩:=hasAllW_cons hsh;obtain rfl:=hasAllW_nil h2;obtain⟨xs,rfl,h3⟩:=hasW_list h1;obtain⟨ns,rfl⟩:=items_int h3;have hlen:ns.length<=n:=by
  unfold OpenLaw.pre at hc;have h4:(WTm.not (.lt (.lit (.int (n:Int))) (.len (.arg 0)))).holds [] {args:=[.list (ns.map .int)]}=true:=by
   have h4:=(holds_andW hc).1;rw[hn] at h4;exact h4
  have h5:=condW_of h4 (w_not (w_lt w_lit (w_len_list (w_arg rfl))));rw[AI] at h5;refine DP fun q=>?_;have q':(n:Int)<((ns.length:Nat):Int):=by lia
  first
   |(rw[EG q'] at h5;exact absurd h5 (by decide))
   |(simp at h5;lia)
 cases hwl with
 |cons w1 w2=>
  cases w2;cases w1 with
  |list ho hall=>exact⟨_,_,ns,rfl,rfl,ho,fA ns _ hall,hlen⟩
theorem pF(l:OpenLaw)(args:List WData):l.row.toRowW.claim.post args (.bool true) args=true:=
 postW_of (r:=l.row.toRowW) (X:=(true==true))
  (show WShape.has [] (.bool true) .bool=true by first|rfl|decide|simp[WShape.has,WShape.arms,WShape.armsAll])
  (show(WTm.eq .res (.lit (.bool true))).value [] {args:=args,res:=some (.bool true),after:=args}=some (.bool (true==true)) from w_eq_bool (w_res rfl) w_lit) rfl
theorem HX{l:OpenLaw}{n:Nat}{q:Program}{loose:List Str}{XP:(Str->Option Value)->Heap->Prop}{YP:World->Heap->Prop}{d:DefRec}
  (hn:l.most=some n)(hdf:d.params.defaults=[])
  (call:∀(w:World) (s₀ s₁:Shared) (mg mb:Str->Option Value) (fa:Addr) (o:Obj) (pm cd doc:Value) (a:Addr) (vs:List Value) (ns:List Int),
   Ground q loose [] XP w s₀ mg mb s₁.heap->YP w s₁.heap ->
   s₁.heap.get? fa=some o->o.data=.func (docDef d.name d.params d.body d.scope pm cd doc)->s₁.heap.CodeRec cd d.name->mg d.name=some (.ref fa) ->
   s₁.heap.get? a=some {cls:=.type "list",data:=.seq vs.toArray}->IntsAre vs ns->ns.length<=n->s₁.gens=#[] ->
   codeAny (model l.prog w) callerA (.call (.ref fa) ⟨[.ref a],[]⟩) (fun r s'=>r=.ok (.ret (.bool true))/\OldK s₁.heap s'.heap/\s'.os=s₁.os/\AllBare s'.gens) s₁) :
  WalkO q loose XP YP l.row.toRowW d [] (fun f vs=>PySem.call f vs):=by
 intro w s₀ s₁ mg mb G Y fa o pm cd doc dV kV ho hd hcd hD hmg hg args vals as hpre hlay hrd hwl hlo;obtain rfl:dV=.none:=Dflts.none hD hdf;obtain rfl:kV=.none:=Dflts.noKw hD;obtain⟨a,vs,ns,rfl,rfl,hobj,hints,hlen⟩:=pB hn hpre hwl;refine enter_call (codeAny_mono (call w s₀ s₁ mg mb fa o pm cd doc a vs ns G Y ho (fd_plain hd) hcd hmg hobj hints hlen hg) fun r s' hq=>?_);obtain⟨rfl,h2,h3,h4⟩:=hq;exact⟨.inl ⟨.bool true,.bool true,[],rfl,fun _=>rfl,.bool true,pF l _,fun _=>⟨List.Pairwise.nil,fun _ hm=>(nomatch hm)⟩⟩,h2,h3,h4⟩
end Att
namespace L2
open PySem PySem.Spec PyProof.Rows
theorem HA:∀{vs:List Value}{ns:List Int},IntsAre vs ns->Vals (ns.map V.int) vs
 |_,_,.nil=>.nil
 |_,_,.cons n t h=>.cons ⟨t,rfl⟩ (HA h)
def bO (s:Stmt):Arguments:=match s with
 |.FunctionDef _ a _ _ _ _ _ _ _ _=>a
 |_=>{posonlyargs:=[],args:=[],vararg:=none,kwonlyargs:=[],kw_defaults:=[],kwarg:=none,defaults:=[]}
def bw (s:Stmt):List Stmt:=match s with
 |.FunctionDef _ _ b _ _ _ _ _ _ _=>b
 |_=>[]
def ar (s:Stmt):Scope:=match s with
 |.FunctionDef _ _ _ _ _ _ sc _ _ _=>sc
 |_=>{kind:=.function,names:=[],isGenerator:=false,isCoroutine:=false}
abbrev CX0:CXT:=fun _ _ _ _ _ _=>False
abbrev E0:XK:=fun _ _ _=>False
theorem vb{X:Cx}:pC CX0 X E0:=fun _ _ _ _ _ _ _ h=>h.elim
structure Fun(K:W.Frag)(x qual:Str)(st:Stmt)(f:Addr)(fd:FuncData):Prop where
 ex:∃(oc:Value)(od:Option Addr)(kV doc pm:Value)(an:Option Addr)(cdv ct:Value)(osl:Array (Option Value)),
  fd=W.fnOf x qual (bO st) (bw st) (ar st) .none kV doc pm an cdv ct/\K.lookup f=some ⟨oc,od,.func fd,osl⟩/\W.codeIn K cdv qual=true
 kp:W.keepIn K (.ref f)=true
section
variable {P:Program}{w:World}{K:PySem.W.Frag}{mg:Str->Option Value}{base:Heap}
theorem Fun.ok{x qual:Str}{st:Stmt}{f:Addr}{fd:FuncData}{N ps:List Str}{k:Nat}{sp:Sp}(F:Fun K x qual st f fd)(S:Fs N ps (ar st))(len:∀vs H Q E,sp vs H Q E->vs.length=ps.length)
  (hbody:∀(cdv:Value) (A:Around) (outer:List Env) (s:Shared) (H:Hp) (vs:List V) (Q:VK) (E:XK),Gy k (A.deeper (envOfC qual (ar st) s.heap.objs.size f cdv))->sp vs H Q E ->
   ∃t,PSs (cg CX0 P w K mg base N qual (ar st) f cdv A outer s H E).nox (bw st) t/\t { nx:=fun _ H'=>Q .non H',rt:=Q } (start N vs) H):Fx P w K mg base CX0 (k+1) f fd ps sp:=by
 obtain⟨oc,od,kV,doc,pm,an,cdv,ct,osl,rfl,lk,hcd⟩:=F.ex;refine we lk hcd S len fun A outer s H vs Q E hr hsp=>?_;obtain⟨t,h,q⟩:=hbody cdv A outer s H vs Q E hr hsp;exact⟨t,h.nox,q⟩
theorem Fun.binds{x qual:Str}{st:Stmt}{f:Addr}{fd:FuncData}{ps:List Str}(F:Fun K x qual st f fd)
  (h:∀(kV doc pm:Value)(an:Option Addr)(cdv ct:Value)(us:List Value),us.length=ps.length->bindArgs (W.fnOf x qual (bO st) (bw st) (ar st) .none kV doc pm an cdv ct) ⟨us,[]⟩=pure (ps.zip us)):Binds K fd ps []:=by
 obtain⟨oc,od,kV,doc,pm,an,cdv,ct,osl,rfl,lk,hcd⟩:=F.ex;exact .all (h kV doc pm an cdv ct)
theorem nI{x qual:Str}{st:Stmt}{f:Addr}{oc:Value}{od an:Option Addr}{osl:Array (Option Value)}{kV doc pm cdv ct:Value}(l:K.lookup f=some ⟨oc,od,.func (W.fnOf x qual (bO st) (bw st) (ar st) .none kV doc pm an cdv ct),osl⟩)
  (c:W.codeIn K cdv qual=true)(k:W.keepIn K (.ref f)=true):Fun K x qual st f (W.fnOf x qual (bO st) (bw st) (ar st) .none kV doc pm an cdv ct):=⟨⟨oc,od,kV,doc,pm,an,cdv,ct,osl,rfl,l,c⟩,k⟩
end
theorem fD{A:Around}{k:Nat}(hr:Gy k A):A.units+1<cLine:=BN (Nat.add_le_add_left (by decide:1<=64) _) hr.units
section
variable {X:Cx}
theorem pv(i:Nat){x:Str}{pos:Pos}(hN:X.N[i]?=some x:=by rfl)(hv:Vis X.env.scope x:=by first|exact Or.inl rfl|exact Or.inr (Or.inl rfl)|exact Or.inr (Or.inr rfl))(hd:(x==("__debug__":Str))=false:=by decide)
  (hcd:(x==("__classdict__":Str))=false:=by decide):PE X (.Name x pos) (wZ i):=vy hN hv hd hcd
end
theorem xI{A B:Prop}(h:B):if false=true then A else B:=by
 rw[EE Bm];exact h
theorem ym{A B:Prop}(h:A):if true=true then A else B:=by
 rw[EF rfl];exact h
theorem uQ{c A B:Prop} [Decidable c](h1:c->A)(h2:¬c->B):if c then A else B:=by
 by_cases h:c
 ·rw[EF h];exact h1 h
 ·rw[EE h];exact h2 h
def Fo (H H':Hp):Prop:=∀b o,H b=some o->H' b=some o
theorem Fo.refl(H:Hp):Fo H H:=fun _ _ h=>h
theorem Fo.trans{H H1 H2:Hp}(a:Fo H H1)(b:Fo H1 H2):Fo H H2:=fun c o h=>b c o (a c o h)
theorem Fo.free{H H':Hp}(e:Fo H H'){l:Addr}(h:H' l=Option.none):H l=Option.none:=by
 cases q:H l with
 |none=>rfl
 |some o=>
  rw[e l o q] at h;cases h
theorem Fo.seq{K:W.Frag}{H H':Hp}{a:Addr}{xs:List V}(e:Fo H H')(h:SqL K H a xs):SqL K H' a xs:=by
 rcases h with (h|⟨o,h⟩)|h
 ·exact .inl (.inl (e _ _ h))
 ·exact .inl (.inr ⟨o,e _ _ h⟩)
 ·exact .inr h
def cU (cells:List (Str×Addr)):List (Str×NameKind)->List (Str×Addr)->List (Str×Addr)
 |[],acc=>acc
 |(n,k)::r,acc=>cU cells r (if k==.free then (n,(cells.lookup n).getD 0)::acc else acc)
theorem bu{scope:Scope}{env:Env}(h:∀y∈scope.names,y.2=.free->∃c,env.cells.lookup y.1=some c):closureFor scope env=pure (cU env.cells scope.names []):=by
 unfold closureFor;have key:∀(l:List (Str×NameKind))(acc:List (Str×Addr)),(∀y∈l,y.2=.free->∃c,env.cells.lookup y.1=some c) ->
   (forIn l acc (fun x r=>match x with
    | (name,kind)=>if (kind == NameKind.free)=true then do let a <- cellOf env name; pure (ForInStep.yield ((name,a)::r)) else pure (ForInStep.yield r)):Sem (List (Str×Addr)))=pure (cU env.cells l acc):=by
  intro l;induction l with
  |nil=>intro acc _;rfl
  |cons y r ih=>
   intro acc hl;obtain⟨n,k⟩:=y;rw[DQ];have ih':=fun acc=>ih acc fun y hy=>hl y (AY _ hy);by_cases hk:(k==NameKind.free)=true
   ·obtain⟨c,hc⟩:=hl (n,k) AS (by simpa using hk);have e1:cellOf env n=pure c:=by unfold cellOf;have hc':env.cells.lookup n=some c:=hc;rw[hc']
    dsimp only;rw[EF hk,e1];simp only[pure_bind];rw[ih'];unfold cU;rw[EF hk];have hc':env.cells.lookup n=some c:=hc;rw[hc']
    conv=>rhs;unfold cU
    rfl
   ·dsimp only;rw[EE hk];simp only[pure_bind];rw[ih']
    conv=>rhs;unfold cU
    rw[EE hk]
 have:=key scope.names [] h;simp only[bind_pure] at *;exact this
theorem iY{cells:List (Str×Addr)}:∀{l:List (Str×NameKind)}{acc:List (Str×Addr)}{x:Str}{c:Addr},(∀y∈l,y.2=.free->∃c,cells.lookup y.1=some c)->(∀x c,acc.lookup x=some c->cells.lookup x=some c) ->
  (cU cells l acc).lookup x=some c->cells.lookup x=some c
 |[],_,_,_,_,ha,e=>ha _ _ e
 |(n,k)::r,acc,x,c,h,ha,e=>by
  unfold cU at e;refine iY (fun y hy=>h y (AY _ hy)) ?_ e;intro x c e;by_cases hk:(k==NameKind.free)=true
  ·rw[EF hk] at e;obtain⟨c',hc⟩:=h (n,k) AS (by simpa using hk);have hc':cells.lookup n=some c':=hc;rw[Cc] at e;by_cases hx:(x==n)=true
   ·rw[hx] at e;have hxn:x=n:=by simpa using hx
    subst hxn;simp only[hc',Option.getD_some] at e;rw[hc'];exact e
   ·have hx':(x==n)=false:=by simpa using hx
    rw[hx'] at e;exact ha _ _ e
  ·rw[EE hk] at e;exact ha _ _ e
theorem cS{cells:List (Str×Addr)}:∀{l:List (Str×NameKind)}{acc:List (Str×Addr)}{x:Str},((x,NameKind.free)∈l\/(acc.lookup x).isSome=true)->((cU cells l acc).lookup x).isSome=true
 |[],_,_,h=>by
  rcases h with h|h
  ·cases h
  ·exact h
 |(n,k)::r,acc,x,h=>by
  unfold cU;refine cS ?_;rcases h with h|h
  ·rcases AN.mp h with e|h
   ·right
    cases e;simp[Cc]
   ·exact .inl h
  ·right
   split
   ·rw[Cc];split
    ·rfl
    ·exact h
   ·exact h
theorem cJ{env:Env}{x:Str}{k:NameKind}:∀{names:List (Str×NameKind)},(∀y∈names,y.2≠.cell) ->
  (names.map fun(n,k)=>if (k==NameKind.free&&env.scope.kind==.function&&env.kindOf n==some .cell) then (n,NameKind.cell) else (n,k)).lookup x=some k->(k=.cell\/k=.free)->(x,NameKind.free)∈names
 |[],_,h,_=>by simp at h
 |(n,k')::r,hc,h,hk=>by
  rw[AQ,Cc] at h;have ih:=@cJ env x k r (fun y hy=>hc y (AY _ hy));by_cases c:(k'==NameKind.free&&env.scope.kind==.function&&env.kindOf n==some .cell)=true
  ·rw[EF c] at h;have hf:k'=.free:=by
    have:=(Bx _ _▸(Bx _ _▸c).1).1;simpa using this
   by_cases hx:(x==n)=true
   ·have:x=n:=by simpa using hx
    subst this;subst hf;exact AS
   ·have hx':(x==n)=false:=by simpa using hx
    simp only[hx'] at h;exact AY _ (ih h hk)
  ·rw[EE c] at h;by_cases hx:(x==n)=true
   ·simp only[hx] at h;have:x=n:=by simpa using hx
    subst this;have hkk:k'=k:=EM h;subst hkk;rcases hk with hk|hk
    ·exact absurd hk (hc (x,k') AS)
    ·subst hk;exact AS
   ·have hx':(x==n)=false:=by simpa using hx
    simp only[hx'] at h;exact AY _ (ih h hk)
theorem de{env:Env}{x:Str}:∀{names:List (Str×NameKind)},names.lookup x=some .free ->
  (names.map fun(n,k)=>if (k==NameKind.free&&env.scope.kind==.function&&env.kindOf n==some .cell) then (n,NameKind.cell) else (n,k)).lookup x=some .cell \/
  (names.map fun(n,k)=>if (k==NameKind.free&&env.scope.kind==.function&&env.kindOf n==some .cell) then (n,NameKind.cell) else (n,k)).lookup x=some .free
 |[],h=>by simp at h
 |(n,k')::r,h=>by
  have ih:=@de env x r;rw[Cc] at h;rw[AQ,Cc];by_cases hx:(x==n)=true
  ·simp only[hx] at h;have hk:k'=.free:=EM h;by_cases c:(k'==NameKind.free&&env.scope.kind==.function&&env.kindOf n==some .cell)=true
   ·rw[EF c];simp only[hx];exact .inl trivial
   ·rw[EE c];simp only[hx,hk];exact .inr trivial
  ·have hx':(x==n)=false:=by simpa using hx
   simp only[hx'] at h;by_cases c:(k'==NameKind.free&&env.scope.kind==.function&&env.kindOf n==some .cell)=true
   ·rw[EF c];simp only[hx'];exact ih h
   ·rw[EE c];simp only[hx'];exact ih h
def au (X:Cx)(scope:Scope)(C:Addr)(fp:List Addr)(N:List Str)(s:Shared)(H:Hp):Cx:=
 {X with N:=N,s₀:=s,H₀:=H,env:=compEnvC scope (cU X.env.cells scope.names []) C X.env,outer:=X.stack,stack:=X.stack,ex:=fp,fn:=fun _=>false,xe:=fun _ _=>False}
def bJ (js:List Nat)(σ:St):St:=js.map fun j=>(σ[j]?).join
structure Fu(X:Cx)(scope:Scope)(ts:List Str)(cap:List Str)(js:List Nat):Prop where
 kind:scope.kind=.function
 Gu:∀y∈scope.names,y.2≠.cell
 names:∀y∈scope.names,y.2=.local->scope.names.lookup y.1=some .local
 free:∀y∈scope.names,y.2=.free->X.env.kindOf y.1=some .cell\/X.env.kindOf y.1=some .free
 Kg:cap.map some=js.map fun j=>X.N[j]?
 Lr:∀y∈cap,scope.names.lookup y=some .free
 nd:(ts++cap).Nodup
theorem bc{names:List (Str×NameKind)}{y:Str}{k:NameKind}(h:names.lookup y=some k):(y,k)∈names:=PySem.mem_of_lookup h
section
variable {X:Cx}{pins:List (Addr×Obj)}{σ:St}{H:Hp}{s:Shared}{scope:Scope}{ts cap:List Str}{js:List Nat}{fp:List Addr}{C:Addr}
theorem Fu.cells(CS:Fu X scope ts cap js)(ok:X.Ok):∀y∈scope.names,y.2=.free->∃c,X.env.cells.lookup y.1=some c:=fun y hy hf=>ok.has _ (CS.free y hy hf)
theorem Fu.look(CS:Fu X scope ts cap js)(ok:X.Ok){x:Str}{c:Addr}(e:(cU X.env.cells scope.names []).lookup x=some c):X.env.cells.lookup x=some c:=
 iY (CS.cells ok) (fun _ _ z=>by simp at z) e
theorem gA(I:Inv X pins σ H s)(CS:Fu X scope ts cap js)(hf:∀b∈fp,FY X pins H b)(hfl:∀b∈fp,b<s.heap.objs.size)(hC:s.heap.objs.size<=C):(au X scope C fp (ts++cap) s H).Ok where
 mod:=I.ok.mod
 kind:=CS.kind
 glob:=I.ok.glob
 blt:=I.ok.blt
 above:=hC
 inj:=fun x y c h1 h2=>I.ok.inj x y c (CS.look I.ok h1) (CS.look I.ok h2)
 has:=fun x hx=>by
  have:(x,NameKind.free)∈scope.names:=by
   rcases hx with hx|hx
   ·exact cJ (env:=X.env) CS.Gu hx (.inl rfl)
   ·exact cJ (env:=X.env) CS.Gu hx (.inr rfl)
  exact Cy.mp (cS (.inl this))
 cab:=fun x c h _=>by cases (show false=true from h)
 hd:=I.ok.hd
 frames:=I.ok.frames
 stk:=.inl rfl
 exf:=fun b hb=>⟨AR (Be (hfl b hb) hC),fun x c e=>(hf b hb).2.2.2.2.1 x c (CS.look I.ok e)⟩
 bs:=I.bs
 bsz:=AX I.ok.bsz I.sz
 Kl:=fun b o e hb=>by
  rcases (hf b hb).2.2.2.1 with z|z
  ·exact I.ok.Kl b o e z
  ·have q:=(I.ok.bs b o e).1;rw[z] at q;cases q
 JC:=fun b hb z=>by
  rcases AN.mp (I.HI b z) with q|q
  ·exact(hf b hb).2.1 q
  ·exact(hf b hb).2.2.1 q
 IL:=I.stack
 frf:=I.Hm
theorem gn{s₄:Shared}{m:Str->Option Value}{pins':List (Addr×Obj)}(I:Inv X pins σ H s)(CS:Fu X scope ts cap js)(hf:∀b∈fp,FY X pins H b)(hfl:∀b∈fp,b<s.heap.objs.size)(hC:s.heap.objs.size<=C)
  (old:∀b o,s.heap.get? b=some o->s₄.heap.get? b=some o)(hn:s₄.heap.Ns C m)(hos:s₄.os=s.os)(hb:AllBare s₄.gens)
  (hp:∀p∈pins',s₄.heap.get? p.1=some p.2/\H p.1=none/\p.1≠C/\p.1∉frs X.stack/\∀v,p.2.data≠.cell v) :
  Inv (au X scope C fp (ts++cap) s H) pins' (List.replicate ts.length none++bJ js σ) H s₄ where
 ok:=gA I CS hf hfl hC
 os:=hos
 bare:=hb
 base:=Un.kept old
 loc:=⟨m,hn,fun i x v h1 h2 h3=>by
  by_cases hi:i<ts.length
  ·rw[CM (by simpa using hi)] at h2;rw[DI] at h2;split at h2<;>cases h2
  ·have h1':cap[i-ts.length]?=some x:=by
    have:=h1;show cap[i-ts.length]?=some x;rw[show(au X scope C fp (ts++cap) s H).N=ts++cap from rfl,Co (by lia)] at this;exact this
   rw[Co (by simpa using hi),Cz] at h2;unfold bJ at h2;rw[AW] at h2;cases hj:js[i-ts.length]? with
   |none=>rw[hj] at h2;cases h2
   |some j=>
    rw[hj] at h2;have h2':(σ[j]?).join=some v:=EM h2;have hσ:σ[j]?=some (some v):=by
     cases e:σ[j]? with
     |none=>rw[e] at h2';cases h2'
     |some o=>rw[e] at h2';rw[show o=some v from h2']
    have hN:X.N[j]?=some x:=by
     have:=congrArg (fun l=>l[i-ts.length]?) CS.Kg;simp only[AW,h1',hj] at this;exact(EM this).symm
    have hfr:=CS.Lr x (Bg h1');have hk:=CS.free _ (bc hfr) rfl;obtain⟨m0,hn0,hl⟩:=I.loc;obtain⟨u,r,l⟩:=hl j x v hN hσ (.inr hk);refine⟨u,r,?_⟩;rcases l with ⟨k,_⟩|⟨k,c,e,z⟩
    ·rcases hk with q|q<;>(rw[q] at k;cases k)
    ·obtain⟨c',e'⟩:=Cy.mp (cS (cells:=X.env.cells) (acc:=[]) (.inl (bc hfr)));have e2:=CS.look I.ok e';have e3:X.env.cells.lookup x=some c:=e;rw[e3] at e2;cases e2;obtain⟨o,ho,hd⟩:=z
     exact .inr ⟨de hfr,c,e',⟨o,old _ _ ho,hd⟩⟩⟩
 cell:=fun x c e=>by
  obtain⟨v,o,ho,hd⟩:=I.cell x c (CS.look I.ok e);exact⟨v,o,old _ _ ho,hd⟩
 free:=I.hok.fresh hC
 FX:=fun x c e=>I.FX x c (CS.look I.ok e)
 pin:=fun p hp'=>by
  rcases AO.mp hp' with z|z
  ·obtain⟨e,n,ne,nf,d⟩:=I.pin p (Bo _ z);refine⟨old _ _ e,n,AR (Be (EL e) hC),fun q=>?_,d⟩;rcases AN.mp (I.HI _ q) with q|q
   ·exact ne q
   ·exact nf q
  ·exact hp p z
 hok:=I.hok.kept old
 len:=by
  show(List.replicate ts.length none++bJ js σ).length=(ts++cap).length;have:=congrArg List.length CS.Kg;simp only[AI] at this;rw[AK,AK,Cz,bJ,AI,this]
end
def Kk:TT:=fun _ H Q=>Q true H
def fh (J:It)(k:Nat)(js:List Nat)(g:TG)(tc:TT)(te:TE)(σ:St)(H1:Hp)(Q:VK):Prop:=
 ∃W:Nat->Nat->List V->Hp->Prop,(∃m,W 0 m [] H1)/\∀i m ys H,W i m ys H ->
  (J.stop i H/\ys.length<=sizeLine/\∀p,H p=none->Q (.ref p) (upd H p (.lst ys))) \/
  (J.go i H/\ys.length<sizeLine/\∀x H',J.yld i H x H'->g x (List.replicate k none++bJ js σ) H' fun σ2 H2=>tc σ2 H2 fun b H3=>if b=true then te σ2 H3 fun y H4=>∃m',m'<m/\W (i+1) m' (ys++[y]) H4 else ∃m',m'<m/\W (i+1) m' ys H3)
def xa (wi:TI)(k:Nat)(js:List Nat)(g:TG)(tc:TT)(te:TE):TE:=fun σ H Q=>wi σ H fun J H1=>fh J k js g tc te σ H1 Q
def PTs (X:Cx)(ifs:List Expr)(t:TT):Prop:=
 ∀(pins:List (Addr×Obj))(s:Shared)(σ:St)(H:Hp)(Q:Bool->Hp->Prop),Inv X pins σ H s->t σ H Q ->
  (wq X) (forIn ifs true fun c r=>if r=true then do let ok <- isTrue c X.env (eval c X.env);pure (ForInStep.yield ok) else pure (ForInStep.yield r)) (TP X pins σ Q) X.xe s
theorem aV{X:Cx}:PTs X [] Kk:=fun _ _ _ H _ I h=>wpAny_tests_nil ⟨H,I,h⟩
theorem bN{X:Cx}{c:Expr}{t:TT}(h:PT X c t):PTs X [c] t:=fun pins s σ H Q I hw=>wpAny_tests_one (h pins s σ H Q I hw)
theorem lY{prog:Program}{w:World}{A:Around}{R:Result->Shared->Prop}{s:Shared}{elt target iter:Expr}{ifs:List Expr}{scope:Scope}{pos:Pos}{it acc:Value}{env:Env}(I:Nat->Shared->Prop)
  (turn:∀n s,I n s->wpAny (model prog w) A (pyNext it) (fun r s₁=>match r with
   |none=>R (.ok .next) s₁
   | some v=>wpAny (model prog w) A (letOwnedTupleGo target it v) (fun _ s₁'=>wpAny (model prog w) A (assign target env v) (fun _ s₂ =>
     wpAny (model prog w) A (forIn ifs true fun c r=>if r=true then do let ok <- isTrue c env (eval c env); pure (ForInStep.yield ok) else pure (ForInStep.yield r)) (fun ok s₃ =>
      if ok=true then wpAny (model prog w) A (eval elt env) (fun x s₄ =>
       wpAny (model prog w) A (call (.builtin "list.append") [acc,x]) (fun _ s₅=>∃m,m < n/\I m s₅) (fun _ _=>False) s₄) (fun _ _=>False) s₃
      else ∃m,m < n/\I m s₃) (fun _ _=>False) s₂) (fun _ _=>False) s₁') (fun _ _=>False) s₁) (fun _ _=>False) s)
  (n:Nat) (h:I n s):codeAny (model prog w) A (.compLoop (.ListComp elt [⟨target,iter,ifs,0⟩] scope pos) 0 it acc env) R s:=by
 refine codeAny_loop rfl I (fun n s hI=>?_) n h;show wpAny _ A ((compTurn (.ListComp elt [⟨target,iter,ifs,0⟩] scope pos) 0 it acc env).onRaise (fun x=>do noteFrame x env;theTreesLotGoes x)) _ _ s;refine wpAny_noted ?_;rw[compTurn_list];refine EA (wpAny_standAt (EA (EI (turn n s hI) (fun r s₁ h₁=>?_) fun _ _ h'=>h'.elim)));cases r with
 |none=>exact EB h₁
 |some v=>
  refine EA (EI h₁ (fun _ s₁' h₁'=>?_) fun _ _ h'=>h'.elim);refine EA (EI h₁' (fun _ s₂ h₂=>EA (EI h₂ (fun ok s₃ h₃=>?_) fun _ _ h'=>h'.elim)) fun _ _ h'=>h'.elim);cases ok with
  |false=>exact EB ⟨rfl,h₃⟩
  |true=>
   exact EA (EA (EI h₃ (fun x s₄ h₄=>EA (EI h₄ (fun _ s₅ h₅=>EB (EB ⟨rfl,h₅⟩)) fun _ _ h'=>h'.elim)) fun _ _ h'=>h'.elim))
abbrev cD(its:List Value)(n:Nat):Obj:={cls:=.type "list",data:=.seq its.toArray n}
section
variable {X:Cx}{pins:List (Addr×Obj)}{σ:St}{H:Hp}{s:Shared}{scope:Scope}{ts cap:List Str}{js:List Nat}{fp:List Addr}{C D:Addr}
theorem iT{s':Shared}{σ':St}{H':Hp}{ys:List V}{its:List Value}{n:Nat}(I:Inv X pins σ H s)(hf:∀b∈fp,FY X pins H b)
  (hC:s.heap.objs.size<=C)(hD:s.heap.objs.size<=D)(I':Inv (au X scope C fp (ts++cap) s H) [(D,cD its n)] σ' H' s')(hv:Vals ys its)(hz:ys.length<=sizeLine):Inv X pins σ (upd H' D (.lst ys)) s':=by
 obtain⟨hDg,hDn,hDC,hDs,hDd⟩:=I'.pin (D,cD its n) (AV _ AS);have nD:∀b o,s.heap.get? b=some o->b≠D:=fun b o e=>AR (Be (EL e) hD);have nDt:∀b o,H b=some o->b≠D:=fun b o e=>AR (Be (I.hok.lt e) hD);have u:=I'.base;refine I.Km (ch:=fp) I'.os ⟨fun b o e n hb hx=>u.keep b o e n hb hx,fun b o e n hb hx=>u.slot b o e n hb hx,fun b o e n hx=>?_,fun b o e hx=>u.there b o e hx,fun b xs e=>?_,fun b o xs e=>?_,fun b ps e=>?_⟩ ?_ I'.bare fun b hb=>?_
 ·rw[ai (nD b o e)];exact u.free b o e n hx
 ·rw[ai (nDt b _ e)];exact u.IQ b xs e
 ·rw[ai (nDt b _ e)];exact u.IH b o xs e
 ·rw[ai (nDt b _ e)];exact u.IK b ps e
 ·intro b o e;by_cases hb:b=D
  ·subst hb;rw[ae] at e;cases e;exact⟨hz,its,n,hv,hDg⟩
  ·rw[ai hb] at e;refine(I'.hok b o e).IM (fun _ _ _ q=>q) (fun c q=>?_) fun c xs q=>?_
   ·by_cases hc:c=D
    ·subst hc;rw[hDn] at q;cases q
    ·rw[ai hc];exact q
   ·by_cases hc:c=D
    ·subst hc;rw[hDn] at q;cases q
    ·rw[ai hc];exact q
 ·obtain⟨f0,f1,f2,f3,f4,f5⟩:=hf b hb;exact⟨f3,f1,f4,f5⟩
theorem bM{pins':List (Addr×Obj)}{σ':St}{H':Hp}{s':Shared}(I:Inv X pins σ H s)(CS:Fu X scope ts cap js)(hf:∀b∈fp,FY X pins H b)(I':Inv (au X scope C fp (ts++cap) s H) pins' σ' H' s') :
  Inv (au X scope C fp (ts++cap) s H) pins' (List.replicate ts.length none++bJ js σ) H' s':=by
 refine⟨I'.ok,I'.os,I'.bare,I'.base,?_,I'.cell,I'.free,I'.FX,I'.pin,I'.hok,?_⟩
 ·obtain⟨m,hn,_⟩:=I'.loc;refine⟨m,hn,fun i x v h1 h2 h3=>?_⟩;by_cases hi:i<ts.length
  ·rw[CM (by simpa using hi)] at h2;rw[DI] at h2;split at h2<;>cases h2
  ·have h1':cap[i-ts.length]?=some x:=by
    have:=h1;rw[show(au X scope C fp (ts++cap) s H).N=ts++cap from rfl,Co (by lia)] at this;exact this
   rw[Co (by simpa using hi),Cz] at h2;unfold bJ at h2;rw[AW] at h2;cases hj:js[i-ts.length]? with
   |none=>rw[hj] at h2;cases h2
   |some j=>
    rw[hj] at h2;have h2':(σ[j]?).join=some v:=EM h2;have hσ:σ[j]?=some (some v):=by
     cases e:σ[j]? with
     |none=>rw[e] at h2';cases h2'
     |some o=>rw[e] at h2';rw[show o=some v from h2']
    have hN:X.N[j]?=some x:=by
     have:=congrArg (fun l=>l[i-ts.length]?) CS.Kg;simp only[AW,h1',hj] at this;exact(EM this).symm
    have hfr:=CS.Lr x (Bg h1');have hk:=CS.free _ (bc hfr) rfl;obtain⟨m0,hn0,hl⟩:=I.loc;obtain⟨u,r,l⟩:=hl j x v hN hσ (.inr hk);refine⟨u,r,?_⟩;rcases l with ⟨k,_⟩|⟨k,c,e,z⟩
    ·rcases hk with q|q<;>(rw[q] at k;cases k)
    ·obtain⟨c',e'⟩:=Cy.mp (cS (cells:=X.env.cells) (acc:=[]) (.inl (bc hfr)));have e2:=CS.look I.ok e';have e3:X.env.cells.lookup x=some c:=e;rw[e3] at e2;cases e2;obtain⟨o,ho,hd⟩:=z;have nfp:c∉fp:=fun q=>(hf c q).2.2.2.2.1 x c e rfl;obtain⟨sl,hg⟩:=I'.base.any ho (I.FX x c e) nfp;exact .inr ⟨de hfr,c,e',⟨_,hg,hd⟩⟩
 ·show(List.replicate ts.length none++bJ js σ).length=(ts++cap).length;have:=congrArg List.length CS.Kg;simp only[AI] at this;rw[AK,AK,Cz,bJ,AI,this]
structure Je(X:Cx)(tg:Expr)(J:It)(fp:List Addr)(it:Addr)(tn:Nat->Heap->Prop):Prop where
 item:∀(i:Nat)(pins:List (Addr×Obj))(s:Shared)(σ:St)(H:Hp)(E:Value->Shared->Prop),Inv X pins σ H s->(∀b∈fp,FY X pins H b)->tn i s.heap->J.go i H ->
  (wq X) (pyNext (.ref it)) (fun r s1=>∃u,r=some u /\
   (wq X) (letOwnedTupleGo tg (.ref it) u) (fun _ s2=>∃x H',Inv X pins σ H' s2/\RelV x u/\J.yld i H x H'/\tn (i+1) s2.heap/\∀b∈fp,H' b=none) E s1) E s
 done:∀(i:Nat)(pins:List (Addr×Obj))(s:Shared)(σ:St)(H:Hp)(E:Value->Shared->Prop),Inv X pins σ H s->(∀b∈fp,FY X pins H b)->tn i s.heap->J.stop i H ->
  (wq X) (pyNext (.ref it)) (fun r s1=>r=none/\Inv X pins σ H s1) E s
structure TurnOk(P:Program)(w:World)(fp:List Addr)(it:Addr)(tn:Nat->Heap->Prop):Prop where
 obj:∀i h,tn i h->∀b∈fp,∃o,h.get? b=some o/\∀v,o.data≠.cell v
 keep:∀i h h',tn i h->(∀b∈fp,∀o,h.get? b=some o->h'.get? b=some o)->tn i h'
 self:∀(A:Around)(i:Nat)(s:Shared)(Q:Value->Shared->Prop)(E:Value->Shared->Prop),tn i s.heap->Q (.ref it) s->wpAny (model P w) A (pyIter (.ref it)) Q E s
theorem ke{tg elt iter:Expr}{ifs:List Expr}{pos:Pos}{g:TG}{tc:TT}{te:TE}{J:It}{it:Addr}{tn:Nat->Heap->Prop}{W:Nat->Nat->List V->Hp->Prop}{m0:Nat}{E:Value->Shared->Prop}
  {RR:Value->Addr->Result->Shared->Prop}{Fin:List V->Hp->Prop}
  (I:Inv X pins σ H s)(T:TurnOk X.prog X.w fp it tn)(TA:∀C,Je (au X scope C fp (ts++cap) s H) tg J fp it tn)(st:tn 0 s.heap)(hf:∀b∈fp,FY X pins H b)(CS:Fu X scope ts cap js)
  (hg:∀C fp s H,PG (au X scope C fp (ts++cap) s H) tg g)(ht:∀C fp s H,PTs (au X scope C fp (ts++cap) s H) ifs tc)(he:∀C fp s H,PE (au X scope C fp (ts++cap) s H) elt te)
  (w0:W 0 m0 [] H)
  (turn:∀i m ys H,W i m ys H->(J.stop i H/\ys.length<=sizeLine/\Fin ys H)\/(J.go i H/\ys.length < sizeLine/\∀x H',J.yld i H x H'->g x (List.replicate ts.length none++bJ js σ) H' fun σ2 H2=>tc σ2 H2 fun b H3 =>
   if b=true then te σ2 H3 fun y H4=>∃m',m' < m/\W (i+1) m' (ys++[y]) H4 else ∃m',m' < m/\W (i+1) m' ys H3))
  (hRR:∀D C s' H' ys m,Inv X pins σ (upd H' D (.lst ys)) s'->s'.heap.Ns C m->s.heap.objs.size<=C->s.heap.objs.size<=D->C≠D->H' C=none->H' D=none->Fin ys H'->RR (.ref D) C (.ok .next) s') :
  (wq X) (newList []) (fun acc s₃=>(wq X) (newFunctionEnv scope X.env.globals (cU X.env.cells scope.names []) [] X.env.qual none .none (some X.env)) (fun cenv s₄ =>
   codeAny (model X.prog X.w) X.A (.compStart (.ListComp elt [⟨tg,iter,ifs,0⟩] scope pos) 0 (.ref it) acc { cenv with scope:=relabel scope X.env }) (RR acc cenv.locals) s₄) E s₃) E s:=by
 refine wpAny_newObj_type (wpAny_newFunctionEnv CS.Gu (by intro y hy;simp at hy) (fun h₁ hns₁ hsb₁=>?_) CS.kind);dsimp only at hns₁ hsb₁ ⊢;generalize hH2:s.heap.push {cls:=.type "list",dict:=none,data:=.seq ([]:List Value).toArray}=H2 at hns₁ hsb₁ ⊢;have hCs:H2.objs.size=s.heap.objs.size+1:=by rw[<- hH2,Fj]
 have hDC:s.heap.objs.size≠H2.objs.size:=by rw[hCs];exact AR (BY _)
 have hCle:s.heap.objs.size<=H2.objs.size:=by rw[hCs];exact BL _
 have below:∀b,b<s.heap.objs.size->b≠H2.objs.size:=fun b hb=>by rw[hCs];exact AR (BS hb)
 have old:∀b o,s.heap.get? b=some o->h₁.get? b=some o:=fun b o e=>hsb₁.extBut b o (below b (EL e)) (Fb _ (hH2▸Fb _ e));have hacc:h₁.get? s.heap.objs.size=some (cD [] 0):=hsb₁.extBut _ _ hDC (Fb _ (hH2▸Fc _ rfl));have hfl:∀b∈fp,b<s.heap.objs.size:=fun b hb=>by obtain⟨o,e,_⟩:=T.obj _ _ st b hb;exact EL e
 have st₁:tn 0 h₁:=T.keep _ _ _ st fun b _ o e=>old b o e;have hDstk:s.heap.objs.size∉frs X.stack:=fun z=>by
  obtain⟨_,o,ho,_⟩:=I.stack.mem z;exact absurd (EL ho) (Bl _)
 have I0:Inv (au X scope H2.objs.size fp (ts++cap) s H) [(s.heap.objs.size,cD [] 0)] (List.replicate ts.length none++bJ js σ) H {s with heap:=h₁,toks:=s.toks+([]:List (Str×Value)).length}:=
  gn I CS hf hfl hCle old hns₁ rfl I.bare fun p hp=>by
   have e:p=(s.heap.objs.size,cD [] 0):=by simpa using hp
   subst e;exact⟨hacc,I.hok.fresh (AH _),hDC,hDstk,fun v z=>by cases z⟩
 have stat:∀{H':Hp}{ys:List Value}{n:Nat},(∀b∈fp,H' b=none)->∀b∈fp,FY (au X scope H2.objs.size fp (ts++cap) s H) [(s.heap.objs.size,cD ys n)] H' b:=fun {H' ys n} hn b hb=>by
  obtain⟨f0,f1,f2,f3,f4,f5⟩:=hf b hb;refine⟨hn b hb,below b (hfl b hb),?_,.inl hb,fun x c e=>f4 x c (CS.look I.ok e),fun p hp=>?_⟩
  ·exact(gA I CS hf hfl hCle).JC b hb
  ·rcases AO.mp hp with z|z
   ·exact f5 p (Bo _ z)
   ·have e:p=(s.heap.objs.size,cD ys n):=by simpa using z
    subst e;intro q;have q':s.heap.objs.size=b:=q;exact absurd (hfl b hb) (by rw[<- q'];exact Bl _)
 have loop:∀s₃:Shared,s₃={s with heap:=h₁,toks:=s.toks+([]:List (Str×Value)).length} ->
   codeAny (model X.prog X.w) X.A (.compLoop (.ListComp elt [⟨tg,iter,ifs,0⟩] scope pos) 0 (.ref it) (.ref s.heap.objs.size) (compEnvC scope (cU X.env.cells scope.names []) H2.objs.size X.env))
    (RR (.ref s.heap.objs.size) H2.objs.size) s₃:=by
  rintro s₃ rfl;refine lY (fun k s'=>∃i H' ys its n,Inv (au X scope H2.objs.size fp (ts++cap) s H) [(s.heap.objs.size,cD its n)] (List.replicate ts.length none++bJ js σ) H' s'/\Vals ys its/\tn i s'.heap/\(∀b∈fp,H' b=none)/\W i k ys H') ?_ m0
   ⟨0,H,[],[],0,I0,.nil,st₁,fun b hb=>(hf b hb).1,w0⟩
  rintro k s3 ⟨i,H3,ys,its,n,I3,v3,st3,fr3,w3⟩;rcases turn i k ys H3 w3 with ⟨stop,hz,fin⟩|⟨go,hz,step⟩
  ·refine thn ((TA _).done i _ s3 _ H3 _ I3 (stat fr3) st3 stop) fun r s4 hq48=>?_;obtain⟨hr,I4⟩:=hq48;subst hr;obtain⟨m4,hn4,_⟩:=I4.loc;exact hRR _ _ s4 H3 ys m4 (iT I hf hCle (AH _) I4 v3 hz) hn4 hCle (AH _) (EZ hDC) I4.free (I4.pin (s.heap.objs.size,cD its n) (AV _ AS)).2.1 fin
  ·refine thn ((TA _).item i _ s3 _ H3 _ I3 (stat fr3) st3 go) fun r s4 hq49=>?_;obtain⟨u,hr,h4⟩:=hq49;subst hr;refine thn h4 fun _ s5 hq50=>?_;obtain⟨x,H5,I5,r5,y5,st5,fr5⟩:=hq50;have I5':=I5.pinned (stat fr5) (T.obj _ _ st5);refine thn (hg _ _ _ _ _ s5 _ H5 x u _ I5' r5 (step x H5 y5)) fun _ s6 hq51=>?_;obtain⟨σ6,H6,I6,q6⟩:=hq51;refine thn (ht _ _ _ _ _ s6 σ6 H6 _ I6 q6) fun ok s7 hq52=>?_;obtain⟨H7,I7,q7⟩:=hq52;have pinned:∀{σ':St}{H':Hp}{s':Shared},Inv (au X scope H2.objs.size fp (ts++cap) s H) ([(s.heap.objs.size,cD its n)]++cH fp s5.heap) σ' H' s'->tn (i+1) s'.heap/\∀b∈fp,H' b=none:=fun {σ' H' s'} J=>by
    refine⟨T.keep _ _ _ st5 fun b hb o e=>(J.pin (b,o) (AV _ (AV _ (aQ hb e)))).1,fun b hb=>?_⟩;obtain⟨o,e,d⟩:=T.obj _ _ st5 b hb;exact(J.pin (b,o) (AV _ (AV _ (aQ hb e)))).2.1
   cases ok with
   |false=>
    rw[EE Bm] at q7 ⊢;obtain⟨m',hm,w7⟩:=q7;obtain⟨st7,fr7⟩:=pinned I7;exact⟨m',hm,i+1,H7,ys,its,n,bM I CS hf I7.FC,v3,st7,fr7,w7⟩
   |true=>
    rw[EF rfl] at q7 ⊢;refine thn (he _ _ _ _ _ s7 σ6 H7 _ I7 q7) fun yv s8 hq53=>?_;obtain⟨y,H8,I8,r8,m',hm,w8⟩:=hq53;obtain⟨st8,fr8⟩:=pinned I8;have I8':=bM I CS hf I8.FC;obtain⟨hDg,hDn,hDC',hDs,hDd⟩:=I8'.pin (s.heap.objs.size,cD its n) (AV _ AS);have hl:=v3.length;refine append_at (hsz:=by rw[Bb];lia) hDg fun h9 hs9 hD9=>?_;have tracked:∀b o,b≠s.heap.objs.size->s8.heap.get? b=some o->h9.get? b=some o:=fun b o hb e=>hs9.extBut b o hb e;have I9:Inv (au X scope H2.objs.size fp (ts++cap) s H) [(s.heap.objs.size,cD (its++[yv]) (n+1))] (List.replicate ts.length none++bJ js σ) H8 {s8 with heap:=h9}:=by
     have J0:Inv (au X scope H2.objs.size fp (ts++cap) s H) [] (List.replicate ts.length none++bJ js σ) H8 s8:=I8'.Ge (fun p hp=>absurd hp (by simp))
     have J:Inv (au X scope H2.objs.size fp (ts++cap) s H) [] (List.replicate ts.length none++bJ js σ) H8 { s8 with heap:=h9,toks:=s8.toks }:=J0.turned (it:=s.heap.objs.size) tracked hDn hDC' (.inr (Heap.get?_none_of_le (AH _))) (fun x c e q=>by
      obtain⟨v,o,ho,_⟩:=I.cell x c (CS.look I.ok e);rw[q] at ho;exact absurd (EL ho) (Bl _)) (fun p hp q=>by
       rw[Bp] at hp;obtain⟨e,_⟩:=I.pin p (Bo _ hp);rw[q] at e
       exact absurd (EL e) (Bl _))
     refine J.Ge fun p hp=>?_;have e:p=(s.heap.objs.size,cD (its++[yv]) (n+1)):=by simpa using hp
     subst e;refine⟨?_,hDn,hDC',hDs,fun v z=>by cases z⟩;show h9.get? s.heap.objs.size=_;rw[hD9];simp[cD,List.push_toArray]
    have st9:tn (i+1) h9:=T.keep _ _ _ st8 fun b hb o e=>tracked b o (AR (hfl b hb)) e;exact⟨m',hm,i+1,H8,ys++[y],its++[yv],n+1,I9,v3.append (.cons r8 .nil),st9,fr8,w8⟩
 exact codeAny_compStart_list (loop _ rfl) (T.self _ _ _ _ _ st₁ (loop _ rfl))
theorem fF{tg elt iter:Expr}{ifs:List Expr}{pos:Pos}{g:TG}{tc:TT}{te:TE}{J:It}{it:Addr}{tn:Nat->Heap->Prop}{W:Nat->Nat->List V->Hp->Prop}{m0:Nat}{E:Value->Shared->Prop}
  {RR:Value->Addr->Result->Shared->Prop}{Fin:List V->Hp->Prop}
  (I:Inv X pins σ H s)(hc:X.calm=true)(T:Turn X.prog X.w X.K tg J fp it tn)(st:tn 0 s.heap)(hf:∀b∈fp,FY X pins H b)(CS:Fu X scope ts cap js)
  (hg:∀C fp s H,PG (au X scope C fp (ts++cap) s H) tg g)(ht:∀C fp s H,PTs (au X scope C fp (ts++cap) s H) ifs tc)(he:∀C fp s H,PE (au X scope C fp (ts++cap) s H) elt te)
  (w0:W 0 m0 [] H)
  (turn:∀i m ys H,W i m ys H->(J.stop i H/\ys.length<=sizeLine/\Fin ys H)\/(J.go i H/\ys.length < sizeLine/\∀x H',J.yld i H x H'->g x (List.replicate ts.length none++bJ js σ) H' fun σ2 H2=>tc σ2 H2 fun b H3 =>
   if b=true then te σ2 H3 fun y H4=>∃m',m' < m/\W (i+1) m' (ys++[y]) H4 else ∃m',m' < m/\W (i+1) m' ys H3))
  (hRR:∀D C s' H' ys m,Inv X pins σ (upd H' D (.lst ys)) s'->s'.heap.Ns C m->s.heap.objs.size<=C->s.heap.objs.size<=D->C≠D->H' C=none->H' D=none->Fin ys H'->RR (.ref D) C (.ok .next) s') :
  (wq X) (newList []) (fun acc s₃=>(wq X) (newFunctionEnv scope X.env.globals (cU X.env.cells scope.names []) [] X.env.qual none .none (some X.env)) (fun cenv s₄ =>
   codeAny (model X.prog X.w) X.A (.compStart (.ListComp elt [⟨tg,iter,ifs,0⟩] scope pos) 0 (.ref it) acc { cenv with scope:=relabel scope X.env }) (RR acc cenv.locals) s₄) E s₃) E s :=
 ke I ⟨T.obj,T.keep,T.self⟩ (fun C=>⟨T.item (au X scope C fp (ts++cap) s H) rfl rfl rfl hc,T.done (au X scope C fp (ts++cap) s H) rfl rfl rfl hc⟩) st hf CS hg ht he w0 turn hRR
end
section
variable {X:Cx}{scope:Scope}{ts cap:List Str}{js:List Nat}{tg elt iter:Expr}{ifs:List Expr}{pos:Pos}{wi:TI}{g:TG}{tc:TT}{te:TE}
theorem dI{pins:List (Addr×Obj)}{σ:St}{H:Hp}{s:Shared}{C:Addr}{h':Heap}{n0:Nat}(I:Inv X pins σ H s)(hC0:X.s₀.heap.get? C=none)(hCL:X.env.locals≠C)(hcell:∀x c,X.env.cells.lookup x=some c->c≠C)(hpin:∀p∈X.pn++pins,p.1≠C)(hn:H C=none)(hs:Heap.SameBut C s.heap h'):Inv X pins σ H {s with heap:=h'}:=
 I.turned (t':=s.toks) (fun b o hb e=>hs.extBut b o hb e) hn (EZ hCL) (.inr hC0) hcell hpin
theorem aW(hc:X.calm=true)(CS:Fu X scope ts cap js)(hi:PI X tg iter wi)(hg:∀C fp s H,PG (au X scope C fp (ts++cap) s H) tg g)
  (ht:∀C fp s H,PTs (au X scope C fp (ts++cap) s H) ifs tc)(he:∀C fp s H,PE (au X scope C fp (ts++cap) s H) elt te)
  (hs:∀x,foldedSetIterable iter X.env x=pure x:=by intro _;rfl):PE X (.ListComp elt [⟨tg,iter,ifs,0⟩] scope pos) (xa wi ts.length js g tc te):=by
 intro pins s σ H Q I h;rw[eval_ListComp];refine wpAny_comprehension_free (use:=none) rfl hs (bu (CS.cells I.ok)) CS.kind CS.names (thn (hi pins s σ H _ I h) fun v s1 h1=>thn h1 fun itv s2 h2=>?_);obtain⟨it,fp,tn,J,H2,e,I2,T,st2,f2,W,⟨m0,w0⟩,turn⟩:=h2;subst e;refine fF (RR:=fun acc C=>compPost (model X.prog X.w) X.A X.xe none (EP X pins σ Q) acc C) I2 hc T st2 f2 CS hg ht he w0 turn ?_;intro D C s' H' ys m I' hn hC hD hCD hHC hHD fin;have szL:=I2.lt;have low:∀b o,s2.heap.get? b=some o->b≠C:=fun b o e=>AR (Be (EL e) hC);refine⟨m,hn,fun h' hs'=>⟨.ref D,_,dI (n0:=0) I' (Heap.get?_none_of_le (AX I2.sz hC)) (AR (Be szL hC)) (fun x c e=>?_) (fun p hp=>?_) (by rw[ai hCD];exact hHC) hs',rfl,fin D hHD⟩⟩
 ·obtain⟨v,o,ho,_⟩:=I2.cell x c e;exact low c o ho
 ·exact low _ _ (I2.pin p hp).1
def vR (te:TE)(i:Nat):TS:=fun D σ H=>te σ H fun x H1=>D.nx (σ.set i (some x)) H1
theorem cG{i:Nat}{y:Str}{py spos:Pos}(hc:X.calm=true)(CS:Fu X scope ts cap js)(hi:PI X tg iter wi)(hg:∀C fp s H,PG (au X scope C fp (ts++cap) s H) tg g)
  (ht:∀C fp s H,PTs (au X scope C fp (ts++cap) s H) ifs tc)(he:∀C fp s H,PE (au X scope C fp (ts++cap) s H) elt te)
  (hN:X.N.Nodup)(hy:X.N[i]?=some y)(hx:Loc X.env.scope y)(hsw:swapsWith (.ListComp elt [⟨tg,iter,ifs,0⟩] scope pos) (some (.Name y py)) spos.line X.env=pure true)
  (hs:∀x,foldedSetIterable iter X.env x=pure x:=by intro _;rfl)(hf:X.fn y=true\/X.env.scope.names.lookup y=some .local:=by first|exact .inl rfl|exact .inr rfl|assumption) :
  PS X (.Assign [.Name y py] (.ListComp elt [⟨tg,iter,ifs,0⟩] scope pos) spos) (vR (xa wi ts.length js g tc te) i):=by
 intro pins s σ H D I h;rw[exec_Assign_Name_used _ _ _ _ hsw];refine EA (wpAny_standAt (EA ?_));show wpAny _ X.A (do let _ <- comprehension (.ListComp elt [⟨tg,iter,ifs,0⟩] scope pos) scope X.env _ (newList []) false (eval iter X.env) (some (assign (.Name y py) X.env))) _ _ s
 refine EA (EI (wpAny_comprehension_free (use:=some (assign (.Name y py) X.env)) (Q:=fun _ s'=>SP X pins D .next s') rfl hs (bu (CS.cells I.ok)) CS.kind CS.names
  (thn (hi pins s σ H _ I h) fun v s1 h1=>thn h1 fun itv s2 h2=>?_)) (fun _ s' hq=>EB (EB hq)) fun _ _ e=>e)
 obtain⟨it,fp,tn,J,H2,e,I2,T,st2,f2,W,⟨m0,w0⟩,turn⟩:=h2;subst e;refine fF (RR:=fun acc C=>compPost (model X.prog X.w) X.A X.xe (some (assign (.Name y py) X.env)) (fun _ s'=>SP X pins D .next s') acc C) I2 hc T st2 f2 CS hg ht he w0 turn ?_;intro D' C s' H' ys m I' hn hC hD hCD hHC hHD fin;have szL:=I2.lt;have low:∀b o,s2.heap.get? b=some o->b≠C:=fun b o e=>AR (Be (EL e) hC);have hCL:X.env.locals≠C:=AR (Be szL hC);have hcell:∀x c,X.env.cells.lookup x=some c->c≠C:=fun x c e=>by
  obtain⟨v,o,ho,_⟩:=I2.cell x c e;exact low c o ho
 show wpAny _ X.A (assign (.Name y py) X.env (.ref D')) _ _ _;refine wpAny_assign_Name (fB (v:=.ref D') I' hN hy hx rfl (fun s'' I'' hch=>?_) hf);obtain⟨a,hsb,ha⟩:=hch;have hCa:C≠a:=by
  rcases ha with z|z
  ·rw[z];exact EZ hCL
  ·exact EZ (hcell _ _ z)
 refine⟨m,hn.sameBut hsb hCa,fun h' hs'=>⟨_,_,dI (n0:=0) I'' (Heap.get?_none_of_le (AX I2.sz hC)) hCL hcell (fun p hp=>low _ _ (I2.pin p hp).1) (by rw[ai hCD];exact hHC) hs',fin D' hHD⟩⟩
end
section
variable {κ:Type} [DecidableEq κ]
def cb (kvs:List (κ×V))(k:κ):Option V:=(kvs.find? fun kv=>decide (kv.1=k)).map (·.2)
def cY (kvs:List (κ×V))(k:κ)(v:V):List (κ×V):=
 if (kvs.any fun kv=>decide (kv.1=k))=true then kvs.map (fun kv=>if kv.1=k then (kv.1,v) else kv) else kvs++[(k,v)]
def bo (kvs:List (κ×V))(k:κ):List (κ×V):=kvs.filter fun kv=>decide (kv.1≠k)
theorem bH{p:κ×V}{r:List (κ×V)}{k:κ}(e:p.1=k):cb (p::r) k=some p.2:=by simp[cb,BB,e]
theorem bE{p:κ×V}{r:List (κ×V)}{k:κ}(e:¬p.1=k):cb (p::r) k=cb r k:=by simp[cb,BB,e]
theorem eQ(k:κ):∀kvs:List (κ×V),(kvs.any fun kv=>decide (kv.1=k))=(cb kvs k).isSome
 |[]=>rfl
 |p::r=>by
  rw[Cq];by_cases e:p.1=k
  ·simp only[bH e,EG e,Bool.true_or,Option.isSome_some]
  ·rw[bE e,EH e,Bool.false_or];exact eQ k r
theorem cj(kvs:List (κ×V))(k:κ)(v:V):(cY kvs k v).length<=kvs.length+1:=by
 unfold cY;split
 ·rw[AI];lia
 ·rw[AK,Bj,Cd];lia
theorem HK.Gr{o:Option V}{u:Option Value}(r:HK o u):o.isSome=u.isSome:=by
 cases o with
 |none=>cases u with
  |none=>rfl
  |some _=>exact(show False from r).elim
 |some _=>cases u with
  |none=>exact(show False from r).elim
  |some _=>rfl
theorem HK.getD{o:Option V}{u:Option Value}{d:V}{d':Value}(r:HK o u)(rd:RelV d d'):RelV (o.getD d) (u.getD d'):=by
 cases o with
 |none=>cases u with
  |none=>exact rd
  |some _=>exact(show False from r).elim
 |some _=>cases u with
  |none=>exact(show False from r).elim
  |some _=>exact r
theorem KV.val{kvs:List (κ×V)}{vs:List (κ×Value)}(r:KV kvs vs)(k:κ):HK (cb kvs k) (valueAt vs k):=by
 unfold KV at r;induction r with
 |nil=>exact True.intro
 |@cons p q ps qs h t ih=>
  obtain⟨h1,h2⟩:=h;by_cases e:p.1=k
  ·have e':q.1=k:=h1.symm.trans e;have b:valueAt (q::qs) k=some q.2:=by simp[valueAt,BB,e']
   rw[bH e,b];exact h2
  ·have e':¬q.1=k:=fun z=>e (h1.trans z);have b:valueAt (q::qs) k=valueAt qs k:=by simp[valueAt,BB,e']
   rw[bE e,b];exact ih
theorem KV.any{kvs:List (κ×V)}{vs:List (κ×Value)}(r:KV kvs vs)(k:κ):(kvs.any fun kv=>decide (kv.1=k))=vs.any fun kv=>decide (kv.1=k):=by
 unfold KV at r;induction r with
 |nil=>rfl
 |cons h t ih=>rw[Cq,Cq,ih,h.1]
theorem KV.Kr{kvs:List (κ×V)}{vs:List (κ×Value)}(r:KV kvs vs)(k:κ){y:V}{u:Value}(ry:RelV y u) :
  KV (kvs.map fun kv=>if kv.1=k then (kv.1,y) else kv) (vs.map fun kv=>if kv.1=k then (kv.1,u) else kv):=by
 unfold KV at r ⊢;induction r with
 |nil=>exact .nil
 |@cons p q ps qs h t ih=>
  rw[AQ,AQ];refine .cons ?_ ih;obtain⟨h1,h2⟩:=h;by_cases e:p.1=k
  ·rw[EF e,EF (h1.symm.trans e)];exact⟨h1,ry⟩
  ·rw[EE e,EE (fun z=>e (h1.trans z))];exact⟨h1,h2⟩
theorem KV.put{kvs:List (κ×V)}{vs:List (κ×Value)}(r:KV kvs vs)(k:κ){y:V}{u:Value}(ry:RelV y u):KV (cY kvs k y) (stored vs k u):=by
 unfold cY stored;rw[r.any k];by_cases e:(vs.any fun kv=>decide (kv.1=k))=true
 ·rw[EF e,EF e];exact r.Kr k ry
 ·rw[EE e,EE e];exact Paired.snoc r ⟨rfl,ry⟩
theorem KV.drop{kvs:List (κ×V)}{vs:List (κ×Value)}(r:KV kvs vs)(k:κ):KV (bo kvs k) (without vs k):=by
 unfold KV at r ⊢;unfold bo without;induction r with
 |nil=>exact .nil
 |@cons p q ps qs h t ih=>
  obtain⟨h1,h2⟩:=h;rw[Bs,Bs];by_cases e:p.1=k
  ·have a:¬decide (p.1≠k)=true:=by simp[e]
   have b:¬decide (q.1≠k)=true:=by simp[h1.symm.trans e]
   rw[EE a,EE b];exact ih
  ·have e':¬q.1=k:=fun z=>e (h1.trans z);have a:decide (p.1≠k)=true:=by simp[e]
   have b:decide (q.1≠k)=true:=by simp[e']
   rw[EF a,EF b];exact .cons ⟨h1,h2⟩ ih
theorem KV.length{kvs:List (κ×V)}{vs:List (κ×Value)}(r:KV kvs vs):kvs.length=vs.length:=Paired.length r
theorem kI(kvs:List (κ×V))(k:κ):(bo kvs k).length<=kvs.length:=Ce _ _
end
theorem jC{P:Program}{w:World}{k:Key}{u:Value}(r:RelV (kV k) u):(aF P w).is k u=true:=by
 cases k with
 |inl i=>obtain⟨t,e⟩:=(show ∃t,u=Value.int i t from r);subst e;exact jt P w i t
 |inr x=>obtain⟨t,e⟩:=(show ∃t,u=Value.str x t from r);subst e;exact jE P w x t
theorem iU{P:Program}{w:World}:∀{ks:List Key}{us:List Value},Vals (ks.map kV) us->ItemsAre (aF P w) ks us
 |[],_,r=>by rw[Cb] at r;cases r;exact .nil
 |k::ks,_,r=>by
  rw[AQ] at r;cases r with
  |cons h t=>exact .cons (jC h) (iU t)
abbrev KT(H:Hp):List (List Key×V)->List (List Key×Addr×Value)->Prop:=Paired fun p q=>p.1=q.1/\H q.2.1=some (.tup (p.1.map kV))/\RelV p.2 q.2.2
theorem KT.val{H:Hp}{kvs:List (List Key×V)}{xs:List (List Key×Addr×Value)}(r:KT H kvs xs)(k:List Key):HK (cb kvs k) ((atKey xs k).map (·.2)):=by
 induction r with
 |nil=>exact True.intro
 |@cons p q ps qs h t ih=>
  obtain⟨h1,_,h2⟩:=h;by_cases e:p.1=k
  ·have e':q.1=k:=h1.symm.trans e;have b:atKey (q::qs) k=some q.2:=by simp[atKey,BB,e']
   rw[bH e,b];exact h2
  ·have e':¬q.1=k:=fun z=>e (h1.trans z);have b:atKey (q::qs) k=atKey qs k:=by simp[atKey,BB,e']
   rw[bE e,b];exact ih
theorem KT.Kr{H:Hp}{kvs:List (List Key×V)}{xs:List (List Key×Addr×Value)}(r:KT H kvs xs)(k:List Key){y:V}{u:Value}(ry:RelV y u) :
  KT H (kvs.map fun kv=>if kv.1=k then (kv.1,y) else kv) (xs.map (putAt k u)):=by
 induction r with
 |nil=>exact .nil
 |@cons p q ps qs h t ih=>
  rw[AQ,AQ];refine .cons ?_ ih;obtain⟨h1,h2,h3⟩:=h;unfold putAt;by_cases e:p.1=k
  ·rw[EF e,EF (h1.symm.trans e)];exact⟨h1,h2,ry⟩
  ·rw[EE e,EE (fun z=>e (h1.trans z))];exact⟨h1,h2,h3⟩
theorem KT.put{H:Hp}{kvs:List (List Key×V)}{xs:List (List Key×Addr×Value)}(r:KT H kvs xs)(k:List Key){b:Addr}{y:V}{u:Value}(hb:H b=some (.tup (k.map kV)))(ry:RelV y u) :
  KT H (cY kvs k y) (storedH xs k b u):=by
 have e:(kvs.any fun kv=>decide (kv.1=k))=(atKey xs k).isSome:=by
  rw[eQ,(r.val k).Gr,DR]
 unfold cY storedH;rw[e];by_cases q:(atKey xs k).isSome=true
 ·rw[EF q,EF q];exact r.Kr k ry
 ·rw[EE q,EE q];exact Paired.snoc r ⟨rfl,hb,ry⟩
theorem KT.keeps{H H':Hp}{kvs:List (List Key×V)}{xs:List (List Key×Addr×Value)}(r:KT H kvs xs)(ht:∀b ys,H b=some (.tup ys)->H' b=some (.tup ys)):KT H' kvs xs:=
 Paired.GQ r fun _ _ z=>⟨z.1,ht _ _ z.2.1,z.2.2⟩
section
variable {P:Program}{w:World}{H:Hp}{h:Heap}{a:Addr}
theorem qC{u:HO}(ok:HOk P w H h)(e:Rd H a u):Fz P w H h a u:=e.ok ok
theorem mF{kvs:List (Key×V)}(ok:HOk P w H h)(e:Rd H a (.dK kvs)):kvs.length<=sizeLine/\(a==sysModules)=false/\∃vs,KV kvs vs/\h.DictOf (aF P w) a vs:=
 show Fz P w H h a (.dK kvs) from qC ok e
theorem uq{kvs:List (Key×V)}(ok:HOk P w H h)(e:H a=some (.dK kvs)):kvs.length<=sizeLine/\(a==sysModules)=false/\∃vs,KV kvs vs/\h.DictOf (aF P w) a vs:=mF ok (.inl e)
theorem ff{ks:List Key}(ok:HOk P w H h)(e:H a=some (.tup (ks.map kV))):(tupleKind (aF P w)).is h ks a:=by
 obtain⟨_,its,r,o,h1,h2,n,h3⟩:=(show Fz P w H h a (.tup (ks.map kV)) from ok a _ e)
 exact⟨o,its.toArray,n,h1,h2,h3,by simpa using iU r⟩
theorem lM{kvs:List (List Key×V)}(ok:HOk P w H h)(e:Rd H a (.dT kvs)):kvs.length<=sizeLine/\(a==sysModules)=false /\
  ∃xs,KT H kvs xs/\h.DictOfH (tupleKind (aF P w)) a xs:=by
 obtain⟨z,y,xs,r,o,es,ep,h1,h2,h3,h4,h5⟩:=(show Fz P w H h a (.dT kvs) from qC ok e)
 refine⟨z,y,xs,r,o,es,ep,h1,h2,h3,h4,fun x hx=>?_,h5⟩;have all:∀{l:List (List Key×V)}{m:List (List Key×Addr×Value)},KT H l m->∀x∈m,(tupleKind (aF P w)).is h x.1 x.2.1:=by
  intro l m q;induction q with
  |nil=>intro x hx;exact nomatch hx
  |@cons p q ps qs hq t ih=>
   intro x hx;rcases AN.mp hx with e|hx
   ·subst e;exact ff ok (by rw[<- hq.1];exact hq.2.1)
   ·exact ih x hx
 exact all r x hx
theorem vF{kvs:List (List Key×V)}(ok:HOk P w H h)(e:H a=some (.dT kvs)):kvs.length<=sizeLine/\(a==sysModules)=false /\
  ∃xs,KT H kvs xs/\h.DictOfH (tupleKind (aF P w)) a xs:=lM ok (.inl e)
end
def Ht (H:Hp)(a:Addr)(y:V)(r:Option V):Prop:=
 (∃kvs k,Rd H a (.dK kvs)/\y=kV k/\r=cb kvs k)\/∃kvs k b,Rd H a (.dT kvs)/\y=.ref b/\H b=some (.tup (k.map kV))/\r=cb kvs k
def IS (H:Hp)(a:Addr)(y v:V)(H':Hp):Prop:=
 (∃kvs k,H a=some (.dK kvs)/\y=kV k/\kvs.length<sizeLine/\H'=upd H a (.dK (cY kvs k v))) \/
 ∃kvs k b,H a=some (.dT kvs)/\y=.ref b/\H b=some (.tup (k.map kV))/\kvs.length<sizeLine/\H'=upd H a (.dT (cY kvs k v))
theorem Ht.k{H:Hp}{a:Addr}{kvs:List (Key×V)}{k:Key}(e:H a=some (.dK kvs)):Ht H a (kV k) (cb kvs k):=.inl ⟨kvs,k,.inl e,rfl,rfl⟩
theorem Ht.t{H:Hp}{a b:Addr}{kvs:List (List Key×V)}{k:List Key}(e:H a=some (.dT kvs))(eb:H b=some (.tup (k.map kV))):Ht H a (.ref b) (cb kvs k):=.inr ⟨kvs,k,b,.inl e,rfl,eb,rfl⟩
theorem IS.k{H:Hp}{a:Addr}{kvs:List (Key×V)}{k:Key}{v:V}(e:H a=some (.dK kvs))(hl:kvs.length<sizeLine):IS H a (kV k) v (upd H a (.dK (cY kvs k v))):=.inl ⟨kvs,k,e,rfl,hl,rfl⟩
theorem IS.t{H:Hp}{a b:Addr}{kvs:List (List Key×V)}{k:List Key}{v:V}(e:H a=some (.dT kvs))(eb:H b=some (.tup (k.map kV)))(hl:kvs.length<sizeLine) :
  IS H a (.ref b) v (upd H a (.dT (cY kvs k v))):=.inr ⟨kvs,k,b,e,rfl,eb,hl,rfl⟩
section
variable {X:Cx}{pins:List (Addr×Obj)}{σ:St}{H:Hp}{s:Shared}{a:Addr}{y v:V}{u r:Value}{o:Option V}{A:Around}{E:Value->Shared->Prop}
theorem Inv.big(I:Inv X pins σ H s):sysModules<s.heap.objs.size:=by
 have h:mainGlobals<s.heap.objs.size:=(I.mod.glob.keeps I.bk).lt;exact CN (by decide) h
theorem pQ{Q:Value->Shared->Prop}(hu:A.units+1<cLine)(I:Inv X pins σ H s)(g:Ht H a y (some v))(ry:RelV y u)(h:∀w' s',Inv X pins σ H s'->RelV v w'->Q w' s') :
  wpAny (model X.prog X.w) A (getItem (.ref a) u) Q E s:=by
 rcases g with ⟨kvs,k,e,ey,l⟩|⟨kvs,k,b,e,ey,eb,l⟩
 ·subst ey;obtain⟨z,hd,vs,rel,dd⟩:=mF I.hok e;obtain⟨w',hw,rw'⟩:=HK.some_of (v:=v) (o:=valueAt vs k) (by rw[l];exact rel.val k);exact wpAny_getItem_of (jC ry) dd.mapOf hw (h w' _ (I.tok _) rw')
 ·subst ey;cases (show u=Value.ref b from ry);obtain⟨z,hd,xs,rel,dd⟩:=lM I.hok e;obtain⟨w',hw,rw'⟩:=HK.some_of (v:=v) (o:=(atKey xs k).map (·.2)) (by rw[l];exact rel.val k);obtain⟨p,hp,hp2⟩:=BH.mp hw;refine wpAny_getItem_heap (tupleKind_room_in1 hu) (ff I.hok eb) dd hp ?_;rw[hp2];exact h w' _ (I.tok _) rw'
theorem uy{Q:Value->Shared->Prop}(hu:A.units+1<cLine)(I:Inv X pins σ H s)(g:Ht H a y o)(ry:RelV y u)(h:∀s',Inv X pins σ H s'->Q (.bool (!o.isSome)) s') :
  wpAny (model X.prog X.w) A (compareOp .NotIn u (.ref a)) Q E s:=by
 rcases g with ⟨kvs,k,e,ey,l⟩|⟨kvs,k,b,e,ey,eb,l⟩
 ·subst ey;obtain⟨z,hd,vs,rel,dd⟩:=mF I.hok e;refine wpAny_notIn_of (jC ry) hd dd.mapOf ?_;rw[<- (rel.val k).Gr,<- l];exact h _ (I.tok _)
 ·subst ey;cases (show u=Value.ref b from ry);obtain⟨z,hd,xs,rel,dd⟩:=lM I.hok e;refine wpAny_notIn_heap (tupleKind_room_in1 hu) (ff I.hok eb) hd dd ?_;have q:=(rel.val k).Gr;rw[DR] at q;rw[<- q,<- l];exact h _ (I.tok _)
theorem cu{h':Heap}{t':Nat}{ob:HO}(I:Inv X pins σ H s)(mu:Mut (H a))(hs:Heap.SameBut a s.heap h')(he:∃q,h'.get? a=some q)(new:Fz X.prog X.w (upd H a ob) h' a ob) :
  Inv X pins σ (upd H a ob) {s with heap:=h',toks:=t'}:=
 I.write (x:=a) (e:=a) mu (.inl rfl) (fun b q hb z=>(hs.2 b hb).trans z) he new
theorem pY{P:Program}{w:World}{H':Hp}{h':Heap}{kvs:List (Key×V)}{vs:List (Key×Value)}(z:kvs.length<=sizeLine)(hd:(a==sysModules)=false)(rel:KV kvs vs)(dd:h'.DictOf (aF P w) a vs) :
  Fz P w H' h' a (.dK kvs):=⟨z,hd,vs,rel,dd⟩
theorem pV{H':Hp}{Q:Unit->Shared->Prop}(hu:A.units+1<cLine)(I:Inv X pins σ H s)(g:IS H a y v H')(ry:RelV y u)(rv:RelV v r)(h:∀s',Inv X pins σ H' s'->Q () s') :
  wpAny (model X.prog X.w) A (setItem (.ref a) u r) Q E s:=by
 rcases g with ⟨kvs,k,e,ey,l,eH⟩|⟨kvs,k,b,e,ey,eb,l,eH⟩
 ·subst ey eH;obtain⟨z,hd,vs,rel,dd⟩:=uq I.hok e;have hz:vs.length<=sizeLine:=by rw[<- rel.length];exact z
  have hl:(cY kvs k v).length<=sizeLine:=by have:=cj kvs k v;lia
  refine wpAny_setItem_pairs (hsz:=hz) (jC ry) dd fun h' dd' hs=>h _ ?_;have he:∃q,h'.get? a=some q:=let ⟨q,_,_,hq,_⟩:=dd';⟨q,hq⟩;exact cu I (by rw[e];exact True.intro) hs he (pY hl hd (rel.put k rv) dd')
 ·subst ey eH;cases (show u=Value.ref b from ry);obtain⟨z,hd,xs,rel,dd⟩:=vF I.hok e;have hz:xs.length<=sizeLine:=by rw[<- Paired.length rel];exact z
  have hl:(cY kvs k v).length<=sizeLine:=by have:=cj kvs k v;lia
  refine wpAny_setItem_heap (hsz:=hz) (tupleKind_room_in1 hu) (ff I.hok eb) dd fun h' dd' hs=>h _ ?_;obtain⟨q,es,ep,hq,h2,h3,h4,_,h5⟩:=dd';refine cu I (by rw[e];exact True.intro) hs ⟨q,hq⟩ ⟨hl,hd,_,(rel.put k eb rv).keeps fun c ys ec=>?_,q,es,ep,hq,h2,h3,h4,h5⟩;rw[ai (bD ec e (fun z=>nomatch z))];exact ec
end
section
variable {X:Cx}{pins:List (Addr×Obj)}{σ:St}{H:Hp}{s:Shared}{a:Addr}{kvs:List (Key×V)}{k:Key}{u:Value}{A:Around}{E:Value->Shared->Prop}
theorem ya{v:V}{more:List Value}{Q:Value->Shared->Prop}(I:Inv X pins σ H s)(e:H a=some (.dK kvs))(ry:RelV (kV k) u)(l:cb kvs k=some v)(hm:more=[]\/∃x,more=[x])
  (h:∀w' s',Inv X pins σ (upd H a (.dK (bo kvs k))) s'->RelV v w'->Q w' s'):wpAny (model X.prog X.w) A (call (.builtin "dict.pop") (.ref a::u::more)) Q E s:=by
 obtain⟨z,hd,vs,rel,dd⟩:=uq I.hok e;obtain⟨w',hw,rw'⟩:=HK.some_of (v:=v) (o:=valueAt vs k) (by rw[<- l];exact rel.val k);have hp:(keyPart u).isSome=true:=by
  cases k with
  |inl i=>obtain⟨t,q⟩:=(show ∃t,u=Value.int i t from ry);subst q;rfl
  |inr x=>obtain⟨t,q⟩:=(show ∃t,u=Value.str x t from ry);subst q;rfl
 have ha:argsOk "dict.pop" ⟨.ref a::u::more,[]⟩:=by
  rcases hm with q|⟨x,q⟩
  ·subst q;exact PySem.F.args_dict_pop_2 _ _
  ·subst q;exact PySem.F.args_dict_pop_3 _ _ _
 refine call_meetsIn PySem.F.slot_dict_pop dd.typeIs PySem.F.entry_dict_pop ha (meets_dict_pop_there (aF X.prog X.w) a (jC ry) more hm hp)
  ⟨vs,w',dd,by rw[<- rel.length];exact z,hw,fun h' dd' hs=>h w' _ ?_ rw'⟩
 have he:∃q,h'.get? a=some q:=let ⟨q,_,_,hq,_⟩:=dd';⟨q,hq⟩;exact cu I (by rw[e];exact True.intro) hs he (pY (AX (kI kvs k) z) hd (rel.drop k) dd')
end
def xi (i:Expr):Prop:=∀ov iv,subscripted i false ov iv=operate [ov,iv] (getItem ov iv)
theorem pP{prog:Program}{w:World}{A:Around}{E:Value->Shared->Prop}{s:Shared}{env:Env}{value slice:Expr}{pos:Pos}{T id:String}{Q:Value->Shared->Prop}
  (hl:typeLookup (.type T) "__getitem__"=pure (some (.builtin id)))(hs:xi slice)
  (h:wpAny (model prog w) A (eval value env) (fun o s₁=>wpAny (model prog w) A (eval slice env) (fun i s₂=>s₂.TypeIs o T/\wpAny (model prog w) A (getItem o i) Q E s₂) E s₁) E s) :
  wpAny (model prog w) A (eval (.Subscript value slice pos) env) Q E s:=by
 refine Subscript_ (EI h (fun o s₁ h₁=>EI h₁ (fun i s₂ h₂=>?_) fun _ _ x=>x) fun _ _ x=>x);obtain⟨hT,h₂⟩:=h₂;unfold subscriptTail;refine EA ?_;rw[getitemInPython_of_ne hT.not_modules];refine EA (wpAny_specialOf hT hl ?_);have fin:wpAny (model prog w) A (subscripted slice false o i) (fun r s₃=>wpAny (model prog w) A (letTemporaryGo value o r >>= fun _=>pure r) Q E s₃) E s₂:=by
  rw[hs o i];exact wpAny_operating (EI h₂ (fun r s₃ h₃=>EA (wpAny_letTemporaryGo (EB h₃))) fun _ _ x=>x)
 first
  |exact EB (EA fin)
  |exact EA (EB (EA fin))
  |exact EA fin
theorem jm{X:Cx}{pins:List (Addr×Obj)}{σ:St}{H:Hp}{s:Shared}{a:Addr}{y:V}{o:Option V}(I:Inv X pins σ H s)(g:Ht H a y o):s.TypeIs (.ref a) "dict":=by
 rcases g with ⟨kvs,k,e,_,_⟩|⟨kvs,k,b,e,_,_,_⟩
 ·obtain⟨_,_,vs,_,dd⟩:=mF I.hok e;exact dd.typeIs
 ·obtain⟨_,_,xs,_,dd⟩:=lM I.hok e;exact dd.typeIs
def xF (td ty:TE):TE:=fun σ H Q=>td σ H fun x H1=>ty σ H1 fun y H2=>∃a v,x=.ref a/\Ht H2 a y (some v)/\Q v H2
def uJ (ty td:TE):TE:=fun σ H Q=>ty σ H fun y H1=>td σ H1 fun x H2=>∃a o,x=.ref a/\Ht H2 a y o/\Q (.bl (!o.isSome)) H2
def yu (td ty tv:TE):TS:=fun D σ H=>tv σ H fun v H1=>td σ H1 fun x H2=>ty σ H2 fun y H3=>∃a H4,x=.ref a/\IS H3 a y v H4/\D.nx σ H4
section
variable {X:Cx}{o i e value:Expr}{pos pos' tpos:Pos}{td ty tv:TE}
theorem jO(hu:X.A.units+1<cLine)(ho:PE X o td)(hi:PE X i ty)(hs:xi i):PE X (.Subscript o i pos) (xF td ty):=by
 intro pins s σ H Q I h;refine pP PySem.F.slot_dict_getitem.lookup hs (thn (ho pins s σ H _ I h) fun u s1 hq54=>?_);obtain⟨x,H1,I1,rx,q1⟩:=hq54;refine thn (hi pins s1 σ H1 _ I1 q1) fun iv s2 ⟨y,H2,I2,ry,a,v,ex,g,q2⟩=>?_;subst ex;obtain rfl:u=Value.ref a:=rx;exact⟨jm I2 g,pQ hu I2 g ry fun w' s3 I3 rw'=>⟨v,H2,I3,rw',q2⟩⟩
theorem ig(hu:X.A.units+1<cLine)(hi:PE X i ty)(ho:PE X o td):PC X .NotIn i o (uJ ty td):=by
 intro pins s σ H Q I h;refine thn (hi pins s σ H _ I h) fun iv s1 hq55=>?_;obtain⟨y,H1,I1,ry,q1⟩:=hq55;refine thn (ho pins s1 σ H1 _ I1 q1) fun u s2 ⟨x,H2,I2,rx,a,ov,ex,g,q2⟩=>?_;subst ex;obtain rfl:u=Value.ref a:=rx;exact uy hu I2 g ry fun s3 I3=>⟨.bl (!ov.isSome),H2,I3,rfl,q2⟩
theorem gm(hu:X.A.units+1<cLine)(ho:PE X o td)(hi:PE X i ty)(hv:PE X value tv)(hs:swapsWith value (some (.Subscript o i pos')) pos.line X.env=pure false) :
  PS X (.Assign [.Subscript o i pos'] value pos) (yu td ty tv):=by
 intro pins s σ H D I h;refine wpAny_Assign_Subscript (thn (hv pins s σ H _ I h) fun r s1 hq56=>?_) hs;obtain⟨v,H1,I1,rv,q1⟩:=hq56;refine thn (ho pins s1 σ H1 _ I1 q1) fun u s2 ⟨x,H2,I2,rx,q2⟩=>thn (hi pins s2 σ H2 _ I2 q2) fun iv s3 ⟨y,H3,I3,ry,a,H4,ex,g,q3⟩=>?_;subst ex;obtain rfl:u=Value.ref a:=rx;exact pV hu I3 g ry rv fun s4 I4=>⟨σ,H4,I4,q3⟩
end
theorem kQ{P:Program}{w:World}{H:Hp}(h:Heap)(hb:sysModules<h.objs.size):Fz P w H (h.push {cls:=.type "dict",data:=.dict #[]}) h.objs.size (.dK []):=
 ⟨Bi _,beq_eq_false_iff_ne.mpr (EZ (AR hb)),[],.nil,Heap.DictOf.new h⟩
theorem lg{P:Program}{w:World}{H:Hp}(h:Heap)(hb:sysModules<h.objs.size):Fz P w H (h.push {cls:=.type "dict",data:=.dict #[]}) h.objs.size (.dT []):=
 ⟨Bi _,beq_eq_false_iff_ne.mpr (EZ (AR hb)),[],.nil,_,#[],0,Fc _ rfl,⟨rfl,rfl,rfl⟩,rfl,rfl,DS⟩
def KR:TE:=fun _ H Q=>∀p,H p=none->Q (.ref p) (upd H p (.dK []))
def KW:TE:=fun _ H Q=>∀p,H p=none->Q (.ref p) (upd H p (.dT []))
section
variable {X:Cx}{pos:Pos}
theorem Ij:PE X (.Dict [] [] pos) KR:=fun pins s σ H Q I h=>
 wpAny_Dict_empty ⟨.ref s.heap.objs.size,_,I.laid (a:=s.heap.objs.size) (o:=.dK []) (t':=s.toks) (fun _ _ q=>Fb _ q) (AH _) (kQ s.heap I.big),rfl,h _ (I.hok.fresh (AH _))⟩
theorem Ik:PE X (.Dict [] [] pos) KW:=fun pins s σ H Q I h=>
 wpAny_Dict_empty ⟨.ref s.heap.objs.size,_,I.laid (a:=s.heap.objs.size) (o:=.dT []) (t':=s.toks) (fun _ _ q=>Fb _ q) (AH _) (lg s.heap I.big),rfl,h _ (I.hok.fresh (AH _))⟩
end
def Jm:List (TE×TE)->St->Hp->(List (V×V)->Hp->Prop)->Prop
 |[],_,H,Q=>Q [] H
 |(tk,tv)::r,σ,H,Q=>tk σ H fun x H1=>tv σ H1 fun y H2=>Jm r σ H2 fun ps H3=>Q ((x,y)::ps) H3
abbrev VV:List (V×V)->List (Value×Value)->Prop:=Paired fun p q=>RelV p.1 q.1/\RelV p.2 q.2
def PPs (X:Cx)(pos:Pos)(keys:List (Option Expr))(values:List Expr)(trs:List (TE×TE)):Prop:=
 ∀(pins:List (Addr×Obj))(s:Shared)(σ:St)(H:Hp)(Q:List (V×V)->Hp->Prop),Inv X pins σ H s->Jm trs σ H Q ->
  (wq X) (evalPairs (pairTrees keys values X.env pos)) (fun vs s'=>∃ps H',Inv X pins σ H' s'/\VV ps vs/\Q ps H') X.xe s
theorem qd{X:Cx}{pos:Pos}:PPs X pos [] [] []:=fun pins s σ H Q I h=>pairTrees_nil_walk ⟨[],H,I,.nil,h⟩
theorem cN{X:Cx}{pos:Pos}{k v:Expr}{ks:List (Option Expr)}{vs:List Expr}{tk tv:TE}{trs:List (TE×TE)}(hk:PE X k tk)(hv:PE X v tv)(hr:PPs X pos ks vs trs) :
  PPs X pos (some k::ks) (v::vs) ((tk,tv)::trs):=fun pins s σ H Q I h=>
 pairTrees_cons_walk (thn (hk pins s σ H _ I h) fun u s1 ⟨x,H1,I1,rx,q1⟩=>thn (hv pins s1 σ H1 _ I1 q1) fun w2 s2 ⟨y,H2,I2,ry,q2⟩ =>
  thn (hr pins s2 σ H2 _ I2 q2) fun ws s3 ⟨ps,H3,I3,rel,q3⟩=>⟨(x,y)::ps,H3,I3,.cons ⟨rx,ry⟩ rel,q3⟩)
def ck (kvs more:List (Key×V)):List (Key×V):=more.foldl (fun acc kv=>cY acc kv.1 kv.2) kvs
theorem KV.merge:∀{more:List (Key×V)}{rs:List (Key×Value)}{kvs:List (Key×V)}{vs:List (Key×Value)},KV more rs->KV kvs vs->KV (ck kvs more) (merged vs rs):=by
 intro more rs kvs vs r;unfold KV at r;induction r generalizing kvs vs with
 |nil=>intro q;exact q
 |@cons p q ps qs h t ih=>
  intro r0;have e:KV (cY kvs p.1 p.2) (stored vs q.1 q.2):=by
   have:=r0.put p.1 h.2;rw[<- h.1];exact this
  exact ih e
theorem FU:∀(more kvs:List (Key×V)),(ck kvs more).length<=kvs.length+more.length
 |[],kvs=>by show kvs.length<=kvs.length+0;lia
 |p::r,kvs=>by
  have h1:=FU r (cY kvs p.1 p.2);have h2:=cj kvs p.1 p.2;show(ck (cY kvs p.1 p.2) r).length<=_;rw[Bj];lia
theorem fZ{P:Program}{w:World}:∀{kvs:List (Key×V)}{ws:List (Value×Value)},VV (kvs.map fun kv=>(kV kv.1,kv.2)) ws->∃rs,Carries (aF P w) ws rs/\KV kvs rs
 |[],_,r=>by rw[Cb] at r;cases r;exact⟨[],True.intro,.nil⟩
 |p::kvs,_,r=>by
  rw[AQ] at r;cases r with
  |@cons a b as bs h t=>
   obtain⟨rs,c,q⟩:=fZ (P:=P) (w:=w) t;obtain⟨b1,b2⟩:=b;exact⟨(p.1,b2)::rs,⟨jC h.1,rfl,c⟩,.cons ⟨rfl,h.2⟩ q⟩
def xY (trs:List (TE×TE)):TE:=fun σ H Q=>∀p,H p=none->Jm trs σ (upd H p (.dK [])) fun ps H2=>H2 p=some (.dK [])/\∃kvs:List (Key×V),ps=kvs.map (fun kv=>(kV kv.1,kv.2))/\kvs.length<=15/\Q (.ref p) (upd H2 p (.dK (ck [] kvs)))
theorem oe{X:Cx}{pos:Pos}{keys:List (Option Expr)}{values:List Expr}{trs:List (TE×TE)}(h:PPs X pos keys values trs)(hall:keys.all (·.isSome)=true)(hl:keys.length=values.length)(h0:keys≠[])
  (h15:keys.length<=15):PE X (.Dict keys values pos) (xY trs):=by
 intro pins s σ H Q I q;have hn:=I.hok.fresh (AH s.heap.objs.size);have I1:=I.laid (a:=s.heap.objs.size) (o:=.dK []) (h':=s.heap.push {cls:=.type "dict",data:=.dict #[]}) (t':=s.toks) (fun _ _ q=>Fb _ q) (AH _) (kQ s.heap I.big);refine wpAny_Dict_walk (knd:=aF X.prog X.w) hall hl h0 h15 (thn (h pins _ σ _ _ I1 (q _ hn)) fun ws s2 hq57=>?_);obtain⟨ps,H2,I2,rel,e,kvs,ep,lk,q2⟩:=hq57;subst ep;obtain⟨rs,c,rk⟩:=fZ (P:=X.prog) (w:=X.w) rel;obtain⟨z,hd,vs0,r0,dd⟩:=uq I2.hok e;cases r0;refine⟨rs,c,dd,fun h' dd' hs=>⟨.ref s.heap.objs.size,_,?_,rfl,q2⟩⟩;have hz:(ck [] kvs).length<=sizeLine:=by
  have h1:=FU kvs [];rw[Cd] at h1;rw[sizeLine_eq];lia
 have he:∃q,h'.get? s.heap.objs.size=some q:=let ⟨q,_,_,hq,_⟩:=dd';⟨q,hq⟩;exact cu I2 (by rw[e];exact True.intro) hs he (pY hz hd (rk.merge .nil) dd')
structure M1(X:Cx)(o:Expr)(m:Str)(apos:Pos)(e:Expr)(cpos:Pos):Prop where
 base:attributeBase o m X.env (eval o X.env)=eval o X.env
 few:((backTo cpos (starEach [e] X.env)).all (fun x=>!x.1) && (backToKw cpos (keywordEach [] X.env)).all (fun x=>x.1.isSome)
  && decide (([e]:List Expr).length+([]:List Keyword).length+(if ([]:List Keyword).isEmpty then 0 else 1) < 30))=true
 line:(apos.endLine==cpos.line)=true
 trees:backTo cpos (starEach [e] X.env)=[(false,eval e X.env)]
structure M2(X:Cx)(o:Expr)(m:Str)(apos:Pos)(e f:Expr)(cpos:Pos):Prop where
 base:attributeBase o m X.env (eval o X.env)=eval o X.env
 few:((backTo cpos (starEach [e,f] X.env)).all (fun x=>!x.1) && (backToKw cpos (keywordEach [] X.env)).all (fun x=>x.1.isSome)
  && decide (([e,f]:List Expr).length+([]:List Keyword).length+(if ([]:List Keyword).isEmpty then 0 else 1) < 30))=true
 line:(apos.endLine==cpos.line)=true
 trees:backTo cpos (starEach [e,f] X.env)=[(false,eval e X.env),(false,eval f X.env)]
def IsD (H:Hp)(a:Addr):Prop:=(∃kvs,Rd H a (.dK kvs))\/∃kvs,Rd H a (.dT kvs)
theorem nR{X:Cx}{pins:List (Addr×Obj)}{σ:St}{H:Hp}{s:Shared}{a:Addr}(I:Inv X pins σ H s)(d:IsD H a) :
  s.TypeIs (.ref a) "dict"/\(∀b,Value.ref a=.ref b->∃ob,s.heap.get? b=some ob/\ob.dict=none)/\(a==sysModules)=false:=by
 rcases d with ⟨kvs,e⟩|⟨kvs,e⟩
 ·obtain⟨_,hd,vs,_,dd⟩:=mF I.hok e;refine⟨dd.typeIs,fun b q=>?_,hd⟩;cases q;obtain⟨ob,_,_,h1,h2,_⟩:=dd;exact⟨ob,h1,h2.2.1⟩
 ·obtain⟨_,hd,xs,_,dd⟩:=lM I.hok e;refine⟨dd.typeIs,fun b q=>?_,hd⟩;cases q;obtain⟨ob,_,_,h1,h2,_⟩:=dd;exact⟨ob,h1,h2.2.1⟩
section
variable {X:Cx}{pins:List (Addr×Obj)}{σ:St}{H:Hp}{s:Shared}{a:Addr}{y d:V}{u r:Value}{o:Option V}{A:Around}{E:Value->Shared->Prop}
theorem vI{Q:Value->Shared->Prop}(hu:A.units+1<cLine)(I:Inv X pins σ H s)(g:Ht H a y o)(ry:RelV y u)(rd:RelV d r)(h:∀w' s',Inv X pins σ H s'->RelV (o.getD d) w'->Q w' s') :
  wpAny (model X.prog X.w) A (call (.builtin "dict.get") [.ref a,u,r]) Q E s:=by
 rcases g with ⟨kvs,k,e,ey,l⟩|⟨kvs,k,b,e,ey,eb,l⟩
 ·subst ey;obtain⟨z,hd,vs,rel,dd⟩:=mF I.hok e;refine call_meetsIn PySem.F.slot_dict_get dd.typeIs PySem.F.entry_dict_get (PySem.F.args_dict_get_3 _ _ _) (meets_dict_get_default (aF X.prog X.w) a (jC ry) hd r) ⟨_,dd.mapOf,h _ _ (I.tok _) ?_⟩;rw[l];exact(rel.val k).getD rd
 ·subst ey;cases (show u=Value.ref b from ry);obtain⟨z,hd,xs,rel,dd⟩:=lM I.hok e;refine call_meetsIn PySem.F.slot_dict_get dd.typeIs PySem.F.entry_dict_get (PySem.F.args_dict_get_3 _ _ _) (meetsH_dict_get_default (tupleKind (aF X.prog X.w)) a b hd r) ⟨tupleKind_room_in1 hu,k,xs,ff I.hok eb,dd,h _ _ (I.tok _) ?_⟩;rw[l];exact(rel.val k).getD rd
end
def vn (td ty tx:TE):TE:=fun σ H Q=>td σ H fun x H1=>∃a,x=.ref a/\IsD H1 a/\ty σ H1 fun y H2=>tx σ H2 fun z H3=>∃o,Ht H3 a y o/\Q (o.getD z) H3
def wD (td ty:TE):TE:=fun σ H Q=>td σ H fun x H1=>∃a,x=.ref a/\IsD H1 a/\ty σ H1 fun y H2=>∃kvs k v,H2 a=some (.dK kvs)/\y=kV k/\cb kvs k=some v/\Q v (upd H2 a (.dK (bo kvs k)))
section
variable {X:Cx}{o e f:Expr}{apos cpos:Pos}{td ty tx:TE}
theorem rX(hu:X.A.units+1<cLine)(ho:PE X o td)(he:PE X e ty)(hf:PE X f tx)(m:M2 X o "get" apos e f cpos):PE X (.Call (.Attribute o "get" apos) [e,f] [] cpos) (vn td ty tx):=by
 intro pins s σ H Q I h;refine wpAny_Call_method m.base m.few m.line PySem.F.plainAttrs_dict PySem.F.slot_dict_get PySem.F.type_dict_get (thn (ho pins s σ H _ I h) fun u s1 hq58=>?_);obtain⟨x,H1,I1,rx,a,ex,d,q1⟩:=hq58;subst ex;obtain rfl:u=Value.ref a:=rx;obtain⟨t1,t2,_⟩:=nR I1 d;refine⟨t1,t2,?_⟩;rw[m.trees]
 refine Calls.callWith_builtin rfl (Calls.evalArgs_plain (Calls.spliced_cons (thn (he pins s1 σ H1 _ I1 q1) fun iv s2 ⟨y,H2,I2,ry,q2⟩ =>
  Calls.spliced_cons (thn (hf pins s2 σ H2 _ I2 q2) fun fv s3 ⟨z,H3,I3,rz,ov,g,q3⟩=>Calls.spliced_nil ?_))))
 exact vI hu I3 g ry rz fun w' s4 I4 rw'=>⟨_,H3,I4,rw',q3⟩
theorem rN(ho:PE X o td)(he:PE X e ty)(m:M1 X o "pop" apos e cpos):PE X (.Call (.Attribute o "pop" apos) [e] [] cpos) (wD td ty):=by
 intro pins s σ H Q I h;refine wpAny_Call_method m.base m.few m.line PySem.F.plainAttrs_dict PySem.F.slot_dict_pop PySem.F.type_dict_pop (thn (ho pins s σ H _ I h) fun u s1 hq59=>?_);obtain⟨x,H1,I1,rx,a,ex,d,q1⟩:=hq59;subst ex;obtain rfl:u=Value.ref a:=rx;obtain⟨t1,t2,_⟩:=nR I1 d;refine⟨t1,t2,?_⟩;rw[m.trees];refine Calls.callWith_builtin rfl (Calls.evalArgs_plain (Calls.spliced_cons (thn (he pins s1 σ H1 _ I1 q1) fun iv s2 hq60=>?_)));obtain⟨y,H2,I2,ry,kvs,k,v,ea,ey,l,q2⟩:=hq60;refine Calls.spliced_nil ?_;subst ey;exact ya I2 ea ry l (.inl rfl) fun w' s3 I3 rw'=>⟨v,_,I3,rw',q2⟩
end
section
variable {κ:Type} [DecidableEq κ]
theorem qI{kvs:List (κ×V)}{k:κ}(h:cb kvs k=none):¬k∈kvs.map (·.1):=by
 intro m;obtain⟨p,hp,e⟩:=AJ.mp m;have q:(kvs.any fun kv=>decide (kv.1=k))=true:=BO.mpr ⟨p,hp,EG e⟩;rw[eQ,h] at q;exact absurd q (by simp)
theorem Ji:∀{l:List κ}{k:κ},l.Nodup->¬k∈l->(l++[k]).Nodup
 |[],k,_,_=>by simp
 |a::r,k,h,hk=>by
  obtain⟨h1,h2⟩:=BK.mp h;show(a::(r++[k])).Nodup;refine BK.mpr ⟨fun m=>?_,Ji h2 fun m=>hk (AN.mpr (Or.inr m))⟩;rcases AO.mp m with q|q
  ·exact h1 q
  ·exact hk (AN.mpr (Or.inl (AM.mp q).symm))
theorem ph{p:κ×V}{r:List (κ×V)}{k:κ}(e:p.1=k):bo (p::r) k=bo r k:=by
 unfold bo;rw[Bs,EE (by simp[e])]
theorem iR{p:κ×V}{r:List (κ×V)}{k:κ}(e:¬p.1=k):bo (p::r) k=p::bo r k:=by
 unfold bo;rw[Bs,EF (by simp[e])]
theorem Ie:∀{kvs:List (κ×V)}{k:κ},¬k∈kvs.map (·.1)->bo kvs k=kvs
 |[],_,_=>rfl
 |p::r,k,h=>by
  have h':¬k∈r.map (·.1):=fun m=>by
   obtain⟨q,hq,e⟩:=AJ.mp m;exact h (AJ.mpr ⟨q,AN.mpr (Or.inr hq),e⟩)
  rw[iR fun e=>h (AJ.mpr ⟨p,AN.mpr (Or.inl rfl),e⟩),Ie h']
end
mutual
inductive Gh(K:W.Frag)(H:Hp):V->PyData->Prop
 |non:Gh K H .non .none
 |bl (b:Bool):Gh K H (.bl b) (.bool b)
 |int (i:Int):Gh K H (.int i) (.int i)
 |str (x:Str):Gh K H (.str x) (.str x)
 |lst {a:Addr}{xs:List V}{ds:List PyData}:SqL K H a xs->DatAll K H xs ds->Gh K H (.ref a) (.list ds)
 |tup {a:Addr}{xs:List V}{ds:List PyData}:SqT K H a xs->DatAll K H xs ds->Gh K H (.ref a) (.tuple ds)
inductive DatAll(K:W.Frag)(H:Hp):List V->List PyData->Prop
 |nil:DatAll K H [] []
 |cons {v:V}{d:PyData}{vs:List V}{ds:List PyData}:Gh K H v d->DatAll K H vs ds->DatAll K H (v::vs) (d::ds)
end
theorem Fo.LB{K:W.Frag}{H H':Hp}{a:Addr}{xs:List V}(e:Fo H H')(h:SqT K H a xs):SqT K H' a xs:=by
 rcases h with (h|⟨o,h⟩)|h
 ·exact .inl (.inl (e _ _ h))
 ·exact .inl (.inr ⟨o,e _ _ h⟩)
 ·exact .inr h
theorem af{H:Hp}{p:Addr}(h:H p=none)(o:HO):Fo H (upd H p o):=fun b u q=>by rw[ai (aB q h)];exact q
section
variable {X:Cx}{pins:List (Addr×Obj)}{σ:St}{H:Hp}{s:Shared}
mutual
theorem Inv.reads(I:Inv X pins σ H s):∀{v:V}{d:PyData}{u:Value},Gh X.K H v d->RelV v u->∃as,Reads s.heap u d as
 |_,_,_,.non,r=>by cases r;exact⟨_,.none⟩
 |_,_,_,.bl b,r=>by cases r;exact⟨_,.bool b⟩
 |_,_,_,.int i,r=>by obtain⟨t,rfl⟩:=r;exact⟨_,.int i t⟩
 |_,_,_,.str x,r=>by obtain⟨t,rfl⟩:=r;exact⟨_,.str x t⟩
 |_,_,_,.lst h q,r=>by
  cases r;obtain⟨its,rv,⟨o,n,e,c,dd,d⟩,hz⟩:=I.list h;obtain⟨as,z⟩:=I.readsAll q rv;exact⟨_,.list e c d (by simpa using z)⟩
 |_,_,_,.tup h q,r=>by
  cases r;obtain⟨its,rv,⟨o,e,c,n,d⟩,hz⟩:=I.tuple h;obtain⟨as,z⟩:=I.readsAll q rv;exact⟨_,.tuple e c d (by simpa using z)⟩
theorem Inv.readsAll(I:Inv X pins σ H s):∀{vs:List V}{ds:List PyData}{us:List Value},DatAll X.K H vs ds->Vals vs us->∃as,ReadsAll s.heap us ds as
 |_,_,_,.nil,.nil=>⟨_,.nil⟩
 |_,_,_,.cons h q,.cons r t=>by
  obtain⟨as,z⟩:=I.reads h r;obtain⟨bs,y⟩:=I.readsAll q t;exact⟨_,.cons z y⟩
end
def rEqD (K:W.Frag)(neg:Bool):R2:=fun x y H Q=>∃d e,Gh K H x d/\Gh K H y e/\d.canLay0=true/\e.canLay0=true/\d.depth<=60/\Q (.bl (if neg then !PyData.eqv d e else PyData.eqv d e)) H
theorem lH(hu:X.A.units+64<cLine):OpR X (compareOp .NotEq) (rEqD X.K true):=by
 intro pins s σ H x y v u Q I rx ry h;obtain⟨d,e,hd,he,c1,c2,hp,q⟩:=h;obtain⟨as,ra⟩:=I.reads hd rx;obtain⟨bs,rb⟩:=I.reads he ry;exact SeqAt.compareNe_reads ra rb c1 c2 (by have:=CA d.depth e.depth;lia) ⟨.bl _,H,I,rfl,q⟩
end
def xn (i j:Int):Prop:=Builtin.Int.intBits i<=2^20/\Builtin.Int.intBits j<=2^20
theorem fc{X:Cx}:OpR X (binaryOp .Mult) (rI xn fun i j=>.int (i*j)):=opI fun _ _ _ _ _ _ _ hc q=>mul_int q (IntMulOk.of_bits hc.1 hc.2)
def Its (x:Str):It:=⟨fun i _=>i<x.cps.size,fun i H v H'=>H'=H/\∃c,x.cps[i]?=some c/\v=.str ⟨#[c]⟩,fun i _=>x.cps.size<=i⟩
theorem rP{P:Program}{w:World}{K:W.Frag}{tg:Expr}(it:Addr)(x:Str)(t:Tok):Turn P w K tg (Its x) [it] it (fun i h=>h.IsStrIter it "str_ascii_iterator" x t i) where
 mem:=by simp
 obj:=fun i h st b hb=>by
  have e:b=it:=by simpa using hb
  subst e;obtain⟨o,e,c,d⟩:=st;exact⟨o,e,fun v z=>by rw[d] at z;cases z⟩
 keep:=fun i h h' st k=>by
  obtain⟨o,e,r⟩:=st;exact⟨o,k it (by simp) o e,r⟩
 item:=by
  intro X hP hw hK hc i pins s σ H E I hf st hg;subst hP hw hK;obtain⟨f0,f1,f2,f3,f4,f5⟩:=hf it (by simp);have hi:i<x.cps.size:=hg;refine wpAny_pyNext_ascii_item st (c:=x.cps[i]) (by simp[hi]) fun h' st' sb=>?_;have I1:Inv X pins σ H {s with heap:=h',toks:=s.toks+1}:=I.turned (fun b o hb e=>(sb.2 b hb).trans e) f0 f1 f3 f4 f5;obtain⟨o,e,c,d⟩:=id st';exact⟨_,rfl,mQ (s:={s with heap:=h',toks:=s.toks+1}) e c d (by decide) ⟨.str ⟨#[x.cps[i]]⟩,H,I1,⟨_,rfl⟩,⟨rfl,_,by simp[hi],rfl⟩,st',fun b hb=>(hf b hb).1⟩⟩
 done:=by
  intro X hP hw hK hc i pins s σ H E I hf st hg;subst hP hw hK;obtain⟨f0,f1,f2,f3,f4,f5⟩:=hf it (by simp);have hi:x.cps.size<=i:=hg;exact wpAny_pyNext_ascii_end (I.ok.hd hc) st (by simp;lia) fun h' eb=>⟨rfl,I.turned (t':=s.toks) (fun b o hb e=>eb b o hb e) f0 f1 f3 f4 f5⟩
 self:=fun A i s Q E st h=>by
  obtain⟨o,e,c,d⟩:=id st;refine wpAny_pyIter_slot (Heap.IsStrIter.typeIs st) F.slot_str_ascii_iterator_iter (Fi F.slot_str_ascii_iterator_iter (Heap.IsStrIter.typeIs st) F.entry_str_ascii_iterator_iter ?_ (F.args_str_ascii_iterator_iter_1 _));show wpAny _ _ (ret (.ref it)) _ _ s;exact EB ⟨_,rfl,"str_ascii_iterator",_,Heap.IsStrIter.typeIs st,F.slot_str_ascii_iterator_next.lookup,h⟩
section
variable {X:Cx}{tg:Expr}
def iStr (tl:TE):TI:=fun σ H R=>tl σ H fun x H1=>∃z,x=.str z/\z.cps.all (·<128)=true/\R (Its z) H1
theorem pN{l:Expr}{tl:TE}(hl:PE X l tl):PI X tg l (iStr tl):=by
 intro pins s σ H R I h;refine thn (hl pins s σ H _ I h) fun v s1 hq61=>?_;obtain⟨x,H1,I1,r1,q1⟩:=hq61;obtain⟨z,e,ha,q⟩:=q1;subst e;obtain⟨t,rfl⟩:=r1;refine wpAny_pyIter_ascii ha ?_;refine⟨s1.heap.objs.size,[s1.heap.objs.size],_,_,H1,rfl,I1.kept (t':=s1.toks) fun b o e=>Fb _ e,rP _ z t,⟨_,Fc _ rfl,rfl,rfl⟩,fun b hb=>?_,q⟩;have e:b=s1.heap.objs.size:=by simpa using hb
 subst e;exact I1.JA (AH _) (I1.hok.fresh (AH _))
def Nx (n i:Nat)(P:Nat->List V->Hp->Prop)(ys:List V)(H:Hp):Prop:=∃m',m'<n-i/\(m'=n-(i+1)/\i+1<=n/\P (i+1) ys H)
theorem Nx.mk{n i:Nat}{P:Nat->List V->Hp->Prop}{ys:List V}{H:Hp}(hi:i<n)(h:P (i+1) ys H):Nx n i P ys H:=⟨n-(i+1),by lia,rfl,hi,h⟩
theorem dv{J:It}{n k:Nat}{js:List Nat}{g:TG}{tc:TT}{te:TE}{σ:St}{H:Hp}{Q:VK}(P:Nat->List V->Hp->Prop)(h0:P 0 [] H)(hz:∀i ys H,i<=n->P i ys H->ys.length<=i)(hn:n<=sizeLine)
  (hgo:∀i ys H,i<n->P i ys H->J.go i H)(hstop:∀ys H,P n ys H->J.stop n H)
  (hs:∀i ys H x H',i<n->P i ys H->J.yld i H x H'->g x (List.replicate k none++bJ js σ) H' fun σ2 H2=>tc σ2 H2 fun b H3=>if b=true then te σ2 H3 fun y H4=>Nx n i P (ys++[y]) H4 else Nx n i P ys H3)
  (hd:∀ys H,P n ys H->∀p,H p=none->Q (.ref p) (upd H p (.lst ys))) :
  fh J k js g tc te σ H Q:=by
 refine⟨fun i m ys H=>m=n-i/\i<=n/\P i ys H,⟨n,by simp,Bi _,h0⟩,?_⟩;rintro i m ys H ⟨rfl,hi,p⟩;have hy:=hz i ys H hi p;by_cases hlt:i<n
 ·exact .inr ⟨hgo i ys H hlt p,by lia,fun x H' y=>hs i ys H x H' hlt p y⟩
 ·have e:i=n:=by lia
  subst e;exact .inl ⟨hstop ys H p,by lia,hd ys H p⟩
theorem um{lo:Int}{n k:Nat}{js:List Nat}{g:TG}{tc:TT}{te:TE}{σ:St}{H:Hp}{Q:VK}(P:Nat->List V->Hp->Prop)(h0:P 0 [] H)(hz:∀i ys H,i<=n->P i ys H->ys.length<=i)(hn:n<=sizeLine)
  (hs:∀i ys H,i<n->P i ys H->g (.int (lo+i)) (List.replicate k none++bJ js σ) H fun σ2 H2=>tc σ2 H2 fun b H3=>if b=true then te σ2 H3 fun y H4=>Nx n i P (ys++[y]) H4 else Nx n i P ys H3)
  (hd:∀ys H,P n ys H->∀p,H p=none->Q (.ref p) (upd H p (.lst ys))) :
  fh (Itr lo n) k js g tc te σ H Q:=
 dv P h0 hz hn (fun _ _ _ h _=>h) (fun _ _ _=>AH _) (fun i ys H x H' hi p y=>by obtain⟨e,y⟩:=y;subst e y;exact hs i ys _ hi p) hd
theorem cf{K:W.Frag}{a:Addr}{xs:List V}{k:Nat}{js:List Nat}{g:TG}{tc:TT}{te:TE}{σ:St}{H:Hp}{Q:VK}(P:Nat->List V->Hp->Prop)(h0:P 0 [] H)(hz:∀i ys H,i<=xs.length->P i ys H->ys.length<=i)(hn:xs.length<=sizeLine)
  (hl:∀i ys H,i<=xs.length->P i ys H->SqL K H a xs)
  (hs:∀i x ys H,xs[i]?=some x->P i ys H->g x (List.replicate k none++bJ js σ) H fun σ2 H2=>tc σ2 H2 fun b H3=>if b=true then te σ2 H3 fun y H4=>Nx xs.length i P (ys++[y]) H4 else Nx xs.length i P ys H3)
  (hd:∀ys H,P xs.length ys H->∀p,H p=none->Q (.ref p) (upd H p (.lst ys))) :
  fh (Itl K a) k js g tc te σ H Q:=
 dv P h0 hz hn (fun i ys H hi p=>⟨xs,xs[i],hl i ys H (BA hi) p,by simp[hi]⟩) (fun ys H p=>⟨xs,hl _ ys H (AH _) p,AH _⟩)
  (fun i ys H x H' hi p y=>by obtain⟨e,y⟩:=y;subst e;exact hs i x ys _ (y xs (hl i ys _ (BA hi) p)) p) hd
theorem yx{K:W.Frag}{a:Addr}{xs:List V}{k:Nat}{js:List Nat}{g:TG}{tc:TT}{te:TE}{σ:St}{H:Hp}{Q:VK}(P:Nat->List V->Hp->Prop)(h0:P 0 [] H)(hz:∀i ys H,i<=xs.length->P i ys H->ys.length<=i)(hn:xs.length<=sizeLine)
  (hl:∀i ys H,i<=xs.length->P i ys H->SqT K H a xs)
  (hs:∀i x ys H,xs[i]?=some x->P i ys H->g x (List.replicate k none++bJ js σ) H fun σ2 H2=>tc σ2 H2 fun b H3=>if b=true then te σ2 H3 fun y H4=>Nx xs.length i P (ys++[y]) H4 else Nx xs.length i P ys H3)
  (hd:∀ys H,P xs.length ys H->∀p,H p=none->Q (.ref p) (upd H p (.lst ys))) :
  fh (Itt K a) k js g tc te σ H Q:=
 dv P h0 hz hn (fun i ys H hi p=>⟨xs,xs[i],hl i ys H (BA hi) p,by simp[hi]⟩) (fun ys H p=>⟨xs,hl _ ys H (AH _) p,AH _⟩)
  (fun i ys H x H' hi p y=>by obtain⟨e,y⟩:=y;subst e;exact hs i x ys _ (y xs (hl i ys _ (BA hi) p)) p) hd
theorem xq{z:Str}{k:Nat}{js:List Nat}{g:TG}{tc:TT}{te:TE}{σ:St}{H:Hp}{Q:VK}(P:Nat->List V->Hp->Prop)(h0:P 0 [] H)(hz:∀i ys H,i<=z.cps.size->P i ys H->ys.length<=i)(hn:z.cps.size<=sizeLine)
  (hs:∀i c ys H,z.cps[i]?=some c->P i ys H->g (.str ⟨#[c]⟩) (List.replicate k none++bJ js σ) H fun σ2 H2=>tc σ2 H2 fun b H3=>if b=true then te σ2 H3 fun y H4=>Nx z.cps.size i P (ys++[y]) H4 else Nx z.cps.size i P ys H3)
  (hd:∀ys H,P z.cps.size ys H->∀p,H p=none->Q (.ref p) (upd H p (.lst ys))) :
  fh (Its z) k js g tc te σ H Q:=
 dv P h0 hz hn (fun i ys H hi p=>hi) (fun ys H p=>AH _)
  (fun i ys H x H' hi p y=>by obtain⟨e,c,y,rfl⟩:=y;subst e;exact hs i c ys _ y p) hd
theorem boolsOf:∀{bs:List Bool}{us:List Value},Vals (bs.map V.bl) us->us=bs.map Value.bool
 |[],_,.nil=>rfl
 |b::r,_,.cons h t=>by cases h;rw[boolsOf t];rfl
theorem rB(hc:X.calm=true):cq X (.builtin "all") (fun xs H Q=>∃(p:Addr)(bs:List Bool),xs=[.ref p]/\SqL X.K H p (bs.map V.bl)/\Q (.bl (bs.all id)) H):=by
 intro pins s σ H xs us Q I r h;obtain⟨p,bs,rfl,hq,q⟩:=h;obtain⟨u,rfl,rx⟩:=dq r;cases rx;obtain⟨its,rv,pl,hz⟩:=I.list hq;have hh:X.A.in1.handled=none:=I.ok.hd hc;have e:=boolsOf rv;subst e;have hp:p<s.heap.objs.size:=by obtain⟨o,n,e,_⟩:=pl;exact EL e
 refine call_all_walk (wpAny_pyIter_list pl.isList ⟨s.heap.objs.size,_,_,_,_,_,fun i=>bs.getD i false,rfl,Walks.list hh s.heap.objs.size p (AR hp) _,⟨⟨_,Fc _ rfl,rfl,rfl⟩,pl.isList.push _⟩,?_,fun h' tk hk=>?_⟩)
 ·intro i v s' Q' E' hv q';have hv':(bs.map Value.bool)[i]?=some v:=by simpa using hv
  rw[AW] at hv';cases eb:bs[i]? with
  |none=>rw[eb] at hv';cases hv'
  |some b=>
   rw[eb] at hv';cases hv';refine wpAny_truthy_bool ?_;have q2:Q' (bs.getD i false) s':=q';rw[Ba,eb] at q2;exact q2
 ·have e:(List.range (bs.map Value.bool).toArray.size).all (fun i=>bs.getD i false)=bs.all id:=by
   rw[Fe,BU,BU];constructor
   ·intro h b hb;obtain⟨i,hi,rfl⟩:=Cf.mp hb;have:=h i (BC.mpr (by simpa using hi));rw[Ba,AL hi] at this;exact this
   ·intro h i hi;have hi':i<bs.length:=by simpa using BC.mp hi
    rw[Ba,AL hi'];exact h _ (Bq hi')
  rw[e];refine⟨.bl _,H,?_,rfl,q⟩;have I1:Inv X pins σ H {s with heap:=s.heap.push {cls:=.type "list_iterator",data:=.fields #[.ref p,.int 0 0]},toks:=s.toks}:=I.kept fun b o e=>Fb _ e;refine I1.turned (it:=s.heap.objs.size) (fun b o hb e=>hk b o (by simpa using hb) e) (I.hok.fresh (AH _)) (Cm I.lt) (.inr (Heap.get?_none_of_le I.sz)) (fun x c e z=>?_) fun p hp z=>?_
  ·obtain⟨v,o,ho,_⟩:=I.cell x c e;rw[z] at ho;exact absurd (EL ho) (Bl _)
  ·have:=(I.pin p hp).1;rw[z] at this;exact absurd (EL this) (Bl _)
theorem strsOf:∀{zs:List Str}{us:List Value},Vals (zs.map V.str) us->StrsAre us zs
 |[],_,.nil=>.nil
 |z::r,_,.cons h t=>by obtain⟨tk,rfl⟩:=h;exact .cons z tk (strsOf t)
def wM (K:W.Frag):V->List V->Hp->VK->Prop:=fun x vs H Q=>∃(z:Str)(p:Addr)(zs:List Str),x=.str z/\vs=[.ref p]/\SqL K H p (zs.map V.str)/\(zs.map (·.length)).sum+zs.length*z.length<=16777216/\Q (.str (Txt.join z zs)) H
theorem Kc:MtR X "str.join" (wM X.K):=by
 intro pins s σ H x vs v us Q I rx rv h;obtain⟨z,p,zs,rfl,rfl,hq,hz,q⟩:=h;obtain⟨t,rfl⟩:=rx;obtain⟨u,rfl,ru⟩:=rv.one;cases ru;obtain⟨its,r',pl,_⟩:=I.list hq;exact join_list pl.isList (by simpa using strsOf r') hz fun t' k=>⟨.str _,H,I.tok _,⟨_,rfl⟩,q⟩
def clsV:V->Option Value
 |.ty T=>some (.type T)
 |.ref a=>some (.ref a)
 |_=>none
def rIsT (K:W.Frag):List V->Hp->VK->Prop:=fun xs H Q=>∃x y t c b,xs=[x,y]/\clsV y=some c/\HM K H x t/\W.kitOne K t c=some b/\Q (.bl b) H
theorem Gf:cq X (.builtin "isinstance") (rIsT X.K):=by
 intro pins s σ H xs us Q I r h;obtain⟨x,y,t,c,b,rfl,ec,ty,e,q⟩:=h;obtain⟨u,u',rfl,rx,ry⟩:=ue r;have:u'=c:=by
  cases y with
  |ref _=>cases ry;exact EM ec
  |ty _=>cases ry;exact EM ec
  |_=>cases ec
 subst this;exact oV I rx ty e fun tk=>⟨.bl b,H,I.tok _,rfl,q⟩
def Kb:V->List V->Hp->VK->Prop:=fun x vs H Q=>∃d o kvs more,x=.ref d/\vs=[.ref o]/\d≠o/\H d=some (.dK kvs)/\H o=some (.dK more)/\kvs.length+more.length<=sizeLine/\Q .non (upd H d (.dK (ck kvs more)))
theorem Ja:MtR X "dict.update" Kb:=by
 intro pins s σ H x vs v us Q I rx rv h;obtain⟨d,o,kvs,more,rfl,rfl,hne,hd,ho,hz,q⟩:=h;cases rx;obtain⟨u,rfl,ru⟩:=rv.one;cases ru;obtain⟨z1,y1,ws1,r1,d1⟩:=(show Fz X.prog X.w H s.heap d (.dK kvs) from I.hok d _ hd)
 obtain⟨z2,y2,ws2,r2,d2⟩:=(show Fz X.prog X.w H s.heap o (.dK more) from I.hok o _ ho)
 have l1:kvs.length=ws1.length:=Paired.length r1;have l2:more.length=ws2.length:=Paired.length r2;refine PySem.call_meetsIn F.slot_dict_update d1.typeIs F.entry_dict_update (F.args_dict_update_2 _ _) (meets_dict_update (aF X.prog X.w) d o hne y2) ⟨ws1,ws2,d1,d2,by lia,fun h' e1 e2 hs=>?_⟩;refine⟨.non,_,I.write (x:=d) (e:=d) (o:=.dK (ck kvs more)) (t':=s.toks) (by rw[hd];trivial) (.inl rfl) (fun b u hb e=>hs.extBut b u hb e) ?_ ?_,rfl,q⟩
 ·obtain⟨o',es,ep,g,_⟩:=e1;exact⟨o',g⟩
 ·exact⟨AX (FU more kvs) hz,y1,_,r2.merge r1,e1⟩
end
def Kp (F:Addr->Prop)(fs:List Addr)(h h':Heap):Prop:=
 (∀b o,h.get? b=some o->¬F b->b∉fs->h'.get? b=some o)/\(∀b o,h.get? b=some o->¬F b->∃sl,h'.get? b=some {o with slots:=sl})/\∀b o,h.get? b=some o->∃o',h'.get? b=some o'
section
variable {X:Cx}{pins:List (Addr×Obj)}{σ:St}{H:Hp}{s:Shared}{h':Heap}
theorem Inv.JQ{t':Nat}(I:Inv X pins σ H s)(k:Kp (FY X pins H) (frs X.stack) s.heap h'):Inv X pins σ H {s with heap:=h',toks:=t'}:=by
 classical
 have nf:∀b o,H b=some o->¬FY X pins H b:=fun b o e f=>by rw[f.1] at e;cases e
 have ns:∀b o,H b=some o->b∉frs X.stack:=fun b o e z=>by rw[I.Hm b z] at e;cases e
 have hch:∀b∈(List.range s.heap.objs.size).filter (fun b=>decide (FY X pins H b)),FY X pins H b:=fun b hb=>EK (BI.mp hb).2;have nch:∀b o,s.heap.get? b=some o->b∉(List.range s.heap.objs.size).filter (fun b=>decide (FY X pins H b))->¬FY X pins H b:=fun b o e n f=>
  n (BI.mpr ⟨BC.mpr (EL e),EG f⟩)
 have stk:∀b,b≠X.env.locals->b∉X.fs->b∉frs X.stack:=fun b h1 h2 z=>(AN.mp (I.HI b z)).elim h1 h2;refine I.step (g':=s.gens) (d':=s.drawn) (ch:=(List.range s.heap.objs.size).filter (fun b=>decide (FY X pins H b))) (fun b hb=>?_) (fun b o hL hb hc e n=>k.1 b o e (nch b o e hc) (stk b hL hb)) (fun b o hL hb hc e n=>k.2.1 b o e (nch b o e hc))
  (fun b o hc e n=>n) (fun b o hc e=>k.2.2 b o e) (fun _ _ e=>e) (fun _ _ _ e=>e) (fun b ps e=>⟨#[],by rw[e];simp⟩) (fun m hm=>?_) (fun b o e=>?_) I.bare
 ·obtain⟨f0,f1,f2,f3,f4,f5⟩:=hch b hb;exact⟨f3,f1,f4,f5⟩
 ·obtain⟨o,es,ep,ho,r⟩:=hm;obtain⟨sl,q⟩:=k.2.1 _ o ho fun f=>f.2.1 rfl;exact⟨_,es,ep,q,r⟩
 ·refine(I.hok b o e).IM (fun c u hc q=>?_) (fun _ q=>q) fun _ _ q=>q;rcases hc with z|z
  ·subst z;exact k.1 _ u q (nf _ o e) (ns _ o e)
  ·exact k.1 c u q (nf c _ z) (ns c _ z)
theorem Inv.Ju(I:Inv X pins σ H s):∀b,s.heap.objs.size<=b->FY X pins H b:=fun b hb=>I.JA hb (I.hok.fresh hb)
end
abbrev XS:=Value->St->Hp->Prop
section
variable {P:Program}{w:World}{K:PySem.W.Frag}{mg:Str->Option Value}{base:Heap}
theorem Gy.calm{k:Nat}{A:Around}{env:Env}(r:Gy k (A.deeper env)):A.handled.isNone=true:=by
 have:=r.hd;have h2:A.handled=none:=this;rw[h2];rfl
end
section
variable {X:Cx}{pins:List (Addr×Obj)}{σ:St}{H:Hp}{s:Shared}
theorem Inv.KP{b:Addr}{o:HO}(I:Inv X pins σ H s)(f:FY X pins H b)(ob:Fz X.prog X.w (upd H b o) s.heap b o):Inv X pins σ (upd H b o) s:=by
 obtain⟨f0,f1,f2,f3,f4,f5⟩:=f;have nb:∀c u,H c=some u->c≠b:=fun c u e z=>by rw[z,f0] at e;cases e
 refine⟨I.ok,I.os,I.bare,⟨I.base.keep,I.base.slot,fun c u e n hx=>?_,I.base.there,fun c xs e=>?_,fun c u xs e=>?_,fun c ps e=>?_⟩,I.loc,I.cell,?_,fun x c e=>?_,fun p hp=>?_,fun c u e=>?_,I.len⟩
 ·have z:c≠b:=fun z=>by
   subst z;rcases f3 with q|q
   ·exact hx q
   ·rw[q] at e;cases e
  rw[ai z];exact I.base.free c u e n hx
 ·have q:=I.base.IQ c xs e;rw[ai (nb c _ q)];exact q
 ·have q:=I.base.IH c u xs e;rw[ai (nb c _ q)];exact q
 ·obtain⟨more,q⟩:=I.base.IK c ps e;exact⟨more,by rw[ai (nb c _ q)];exact q⟩
 ·rw[ai (EZ f1)];exact I.free
 ·rw[ai (f4 x c e)];exact I.FX x c e
 ·obtain⟨a1,a2,a3⟩:=I.pin p hp;exact⟨a1,by rw[ai (f5 p hp)];exact a2,a3⟩
 ·by_cases z:c=b
  ·subst z;rw[ae] at e;cases e;exact ob
  ·rw[ai z] at e;refine(I.hok c u e).IM (fun _ _ _ q=>q) (fun a q=>?_) fun a xs q=>?_
   ·rw[ai (nb a _ q)];exact q
   ·rw[ai (nb a _ q)];exact q
end
end L2
namespace L2
open PySem PySem.Spec PyProof.Rows
def sH {α:Type}(xs:List α)(lo hi:Option Int):List α:=(xs.drop (HT.sIx xs.length 0 lo)).take (HT.sIx xs.length xs.length hi-HT.sIx xs.length 0 lo)
theorem vN(lo hi:Option Int)(n:Nat):Builtin.Str.strSliceIndices lo hi 1 n=(List.range (HT.sIx n n hi-HT.sIx n 0 lo)).map fun k=>HT.sIx n 0 lo+k:=by
 have clipA:∀v:Int,max 0 (min (if v<0 then v+(n:Int) else v) (n:Int))=(((if v<0 then (v+(n:Int)).toNat else min v.toNat n):Nat):Int):=fun v=>by
  split<;>lia
 have key:∀i j:Nat,sliceRange (i:Int) (j:Int) 1=(List.range (j-i)).map fun k=>i+k:=fun i j=>by
  unfold sliceRange;simp only[show(1:Int)>0 by decide,if_true];have e:(if (i:Int)<(j:Int) then ((j:Int)-(i:Int)+1-1)/1 else 0).toNat=j-i:=by
   split<;>lia
  rw[e];apply Bz;intro k _;lia
 have lo':(match lo with|none=>(0:Int)|some i=>max 0 (min (if i<0 then i+(n:Int) else i) (n:Int)))=((HT.sIx n 0 lo:Nat):Int):=by
  cases lo with
  |none=>rfl
  |some v=>exact clipA v
 have hi':(match hi with|none=>(n:Int)|some i=>max 0 (min (if i<0 then i+(n:Int) else i) (n:Int)))=((HT.sIx n n hi:Nat):Int):=by
  cases hi with
  |none=>rfl
  |some v=>exact clipA v
 rw[<- key,<- lo',<- hi'];rfl
theorem iZ{α:Type}(xs:List α)(i m:Nat)(h:i+m<=xs.length):((List.range m).map fun k=>i+k).filterMap (fun j=>xs[j]?)=(xs.drop i).take m:=by
 induction m with
 |zero=>simp
 |succ m ih=>
  have hm:i+m<xs.length:=by lia
  rw[Dc,AU,DT,ih (by lia),Bh,List.getElem?_drop,AL hm];simp[hm]
theorem cM(z:Str)(lo hi:Option Int):(Txt.slice z lo hi).cps.toList=sH z.cps.toList lo hi:=by
 have hn:z.length=z.cps.toList.length:=rfl;unfold Txt.slice;have e:=vN lo hi z.length;have h1:=HT.JH z.length 0 (Bi _) lo;have h2:=HT.JH z.length z.length (AH _) hi;rw[e];split
 ·rename_i c;have c':(HT.sIx z.length z.length hi-HT.sIx z.length 0 lo)=z.length:=by
   have:=(Bx _ _▸c).2;simpa using this
  unfold sH;rw[<- hn];have a0:HT.sIx z.length 0 lo=0\/z.length=0:=by lia
  rcases a0 with a0|a0
  ·rw[c',a0,CO];exact(Bk (by rw[<- hn];exact AH _)).symm
  ·have:z.cps.toList=[]:=Bv.mp (by rw[<- hn];exact a0);rw[this];simp
 ·show((List.map _ _).filterMap _).toArray.toList=_;unfold sH;rw[<- hn];have e2:(fun j:Nat=>z.cps[j]?)=fun j:Nat=>z.cps.toList[j]?:=by funext j;rw[BE]
  rw[List.toList_toArray,e2];by_cases hle:HT.sIx z.length 0 lo<=HT.sIx z.length z.length hi
  ·exact iZ _ _ _ (by rw[<- hn];lia)
  ·have:HT.sIx z.length z.length hi-HT.sIx z.length 0 lo=0:=by lia
   rw[this];simp
section
variable {X:Cx}
def rSlS:V->Option Int->Option Int->Hp->VK->Prop:=fun x lo hi H Q=>∃z,x=.str z/\z.length<=sizeLine/\Q (.str (Txt.slice z lo hi)) H
theorem Gk:SlR X rSlS:=by
 intro pins s σ H x v vl vu lo hi sl Q I rx hs pl pu q;obtain⟨z,rfl,hz,q⟩:=q;obtain⟨t,rfl⟩:=rx;refine⟨"str",_,PySem.F.slot_str_getitem.lookup,typeIs_str _ _ _,?_⟩;obtain⟨l',e1,e1'⟩:∃l':Option (Int×Tok),vl=partValue l'/\l'.map (·.1)=lo:=by
  cases pl with
  |none=>exact⟨none,rfl,rfl⟩
  |int i t=>exact⟨some (i,t),rfl,rfl⟩
 obtain⟨u',e2,e2'⟩:∃l':Option (Int×Tok),vu=partValue l'/\l'.map (·.1)=hi:=by
  cases pu with
  |none=>exact⟨none,rfl,rfl⟩
  |int i t=>exact⟨some (i,t),rfl,rfl⟩
 subst e1 e2 e1' e2';refine wpAny_getItem_str_slice (l:=l') (u:=u') (st:=none) hs rfl (post_val_or_str ⟨?_,fun t' k=>⟨.str (Txt.slice z (l'.map (·.1)) (u'.map (·.1))),H,I.tok _,⟨_,rfl⟩,q⟩⟩);exact AX (Txt.slice_le z (l'.map (·.1)) (u'.map (·.1))) hz
def LD:R2:=fun x y H Q=>∃z n,x=.str z/\y=.int n/\-(2^63)<=n/\n<2^63/\z.length*n.toNat<=16777216/\Q (.str (Txt.mul z n)) H
theorem HR:OpR X (binaryOp .Mult) LD:=by
 intro pins s σ H x y v u Q I rx ry h;obtain⟨z,n,rfl,rfl,h0,h1,hz,q⟩:=h;obtain⟨t,rfl⟩:=rx;obtain⟨t',rfl⟩:=ry;refine SB.mul ⟨?_,fun hn _ hc=>?_,fun hn _=>?_⟩ fun tk k=>⟨.str _,H,I.tok _,⟨_,rfl⟩,q⟩
 ·rw[EH (by lia),EH (by lia)];rfl
 ·have hn':1<=n:=by lia
  have e:((z.length*n.toNat:Nat):Int)=(z.length:Int)*n:=by
   rw[Int.natCast_mul,Fm (by lia)]
  have h3:(z.length:Int)*n<=16777216:=by rw[<- e];lia
  have h4:(z.length:Int)<=(2^63-1)/n:=by
   rw[Int.le_ediv_iff_mul_le (by lia)];lia
  lia
 ·unfold Builtin.Str.tooLong;exact EH (by rw[sizeLine_eq];lia)
end
theorem kG(a:Array Nat):∀(n:Nat)(acc:Array Nat),((List.replicate n a).foldl (·++·) acc).toList=acc.toList++(List.replicate n a.toList).flatten
 |0,acc=>by simp
 |n+1,acc=>by
  rw[List.replicate_succ,CB,kG a n,List.replicate_succ,DW,Array.toList_append,By]
theorem mul_list(z:Str)(n:Int):(Txt.mul z n).cps.toList=(List.replicate n.toNat z.cps.toList).flatten:=by
 unfold Txt.mul;split
 ·have:n.toNat=0:=by lia
  rw[this];rfl
 ·split
  ·rename_i hn c;have c':n=1\/z.length=0:=by simpa using c
   rcases c' with rfl|c'
   ·simp
   ·have:z.cps.toList=[]:=Bv.mp c';rw[this];simp
  ·show((List.replicate n.toNat z.cps).foldl (·++·) #[]).toList=_;rw[kG];simp
section
variable {X:Cx}
theorem GX:∀{ns:List Int}{us:List Value}{i:Nat}{v:Value},Vals (ns.map V.int) us->us[i]?=some v->∃t,v=.int (ns.getD i 0) t
 |[],_,_,_,.nil,e=>by simp at e
 |n::r,_,0,_,.cons h _,e=>by
  simp at e;subst e;obtain⟨t,rfl⟩:=h;exact⟨t,rfl⟩
 |n::r,_,i+1,v,.cons _ t,e=>by
  obtain⟨tk,q⟩:=GX (i:=i) (v:=v) t (by simpa using e);exact⟨tk,by simpa using q⟩
theorem Inv.Hk{pins:List (Addr×Obj)}{σ:St}{H:Hp}{s:Shared}{h':Heap}{tk:Nat}{o:Obj}(I:Inv X pins σ H s)(hk:∀b u,b∉[s.heap.objs.size]->(s.heap.push o).get? b=some u->h'.get? b=some u):Inv X pins σ H {s with heap:=h',toks:=tk}:=by
 have I1:Inv X pins σ H {s with heap:=s.heap.push o,toks:=s.toks}:=I.kept fun b o e=>Fb _ e;refine Inv.turned (s:={s with heap:=s.heap.push o,toks:=s.toks}) (it:=s.heap.objs.size) I1 (fun b o hb e=>hk b o (by simpa using hb) e) (I.hok.fresh (AH _)) (Cm I.lt) (.inr (Heap.get?_none_of_le I.sz)) (fun x c e z=>?_) fun p hp z=>?_
 ·obtain⟨v,o,ho,_⟩:=I.cell x c e;rw[z] at ho;exact absurd (EL ho) (Bl _)
 ·have:=(I.pin p hp).1;rw[z] at this;exact absurd (EL this) (Bl _)
theorem jn(val:Nat->Int):∀k,argBest (fun i j=>decide (val i<val j)) k<=k/\∀j,j<=k->val (argBest (fun i j=>decide (val i<val j)) k)<=val j
 |0=>⟨AH _,fun j hj=>by have:j=0:=(by lia);subst this;exact CP _⟩
 |k+1=>by
  obtain⟨h1,h2⟩:=jn val k;show(if decide (val (k+1)<val (argBest _ k))=true then k+1 else argBest _ k)<=k+1/\∀j,j<=k+1->val (if decide (val (k+1)<val (argBest _ k))=true then k+1 else argBest _ k)<=val j;by_cases c:val (k+1)<val (argBest (fun i j=>decide (val i<val j)) k)
  ·rw[EF (EG c)];refine⟨AH _,fun j hj=>?_⟩;by_cases e:j=k+1
   ·subst e;exact CP _
   ·have:=h2 j (by lia);lia
  ·rw[EE (by rw[EH c];decide)];refine⟨by lia,fun j hj=>?_⟩;by_cases e:j=k+1
   ·subst e;lia
   ·exact h2 j (by lia)
def xE (K:W.Frag):List V->Hp->VK->Prop:=fun xs H Q=>∃(p:Addr)(ns:List Int),xs=[.ref p]/\SqT K H p (ns.map V.int)/\ns≠[]/\∀m,m∈ns->(∀n∈ns,m<=n)->Q (.int m) H
theorem oK(hc:X.calm=true):cq X (.builtin "min") (xE X.K):=by
 intro pins s σ H xs us Q I r h;obtain⟨p,ns,rfl,hq,hne,q⟩:=h;obtain⟨u,rfl,rx⟩:=dq r;cases rx;obtain⟨its,rv,pl,hz⟩:=I.tuple hq;have hl:=rv.length;rw[AI] at hl;have hh:X.A.in1.handled=none:=I.ok.hd hc;obtain⟨ob,ho,hcl,n0,hd⟩:=id pl;have hp:p<s.heap.objs.size:=EL ho;have it:s.heap.IsTuple p its.toArray:=pl;refine call_min_walk (wpAny_pyIter_tuple it ⟨s.heap.objs.size,_,_,_,_,_,fun i j=>decide (ns.getD i 0<ns.getD j 0),rfl,Walks.tuple hh s.heap.objs.size p (AR hp) _,⟨⟨_,Fc _ rfl,rfl,rfl⟩,it.push _⟩,?_,?_,CmpOf.ints_lt (fun i=>ns.getD i 0) fun i v hv=>GX rv (by rw[Cr] at hv;exact hv),fun v h' tk hv hk=>?_⟩)
 ·intro b hb;show b<(s.heap.push _).objs.size;rw[Fj];simp only[AN,Bt,or_false] at hb;rcases hb with e|e
  ·rw[e];exact BY _
  ·rw[e];exact BS hp
 ·rw[Bb];cases ns with
  |nil=>exact absurd rfl hne
  |cons _ _=>rw[<- hl];exact Dd _
 ·obtain⟨t,rfl⟩:=GX rv (by rw[Cr] at hv;exact hv);obtain⟨h1,h2⟩:=jn (fun i=>ns.getD i 0) (its.toArray.size-1);have hs:its.toArray.size=ns.length:=by rw[Bb,hl]
  have pos:0<ns.length:=by
   cases ns with
   |nil=>exact absurd rfl hne
   |cons _ _=>exact Dd _
  refine⟨.int _,H,I.Hk hk,⟨_,rfl⟩,q _ ?_ fun n hn=>?_⟩
  ·have hi:argBest (fun i j=>decide (ns.getD i 0<ns.getD j 0)) (its.toArray.size-1)<ns.length:=by lia
   rw[Ba,AL hi];exact Bq hi
  ·obtain⟨j,hj,rfl⟩:=Cf.mp hn;have:=h2 j (by lia);rw[Ba (i:=j),AL hj] at this;exact this
theorem iS(ns:List Int):∀k,k<=ns.length->preSum (fun i=>ns.getD i 0) k=(ns.take k).sum
 |0,_=>rfl
 |k+1,h=>by
  have hk:k<ns.length:=by lia
  show preSum (fun i=>ns.getD i 0) k+ns.getD k 0=_;rw[iS ns k (by lia),Bh,AL hk,Ba,AL hk,CC];show(ns.take k).sum+ns[k]=(ns.take k).sum+(ns[k]+0)
  lia
end
def xU (_ j:Int):Prop:=0<j/\j<1000000000000000000000000000000000
theorem qy{X:Cx}:OpR X (binaryOp .FloorDiv) (rI xU fun i j=>.int (i/j)):=opI fun i j _ _ _ _ _ hc q=>by
 have h1:(0:Int)<j:=hc.1;have h2:j<1000000000000000000000000000000000:=hc.2;refine floordiv_int (by lia) (by rw[Er i (by lia)];exact q) (.inl (PyProof.noPylong_of_log2 ?_));refine Be ((Nat.log2_lt (by lia)).mpr (show j.natAbs<2^111 by lia)) (by decide)
def Ite (K:W.Frag)(a:Addr):It:=
 ⟨fun i H=>∃xs x,SqL K H a xs/\xs[i]?=some x,fun i H v H'=>∃p x,H p=none/\v=.ref p/\H'=upd H p (.tup [.int i,x])/\∀xs,SqL K H a xs->xs[i]?=some x,fun i H=>∃xs,SqL K H a xs/\xs.length<=i⟩
theorem mW{P:Program}{w:World}{K:W.Frag}{elts:List Expr}{x1}{pos:Pos}(a e it:Addr)(hne:e≠it) :
  Turn P w K (.Tuple elts x1 pos) (Ite K a) [e,it] e (fun i h=>(∃old,IsEnum h e it ((i:Nat):Int) old)/\h.IsListIter it a i) where
 mem:=by simp
 obj:=fun i h st b hb=>by
  obtain⟨⟨old,s1⟩,s2⟩:=st;simp only[AN,Bt,or_false] at hb;rcases hb with rfl|rfl
  ·exact⟨_,s1,fun v z=>by cases z⟩
  ·obtain⟨o,e,c,d⟩:=s2;exact⟨o,e,fun v z=>by rw[d] at z;cases z⟩
 keep:=fun i h h' st k=>by
  obtain⟨⟨old,s1⟩,s2⟩:=st;exact⟨⟨old,k e (by simp) _ s1⟩,s2.at fun o z=>k it (by simp) o z⟩
 item:=by
  intro X hP hw hK hc i pins s σ H E I hf st hg;subst hP hw hK;obtain⟨⟨old,s1⟩,s2⟩:=st;obtain⟨xs,x,hq,hx⟩:=hg;obtain⟨its,rv,p,hz⟩:=I.list hq;obtain⟨u,hu,ru⟩:=rv.get hx;have fe:=hf e (by simp);have fi:=hf it (by simp);refine wpAny_pyNext_enum_item s1 s2 p.isList (x:=u) (by simpa using hu) hne fun h₁ heo hit₁ ht₁ hz₁ hk₁=>?_;refine⟨_,rfl,wpAny_letOwnedTupleGo_enum heo fun h₂ he₂ hs₂=>?_⟩;have he0:e<s.heap.objs.size:=EL s1;have kk:∀b o,b≠e->b≠it->s.heap.get? b=some o->h₂.get? b=some o:=fun b o b1 b2 q=>hs₂.extBut b o b1 (hk₁ b o b1 b2 q);have hit₂:=hit₁.extBut hs₂.extBut (EZ hne)
  have I1:Inv X pins σ H { s with heap:=h₂,toks:=s.toks+1 }:=I.JQ ⟨fun b o q n _=>kk b o (fun z=>n (z ▸ fe)) (fun z=>n (z ▸ fi)) q,fun b o q n=>⟨o.slots,kk b o (fun z=>n (z ▸ fe)) (fun z=>n (z ▸ fi)) q⟩,fun b o q=>by
   by_cases z1:b=e
   ·subst z1;exact⟨_,he₂⟩
   ·by_cases z2:b=it
    ·subst z2;obtain⟨oi,g,_⟩:=hit₂;exact⟨oi,g⟩
    ·exact⟨o,kk b o z1 z2 q⟩⟩
  have hn:=I.hok.fresh (AH s.heap.objs.size);have ht₂:h₂.get? s.heap.objs.size=some {cls:=.type "tuple",data:=.seq #[.int i s.toks,u]}:=(hs₂.2 _ (Cm he0)).trans ht₁;have I2:Inv X pins σ (upd H s.heap.objs.size (.tup [.int i,x])) {s with heap:=h₂,toks:=s.toks+1}:=I1.KP (I.Ju _ (AH _)) ⟨by show 2<=sizeLine;decide,[.int i s.toks,u],.cons ⟨_,rfl⟩ (.cons ru .nil),_,ht₂,rfl,_,rfl⟩;refine⟨.ref s.heap.objs.size,_,I2,rfl,⟨_,x,hn,rfl,rfl,fun ys hy=>by rw[I.IC hy hq];exact hx⟩,⟨⟨u,?_⟩,hit₂⟩,fun b hb=>?_⟩
  ·have z:((i+1:Nat):Int)=(i:Int)+1:=by lia
   rw[z];exact he₂
  ·have hb':b≠s.heap.objs.size:=by
    simp only[AN,Bt,or_false] at hb;rcases hb with rfl|rfl
    ·exact AR he0
    ·obtain⟨oi,g,_⟩:=s2;exact AR (EL g)
   rw[ai hb'];exact(hf b hb).1
 done:=by
  intro X hP hw hK hc i pins s σ H E I hf st hg;subst hP hw hK;obtain⟨⟨old,s1⟩,s2⟩:=st;obtain⟨xs,hq,hx⟩:=hg;obtain⟨its,rv,p,hz⟩:=I.list hq;obtain⟨f0,f1,f2,f3,f4,f5⟩:=hf it (by simp);have hl:=rv.length;exact wpAny_pyNext_enum_end (I.ok.hd hc) s1 s2 p.isList (by simp;lia) fun h' eb=>⟨rfl,I.turned (t':=s.toks) (fun b o hb e=>eb b o hb e) f0 f1 f3 f4 f5⟩
 self:=fun _ _ _ _ _ st h=>wpAny_pyIter_enum st.1.choose_spec h
section
variable {X:Cx}
theorem HH:bootBuiltins "enumerate"=some (.type "enumerate"):=by decide +kernel
def xp (K:W.Frag)(ta:TA):TI:=fun σ H R=>ta σ H fun vs H1=>∃a,vs=[.ref a]/\(∃xs,SqL K H1 a xs)/\R (Ite K a) H1
theorem ot{elts:List Expr}{x1}{tpos:Pos}{a:Expr}{ta:TA}{p pos:Pos}(hg:Gl X "enumerate")(hm:X.mg "enumerate"=none)(ha:PA X [a] ta)(hs:starEach [a] X.env=[(false,eval a X.env)]:=by rfl) :
  PI X (.Tuple elts x1 tpos) (.Call (.Name "enumerate" p) [a] [] pos) (xp X.K ta):=by
 intro pins s σ H R I h;refine Call_ (eF I hg hm HH (PyProof.Rows.callWith_type1 (thn (ha pos pins s σ H _ I h) fun us s1 hq62=>?_) hs rfl));obtain⟨vs,H1,I1,r1,q1⟩:=hq62;obtain⟨l,e,⟨xs,hq⟩,q⟩:=q1;subst e;obtain⟨u,rfl,ru⟩:=dq r1;cases ru;obtain⟨its,rv,pl,hz⟩:=I1.list hq;refine call_enumerate_list pl.isList fun h' he hit hsz hk=>?_;refine wpAny_pyIter_enum he ?_;have I2:Inv X pins σ H1 {s1 with heap:=h',toks:=s1.toks}:=I1.kept hk;refine⟨s1.heap.objs.size+1,[s1.heap.objs.size+1,s1.heap.objs.size],_,Ite X.K l,H1,rfl,I2,mW l _ _ (Nat.succ_ne_self _),⟨⟨_,he⟩,hit⟩,fun b hb=>?_,q⟩;simp only[AN,Bt,or_false] at hb;rcases hb with rfl|rfl
 ·exact I1.JA (BL _) (I1.hok.fresh (BL _))
 ·exact I1.JA (AH _) (I1.hok.fresh (AH _))
theorem wR{K:W.Frag}{a:Addr}{xs:List V}{k:Nat}{js:List Nat}{g:TG}{tc:TT}{te:TE}{σ:St}{H:Hp}{Q:VK}(P:Nat->List V->Hp->Prop)(h0:P 0 [] H)(hz:∀i ys H,i<=xs.length->P i ys H->ys.length<=i)(hn:xs.length<=sizeLine)
  (hl:∀i ys H,i<=xs.length->P i ys H->SqL K H a xs)
  (hs:∀i x ys H p,xs[i]?=some x->P i ys H->H p=none->g (.ref p) (List.replicate k none++bJ js σ) (upd H p (.tup [.int i,x])) fun σ2 H2=>tc σ2 H2 fun b H3=>if b=true then te σ2 H3 fun y H4=>Nx xs.length i P (ys++[y]) H4 else Nx xs.length i P ys H3)
  (hd:∀ys H,P xs.length ys H->∀p,H p=none->Q (.ref p) (upd H p (.lst ys))) :
  fh (Ite K a) k js g tc te σ H Q:=
 dv P h0 hz hn (fun i ys H hi p=>⟨xs,xs[i],hl i ys H (BA hi) p,by simp[hi]⟩) (fun ys H p=>⟨xs,hl _ ys H (AH _) p,AH _⟩)
  (fun i ys H v H' hi p y=>by obtain⟨q,x,hq,rfl,rfl,y⟩:=y;exact hs i x ys H q (y xs (hl i ys _ (BA hi) p)) p hq) hd
def Lz:V->List V->Hp->VK->Prop:=fun x vs H Q=>∃z y,x=.str z/\vs=[.str y]/\Q (.bl (Txt.endswith z y)) H
theorem Ke:MtR X "str.endswith" Lz:=by
 intro pins s σ H x vs v us Q I rx rv h;obtain⟨z,y,rfl,rfl,q⟩:=h;obtain⟨t,rfl⟩:=rx;obtain⟨u,rfl,t',rfl⟩:=rv.one;exact SC.endswith ⟨.bl _,H,I,rfl,q⟩
def Kj:V->List V->Hp->VK->Prop:=fun x vs H Q=>∃z y,x=.str z/\vs=[.str y]/\Q (.bl (Txt.startswith z y)) H
theorem Gq:MtR X "str.startswith" Kj:=by
 intro pins s σ H x vs v us Q I rx rv h;obtain⟨z,y,rfl,rfl,q⟩:=h;obtain⟨t,rfl⟩:=rx;obtain⟨u,rfl,t',rfl⟩:=rv.one;exact SC.startswith ⟨.bl _,H,I,rfl,q⟩
end
end L2
namespace L2
open PySem PySem.Spec PyProof.Rows
open PySem.SeqAt
open PySem.AutoSeq1 (wpAny_loadPart')
open PySem.MeetsSeq PySem.MeetsSeq2 PySem.MeetsSeq3
def lG (a c:Int)(ns ms:List Int):Bool:=if a=c then HT.lexLt ns ms else decide (a<c)
theorem Ga:∀ns:List Int,HT.lexLt ns ns=false
 |[]=>rfl
 |n::r=>by rw[HT.FR,EF rfl];exact Ga r
end L2
namespace L2
open PySem PySem.Spec PyProof.Rows
theorem dA{M:Model}{A:Around}{E:Value->Shared->Prop}{s:Shared}{pos:Pos}{id:String}{first:List Value}{args:List (Bool×Sem Value)}{keywords:List (Option Str×Sem Value)}{Q:Value->Shared->Prop}
  (hplain:(args.any (·.1)||keywords.any (·.1.isNone))=false)
  (h:wpAny M A (evalArgs (.builtin id) true args keywords) (fun a s₁=>wpAny M A (call (.builtin id) (first++a.pos) a.kw) Q E s₁) E s) :
  wpAny M A (callWith pos (.builtin id) first args keywords) Q E s:=by
 unfold callWith;refine EA (EJ (EI h (fun a s₁ h₁=>EA (wpAny_standAt ?_)) fun _ _ x=>x));simp only[hplain];refine EA (EB ?_);exact EA (EI h₁ (fun r s₂ hr=>EA (EJ (wpAny_point (EB hr)))) fun _ _ x=>x)
def kLt (a b:List Int):Bool:=lG a.length b.length a b
theorem HP:∀(ns ms:List Int),PyData.eqv (.list (ns.map PyData.int)) (.list (ms.map PyData.int))=decide (ns=ms):=by
 intro ns;induction ns with
 |nil=>intro ms;cases ms<;>rfl
 |cons n ns ih=>
  intro ms;cases ms with
  |nil=>rfl
  |cons m ms=>
   have h:=ih ms;show(PyData.eqv (.int n) (.int m)&&PyData.eqv (.list (ns.map PyData.int)) (.list (ms.map PyData.int)))=_;rw[h];show(decide (n=m)&&decide (ns=ms))=_;by_cases e:n=m<;>by_cases f:ns=ms<;>simp[e,f]
end L2
namespace L2
open PySem PySem.Spec PyProof.Rows SeqAt
theorem fk{K:W.Frag}{H:Hp}:∀ns:List Int,DatAll K H (ns.map V.int) (ns.map PyData.int)
 |[]=>.nil
 |n::r=>.cons (.int n) (fk r)
theorem GK:∀ns:List Int,PyData.canLayAll0 (ns.map PyData.int)=true
 |[]=>rfl
 |n::r=>by
  show((PyData.int n).canLay0&&PyData.canLayAll0 (r.map PyData.int))=true;rw[GK r];rfl
theorem eR(ns:List Int):(PyData.list (ns.map PyData.int)).canLay0=true:=GK ns
theorem depthAll_ints:∀ns:List Int,PyData.depthAll (ns.map PyData.int)<=1
 |[]=>by show 0<=1;decide
 |n::r=>by
  have h:=depthAll_ints r;show max (PyData.int n).depth (PyData.depthAll (r.map PyData.int))<=1;have e:(PyData.int n).depth=0:=rfl;lia
theorem mH(ns:List Int):(PyData.list (ns.map PyData.int)).depth<=2:=by
 have h:=depthAll_ints ns;have e:(PyData.list (ns.map PyData.int)).depth=PyData.depthAll (ns.map PyData.int)+1:=by simp[PyData.depth]
 lia
section
variable {X:Cx}{pins:List (Addr×Obj)}{σ:St}{H:Hp}{s:Shared}
theorem iJ{α:Type}(f:α->Addr):∀{xs:List α}{us:List Value},Vals (xs.map fun x=>V.ref (f x)) us->us=xs.map fun x=>Value.ref (f x)
 |[],_,.nil=>rfl
 |x::xs,_,.cons r t=>by cases r;rw[iJ f t];rfl
end
section
variable {X:Cx}{pins:List (Addr×Obj)}{σ:St}
theorem FY.turn{t':Nat}{H:Hp}{s:Shared}{it:Addr}{h':Heap}(f:FY X pins H it)(I:Inv X pins σ H s)(k:∀b o,b≠it->s.heap.get? b=some o->h'.get? b=some o):Inv X pins σ H {s with heap:=h',toks:=t'}:=
 I.turned k f.1 f.2.1 f.2.2.2.1 f.2.2.2.2.1 f.2.2.2.2.2
end
end L2
namespace L2
open PySem PySem.Spec PyProof.Rows
section
variable {X:Cx}
def xS (K:W.Frag):List V->Hp->VK->Prop:=fun xs H Q=>∃(p:Addr)(ns:List Int),xs=[.ref p]/\SqL K H p (ns.map V.int)/\ns≠[]/\∀m,m∈ns->(∀n∈ns,m<=n)->Q (.int m) H
theorem nK(hc:X.calm=true):cq X (.builtin "min") (xS X.K):=by
 intro pins s σ H xs us Q I r h;obtain⟨p,ns,rfl,hq,hne,q⟩:=h;obtain⟨u,rfl,rx⟩:=dq r;cases rx;obtain⟨its,rv,pl,hz⟩:=I.list hq;have hl:=rv.length;rw[AI] at hl;have hh:X.A.in1.handled=none:=I.ok.hd hc;obtain⟨ob,ho,hcl,n0,hd⟩:=id pl.isList;have hp:p<s.heap.objs.size:=EL ho;have it:s.heap.IsList p its.toArray:=pl.isList;refine call_min_walk (wpAny_pyIter_list it ⟨s.heap.objs.size,_,_,_,_,_,fun i j=>decide (ns.getD i 0<ns.getD j 0),rfl,Walks.list hh s.heap.objs.size p (AR hp) _,⟨⟨_,Fc _ rfl,rfl,rfl⟩,it.push _⟩,?_,?_,CmpOf.ints_lt (fun i=>ns.getD i 0) fun i v hv=>GX rv (by rw[Cr] at hv;exact hv),fun v h' tk hv hk=>?_⟩)
 ·intro b hb;show b<(s.heap.push _).objs.size;rw[Fj];simp only[AN,Bt,or_false] at hb;rcases hb with e|e
  ·rw[e];exact BY _
  ·rw[e];exact BS hp
 ·rw[Bb];cases ns with
  |nil=>exact absurd rfl hne
  |cons _ _=>rw[<- hl];exact Dd _
 ·obtain⟨t,rfl⟩:=GX rv (by rw[Cr] at hv;exact hv);obtain⟨h1,h2⟩:=jn (fun i=>ns.getD i 0) (its.toArray.size-1);have hs:its.toArray.size=ns.length:=by rw[Bb,hl]
  have pos:0<ns.length:=by
   cases ns with
   |nil=>exact absurd rfl hne
   |cons _ _=>exact Dd _
  refine⟨.int _,H,I.Hk hk,⟨_,rfl⟩,q _ ?_ fun n hn=>?_⟩
  ·have hi:argBest (fun i j=>decide (ns.getD i 0<ns.getD j 0)) (its.toArray.size-1)<ns.length:=by lia
   rw[Ba,AL hi];exact Bq hi
  ·obtain⟨j,hj,rfl⟩:=Cf.mp hn;have:=h2 j (by lia);rw[Ba (i:=j),AL hj] at this;exact this
def xP (K:W.Frag):List V->Hp->VK->Prop:=fun xs H Q=>∃(p:Addr)(ns:List Int),xs=[.ref p]/\SqL K H p (ns.map V.int)/\Q (.int ns.sum) H
theorem bX(hc:X.calm=true):cq X (.builtin "sum") (xP X.K):=by
 intro pins s σ H xs us Q I r h;obtain⟨p,ns,rfl,hq,q⟩:=h;obtain⟨u,rfl,rx⟩:=dq r;cases rx;obtain⟨its,rv,pl,hz⟩:=I.list hq;have hl:=rv.length;rw[AI] at hl;have hh:X.A.in1.handled=none:=I.ok.hd hc;obtain⟨ob,ho,hcl,n0,hd⟩:=id pl.isList;have hp:p<s.heap.objs.size:=EL ho;have it:s.heap.IsList p its.toArray:=pl.isList;refine call_sum_walkAnyS (wpAny_pyIter_list it ⟨s.heap.objs.size,_,_,_,_,_,_,fun i=>ns.getD i 0,rfl,(Walks.list hh s.heap.objs.size p (AR hp) _).toS,⟨⟨_,Fc _ rfl,rfl,rfl⟩,it.push _⟩,?_,fun i v hv=>GX rv (by rw[Cr] at hv;exact hv),fun s' t' hm=>?_⟩)
 ·intro b hb;show b<(s.heap.push _).objs.size;rw[Fj];simp only[AN,Bt,or_false] at hb;rcases hb with e|e
  ·rw[e];exact BY _
  ·rw[e];exact BS hp
 ·have e:preSum (fun i=>ns.getD i 0) its.toArray.size=ns.sum:=by
   rw[iS ns _ (by rw[Bb];lia),Bk (by rw[Bb];lia)]
  rw[e];obtain⟨hp1,g1,d1,o1,t1⟩:=hm;obtain⟨h',g',d',tk',os'⟩:=s';have eg:g'=s.gens:=g1;have ed:d'=s.drawn:=d1;have eo:os'=s.os:=o1;subst eg ed eo;exact⟨.int _,H,I.Hk (o:=_) hp1,⟨_,rfl⟩,q⟩
end
theorem nh(n:Nat):sliceRange ((n:Int)-1) (-1) (-1)=(List.range n).map fun k=>n-1-k:=by
 unfold sliceRange;simp only[show ¬((-1:Int)>0) by decide,if_false];have e:(if (n:Int)-1 > -1 then ((n:Int)-1 - -1 - -1-1)/(- -1) else 0).toNat=n:=by
  split
  ·have:((n:Int)-1 - -1 - -1-1)/(- -1)=n:=by
    rw[show(- -1:Int)=1 by decide,Int.ediv_one];lia
   rw[this];rfl
  ·have:n=0:=by lia
   subst this;rfl
 rw[e];apply Bz;intro k hk;have:=BC.mp hk;lia
theorem gN{α β:Type}{f g:α->Option β}:∀{l:List α},(∀x∈l,f x=g x)->l.filterMap f=l.filterMap g
 |[],_=>rfl
 |a::l,h=>by rw[CJ,CJ,h a (.head _),gN fun x hx=>h x (.tail _ hx)]
theorem qP{α:Type}(xs:List α):((List.range xs.length).map fun k=>xs.length-1-k).filterMap (fun j=>xs[j]?)=xs.reverse:=by
 have h:=iZ xs.reverse 0 xs.length (by simp);rw[CO,Bk (by simp)] at h;rw[<- h,DX,DX];apply gN;intro k hk;have hk':=BC.mp hk;show xs[xs.length-1-k]?=xs.reverse[0+k]?;rw[Cg,List.getElem?_reverse hk']
section
variable {X:Cx}
def RvR (X:Cx)(r:V->Hp->VK->Prop):Prop:=
 ∀(pins:List (Addr×Obj))(s:Shared)(σ:St)(H:Hp)(x:V)(v:Value)(t:Tok)(sl:Addr)(Q:VK),Inv X pins σ H s->RelV x v->s.heap.IsSliceOf sl .none .none (.int (-1) t)->r x H Q ->
  ∃T id,typeLookup (.type T) "__getitem__"=pure (some (.builtin id))/\s.TypeIs v T/\(wq X) (getItem v (.ref sl)) (EP X pins σ Q) X.xe s
def tRv (r:V->Hp->VK->Prop)(te ts:TE):TE:=fun σ H Q=>te σ H fun x H1=>ts σ H1 fun y H2=>y=.int (-1)/\r x H2 Q
theorem vQ{e st:Expr}{te ts:TE}{pos p2:Pos}{r:V->Hp->VK->Prop}(hr:RvR X r)(he:PE X e te)(hst:PE X st ts):PE X (.Subscript e (.Slice none none (some st) p2) pos) (tRv r te ts):=by
 intro pins s σ H Q I h;refine Subscript_ (thn (he pins s σ H _ I h) fun v s1 hq63=>?_);obtain⟨x,H1,I1,r1,q1⟩:=hq63;refine wpAny_Slice ?_;rw[evalPart_none];refine EB (EB ?_);rw[evalPart_some];refine thn (hst pins s1 σ H1 _ I1 q1) fun vs s3 hq64=>?_;obtain⟨y,H3,I3,ry,ey,q3⟩:=hq64;subst ey;obtain⟨t,rfl⟩:=ry;have I4:Inv X pins σ H3 {s3 with heap:=s3.heap.push {cls:=.type "slice",data:=.fields #[.none,.none,.int (-1) t]}}:=I3.kept (t':=s3.toks) fun b ob q=>Fb _ q;obtain⟨T,id,hT,ht,hg⟩:=hr pins {s3 with heap:=s3.heap.push {cls:=.type "slice",data:=.fields #[.none,.none,.int (-1) t]}} σ H3 x v t s3.heap.objs.size Q I4 r1 (Heap.IsSliceOf.new ..) q3;show (wq X) (subscriptTail e (.Slice none none (some st) p2) v (.ref s3.heap.objs.size)) (EP X pins σ Q) X.xe {s3 with heap:=s3.heap.push {cls:=.type "slice",data:=.fields #[.none,.none,.int (-1) t]}};exact tail_any (ops:=[v,.ref s3.heap.objs.size]) ht hT hg (by with_unfolding_all rfl)
def Txt.rev(z:Str):Str:=⟨z.cps.toList.reverse.toArray⟩
def rRvS:V->Hp->VK->Prop:=fun x H Q=>∃z,x=.str z/\z.length<=sizeLine/\Q (.str (Txt.rev z)) H
theorem Lb:RvR X rRvS:=by
 intro pins s σ H x v t sl Q I rx hs q;obtain⟨z,rfl,hz,q⟩:=q;obtain⟨t0,rfl⟩:=rx;refine⟨"str",_,PySem.F.slot_str_getitem.lookup,typeIs_str _ _ _,?_⟩;refine wpAny_getItem_str_slice (l:=none) (u:=none) (st:=some (-1,t)) hs rfl ?_;have e:sliceMade z t0 none none (some (-1,t))=.str (Txt.rev z):=by
  unfold sliceMade;rw[EE (by simp)]
  congr 1
  unfold Txt.rev slicePicked;show Str.mk ((sliceRange ((z.length:Int)-1) (-1) (-1)).filterMap (z.cps[·]?)).toArray=_;rw[nh]
  congr 1
  rw[show z.length=z.cps.toList.length from rfl,<- qP z.cps.toList]
  congr 1
  apply gN;intro k _;exact(BE ..).symm
 rw[e];refine⟨?_,⟨.str (Txt.rev z),H,I.tok _,⟨_,rfl⟩,q⟩⟩;show(Txt.rev z).cps.size<=sizeLine;unfold Txt.rev;rw[Bb,BM];exact hz
end
theorem jg{X:Cx}{o e:Expr}{es:List Expr}{to:TE}{t:TA}{name:Str}{apos cpos:Pos}{T id:String}{r:V->List V->Hp->VK->Prop}(K':W.Frag)(hK:X.K=K')(pa:PlainAttrs T)(slot:Slot T name id)(hty:typeOf (.builtin id)=pure (.type "method_descriptor"))(hm:MtR X id r)(ho:PE X o to)(ha:PA X (e::es) t)
  (hbase:attributeBase o name X.env (eval o X.env)=eval o X.env:=by rfl)
  (hfew:((backTo cpos (starEach (e::es) X.env)).all (fun x=>!x.1) && (backToKw cpos (keywordEach [] X.env)).all (fun x=>x.1.isSome)
   && decide ((e::es).length+([]:List Keyword).length+(if ([]:List Keyword).isEmpty then 0 else 1) < 30))=true:=by rfl)
  (hline:(apos.endLine==cpos.line)=true:=by rfl) (hs:starEach (e::es) X.env=(false,eval e X.env)::starEach es X.env:=by rfl) (hplain:(backTo cpos (starEach es X.env)).any (·.1)=false:=by rfl) :
  PE X (.Call (.Attribute o name apos) (e::es) [] cpos) (tBM K' T r to t):=by
 subst hK;exact lQ pa slot hty hm ho ha hbase hfew hline hs hplain
theorem dN{X:Cx}{pos:Pos}{es:List Expr}{k:Nat}{t:TGs}{n:Nat}(K':W.Frag)(hK:X.K=K')(hc:X.calm=true)(h:PGs X es t)
  (hn:(assignEach es X.env).length=n:=by rfl)(hst:(assignEach es X.env).findIdx? (·.1)=none:=by rfl):PG X (.Tuple es k pos) (yC K' n t):=by
 subst hK;exact dD hc h hn hst
section
variable {X:Cx}
theorem JJ:∀{us:List Value}{zs:List Str},StrsAre us zs->Vals (zs.map V.str) us
 |_,_,.nil=>.nil
 |_,_,.cons x t h=>.cons ⟨t,rfl⟩ (JJ h)
theorem GR:∀{l:List Str},sortedS l=true->l.Pairwise (fun a b=>¬b.cps.toList<a.cps.toList)
 |[],_=>.nil
 |x::r,h=>by
  have go:∀(p:Str)(l:List Str),risingS p l=true->(p::l).Pairwise (fun a b=>¬b.cps.toList<a.cps.toList):=by
   intro p l;induction l generalizing p with
   |nil=>intro _;exact DY _ _
   |cons y r ih=>
    intro h;have h':(!ltCps y.cps.toList p.cps.toList&&risingS y r)=true:=h;rw[Bx,Bool.not_eq_true',ltCps_eq,decide_eq_false_iff_not] at h';have i:=ih y h'.2;refine De.mpr ⟨fun b hb=>?_,i⟩;rcases AN.mp hb with rfl|hb
    ·exact h'.1
    ·have:=(De.mp i).1 b hb;intro hlt;have h1:p.cps.toList<=y.cps.toList:=h'.1;have h2:y.cps.toList<=b.cps.toList:=this;exact(List.le_trans h1 h2) hlt
  exact go x r h
theorem HE:∀{a b:List Str},a.Perm b->sortedS a=true->sortedS b=true->a=b:=by
 intro a b p ha hb;refine List.Perm.eq_of_pairwise (le:=fun a b=>¬b.cps.toList<a.cps.toList) (fun x y _ _ h1 h2=>?_) (GR ha) (GR hb) p;have e:x.cps.toList=y.cps.toList:=DZ h1 h2;obtain⟨x⟩:=x;obtain⟨y⟩:=y;rw[Str.mk.injEq];exact Array.toList_inj.mp e
end
section
variable {prog:Program}{w:World}{A:Around}{E:Value->Shared->Prop}{s:Shared}
theorem gJ{d:Addr}{od:Obj}{es:Array DictEntry}{ep:Nat}{Q:Value->Shared->Prop}(hs:(d==sysModules)=false)(hod:s.heap.get? d=some od)(hc:od.ExactDict)(hdd:od.data=.dict es ep)
  (hQ:Q (.ref s.heap.objs.size) {s with heap:=s.heap.push {cls:=.type "dict_keyiterator",data:=.fields #[.ref d,.int 0 0,.int es.size 0,.int ep 0]}}):wpAny (model prog w) A (pyIter (.ref d)) Q E s:=by
 have hT:s.TypeIs (.ref d) "dict":=⟨od,hod,hc.1⟩
 refine wpAny_pyIter_slot hT F.slot_dict_iter (Fi F.slot_dict_iter hT F.entry_dict_iter ?_ (F.args_dict_iter_1 _));unfold Builtin.«dict.__iter__»;refine EA ?_;unfold Builtin.Dict.dictSlotNone;refine EA (wpAny_notOrdered_dict hT ?_);show wpAny _ _ (pure (Value.ref d)) _ _ s;refine EB ?_;show wpAny _ _ (Builtin.Dict.showsAll d >>= _) _ _ s;unfold Builtin.Dict.showsAll;rw[EE (by rw[hs];decide)];refine EA (EB (EA (wpAny_dictEntries hod hdd (EA (wpAny_dictEpoch hod hdd ?_)))));refine EA (wpAny_newObj_type (EB ⟨_,rfl,"dict_keyiterator",_,⟨_,Fc _ rfl,rfl⟩,F.slot_dict_keyiterator_next.lookup,by simpa [rawInt] using hQ⟩))
theorem kq{it d:Addr}{i ep:Nat}{od:Obj}{es:Array DictEntry}{Q:Option Value->Shared->Prop}(hit:s.heap.IsKeyIter it d i es.size ep)(hod:s.heap.get? d=some od)(hdd:od.data=.dict es ep)(hlt:i<es.size)
  (hQ:∀h',h'.IsKeyIter it d (i+1) es.size ep->Heap.SameBut it s.heap h'->Q (some es[i].key) {s with heap:=h'}):wpAny (model prog w) A (pyNext (.ref it)) Q E s:=by
 obtain⟨o,ho,hc,hd⟩:=id hit;unfold pyNext;refine EA (Fh (wpAny_callSpecial?_slot (name:=Str.ofString "__next__") hit.typeIs F.slot_dict_keyiterator_next (Fi F.slot_dict_keyiterator_next hit.typeIs F.entry_dict_keyiterator_next ?_ (F.args_dict_keyiterator_next_1 _))));refine EA (EB (EA (EA ?_)));(first|refine EA (wpAny_typeNameOfWhole_keyiter hit.typeIs (EB ?_))|refine EA (wpAny_typeNameOf_keyiter hit.typeIs (EB ?_)));refine EA (wpAny_fieldsOf ho hd ?_);have hown:Builtin.Dict_items.ownsTuple "dict_keyiterator"=false:=by decide
 simp only[hown,BF,if_false];show wpAny _ _ (if (Value.ref d==Value.none)=true then _ else _) _ _ s;rw[EE (show ¬((Value.ref d==Value.none)=true) by intro z;cases z)];refine EA (EB (EA (wpAny_dictEntries hod hdd ?_)));rw[EE (by simp)];refine EA (EB (EA (wpAny_dictEpoch hod hdd ?_)));rw[EE (by simp)];refine EB ?_;simp only[show ¬((i:Int)<0) by lia,if_false,Bu,BV hlt];refine EA ?_
 (first|refine EA (wpAny_typeNameOfWhole_keyiter hit.typeIs (EB ?_))|refine EA (wpAny_typeNameOf_keyiter hit.typeIs (EB ?_)));refine EA (wpAny_isOneOf_keyiter hit.typeIs ?_)
 show wpAny _ _ (setField (.ref it) 1 (rawInt ((i:Int)+1)) >>= _) _ _ s;refine EA (wpAny_setField ho hd (by simp) ?_);have hit2:(s.heap.update it (Obj.mapFields (·.setIfInBounds 1 (rawInt ((i:Int)+1))))).IsKeyIter it d (i+1) es.size ep:=⟨_,Heap.get?_update_self _ ho (Obj.isFreed_of_fields (Obj.data_mapFields hd _)),(Obj.cls_mapFields ..).trans hc,by rw[Obj.data_mapFields hd];simp[rawInt]⟩
 refine EA (EJ (EA (wpAny_isOneOf_keyiter (s:={s with heap:=s.heap.update it (Obj.mapFields (·.setIfInBounds 1 (rawInt ((i:Int)+1))))}) hit2.typeIs ?_)));show wpAny _ _ (pure es[i].key) _ _ _;exact EB (EB ⟨_,rfl,EB (hQ _ hit2 (Heap.SameBut.update ..))⟩)
theorem mP{it d:Addr}{i ep:Nat}{od:Obj}{es:Array DictEntry}{Q:Option Value->Shared->Prop}(hh:A.handled=none)(hit:s.heap.IsKeyIter it d i es.size ep)(hod:s.heap.get? d=some od)(hdd:od.data=.dict es ep)(hge:es.size<=i)
  (hQ:∀h',Heap.ExtBut it s.heap h'->Q none {s with heap:=h'}):wpAny (model prog w) A (pyNext (.ref it)) Q E s:=by
 obtain⟨o,ho,hc,hd⟩:=id hit;unfold pyNext;refine EA (Fh (wpAny_callSpecial?_slot (name:=Str.ofString "__next__") hit.typeIs F.slot_dict_keyiterator_next (Fi F.slot_dict_keyiterator_next hit.typeIs F.entry_dict_keyiterator_next ?_ (F.args_dict_keyiterator_next_1 _))));refine EA (EB (EA (EA ?_)));(first|refine EA (wpAny_typeNameOfWhole_keyiter hit.typeIs (EB ?_))|refine EA (wpAny_typeNameOf_keyiter hit.typeIs (EB ?_)));refine EA (wpAny_fieldsOf ho hd ?_);have hown:Builtin.Dict_items.ownsTuple "dict_keyiterator"=false:=by decide
 simp only[hown,BF,if_false];show wpAny _ _ (if (Value.ref d==Value.none)=true then _ else _) _ _ s;rw[EE (show ¬((Value.ref d==Value.none)=true) by intro z;cases z)];refine EA (EB (EA (wpAny_dictEntries hod hdd ?_)));rw[EE (by simp)];refine EA (EB (EA (wpAny_dictEpoch hod hdd ?_)));rw[EE (by simp)];refine EB ?_;simp only[show ¬((i:Int)<0) by lia,if_false,Bu,CQ hge];refine EA ?_
 (first|refine EA (wpAny_typeNameOfWhole_keyiter hit.typeIs (EB ?_))|refine EA (wpAny_typeNameOf_keyiter hit.typeIs (EB ?_)));show wpAny _ _ (setField (.ref it) 0 .none >>= _) _ _ s
 refine EA (wpAny_setField ho hd (by simp) ?_);show wpAny _ _ (newExc (.type "StopIteration") [] >>= _) _ _ _;refine EA ?_;simp only[newExc,newTuple];refine EA (wpAny_newObj_type ?_ (by size_fits));refine EA (m:=firstArgMember _ _) (wpAny_of_eq (a:=Value.none) (by first|rfl|(simp only[firstArgMember];rfl)) ?_);refine wpAny_newObj_type ?_ (by size_fits);simp only[raiseNew];refine EA (wpAny_handled ?_);rw[show A.in1.handled=none from hh];refine EA (EB (wpAny_throw ?_));refine EA (wpAny_isInstance (T:="StopIteration") (b:=true) ⟨_,Fc _ rfl,rfl⟩ isSubtype_stop ?_);exact EB (hQ _ (((Heap.SameBut.update ..).extBut.push _).push _))
end
section
variable {X:Cx}{pins:List (Addr×Obj)}{σ:St}{H:Hp}{s:Shared}
theorem Inv.freeze{a:Addr}{u:HO}{o:Obj}(I:Inv X pins σ H s)(e:H a=some u)(ho:s.heap.get? a=some o)(nt:∀xs,u≠.tup xs)(nf:∀o' u',u≠.frz o' u')(nb:∀ps,u≠.tbl ps)(no:∀x,u≠.own x):Inv X pins σ (upd H a (.frz o u)) s:=by
 have tu:∀b xs,H b=some (.tup xs)->upd H a (.frz o u) b=some (.tup xs):=fun b xs q=>by
  rw[ai (fun z=>by rw[z,e] at q;exact nt xs (EM q))];exact q
 have ow:∀b x,H b=some (.own x)->upd H a (.frz o u) b=some (.own x):=fun b x q=>by
  rw[ai (fun z=>by rw[z,e] at q;exact no x (EM q))];exact q
 refine I.un (h':=s.heap) (t':=s.toks) ⟨fun b ob q _ _ _=>q,fun b ob q _ _ _=>⟨ob.slots,q⟩,fun b ob _ n _=>?_,fun b ob q _=>⟨ob,q⟩,tu,fun b ob uu q=>?_,fun b ps q=>⟨#[],?_⟩⟩ fun b ub q=>?_
 ·rw[ai (fun z=>by rw[z,e] at n;cases n)];exact n
 ·rw[ai (fun z=>by rw[z,e] at q;exact nf ob uu (EM q))];exact q
 ·rw[ai (fun z=>by rw[z,e] at q;exact nb ps (EM q)),q];simp
 ·by_cases hb:b=a
  ·subst hb;rw[ae] at q;cases q;exact⟨ho,(I.hok b u e).IM (fun _ _ _ q=>q) (fun c q=>ow c _ q) tu⟩
  ·rw[ai hb] at q;exact(I.hok b ub q).IM (fun _ _ _ q=>q) (fun c q=>ow c _ q) tu
end
theorem KT.at{H:Hp}:∀{kvs:List (List Key×V)}{xs:List (List Key×Addr×Value)}{i:Nat}{p:List Key×V},KT H kvs xs->kvs[i]?=some p->∃q,xs[i]?=some q/\p.1=q.1/\H q.2.1=some (.tup (p.1.map kV))/\RelV p.2 q.2.2
 |_,_,_,_,.nil,h=>by simp at h
 |_,_,0,_,.cons r _,h=>by simp at h;subst h;exact⟨_,rfl,r⟩
 |_,_,i+1,p,.cons _ t,h=>by
  obtain⟨q,e,r⟩:=KT.at (i:=i) (p:=p) t (by simpa using h);exact⟨q,by simpa using e,r⟩
section
variable {prog:Program}{w:World}{A:Around}{R:Result->Shared->Prop}{s:Shared}{elt tg0 iter0 tg1 iter1:Expr}{ifs0 ifs1:List Expr}{scope:Scope}{pos:Pos}{it acc:Value}{env:Env}
abbrev cn(elt tg0 iter0 tg1 iter1:Expr)(ifs0 ifs1:List Expr)(scope:Scope)(pos:Pos):Expr:=.ListComp elt [⟨tg0,iter0,ifs0,0⟩,⟨tg1,iter1,ifs1,0⟩] scope pos
theorem HQ:compTurn (cn elt tg0 iter0 tg1 iter1 ifs0 ifs1 scope pos) 1 it acc env=(do
   standAt iter1.pos
   match <- pyNext it with
   |none=>pure (.done .next)
   |some v=>
    letOwnedTupleGo tg1 it v
    assign tg1 env v
    let mut ok:=true
    for c in ifs1 do
     if ok then ok <- isTrue c env (eval c env)
    if ok then
     (do let _ <- call (.builtin "list.append") [acc,<- eval elt env])
    again (.compLoop (cn elt tg0 iter0 tg1 iter1 ifs0 ifs1 scope pos) 1 it acc env)):=by rfl
theorem Hy:compTurn (cn elt tg0 iter0 tg1 iter1 ifs0 ifs1 scope pos) 0 it acc env=(do
   standAt iter0.pos
   match <- pyNext it with
   |none=>pure (.done .next)
   |some v=>
    letOwnedTupleGo tg0 it v
    assign tg0 env v
    let mut ok:=true
    for c in ifs0 do
     if ok then ok <- isTrue c env (eval c env)
    if ok then
     let x <- eval iter1 env
     standAt iter1.pos
     let x <- foldedSetIterable iter1 env x
     let _ <- runOwn (.compStart (cn elt tg0 iter0 tg1 iter1 ifs0 ifs1 scope pos) 1 (<- holding [x] (pyIter x)) acc env) env
    again (.compLoop (cn elt tg0 iter0 tg1 iter1 ifs0 ifs1 scope pos) 0 it acc env)):=by rfl
theorem ui(I:Nat->Shared->Prop)
  (turn:∀n s,I n s->wpAny (model prog w) A (pyNext it) (fun r s₁=>match r with
   |none=>R (.ok .next) s₁
   | some v=>wpAny (model prog w) A (letOwnedTupleGo tg1 it v) (fun _ s₁'=>wpAny (model prog w) A (assign tg1 env v) (fun _ s₂ =>
     wpAny (model prog w) A (forIn ifs1 true fun c r=>if r=true then do let ok <- isTrue c env (eval c env); pure (ForInStep.yield ok) else pure (ForInStep.yield r)) (fun ok s₃ =>
      if ok=true then wpAny (model prog w) A (eval elt env) (fun x s₄ =>
       wpAny (model prog w) A (call (.builtin "list.append") [acc,x]) (fun _ s₅=>∃m,m < n/\I m s₅) (fun _ _=>False) s₄) (fun _ _=>False) s₃
      else ∃m,m < n/\I m s₃) (fun _ _=>False) s₂) (fun _ _=>False) s₁') (fun _ _=>False) s₁) (fun _ _=>False) s)
  (n:Nat) (h:I n s):codeAny (model prog w) A (.compLoop (cn elt tg0 iter0 tg1 iter1 ifs0 ifs1 scope pos) 1 it acc env) R s:=by
 refine codeAny_loop rfl I (fun n s hI=>?_) n h;show wpAny _ A ((compTurn (cn elt tg0 iter0 tg1 iter1 ifs0 ifs1 scope pos) 1 it acc env).onRaise (fun x=>do noteFrame x env;theTreesLotGoes x)) _ _ s;refine wpAny_noted ?_;rw[HQ];refine EA (wpAny_standAt (EA (EI (turn n s hI) (fun r s₁ h₁=>?_) fun _ _ h'=>h'.elim)));cases r with
 |none=>exact EB h₁
 |some v=>
  refine EA (EI h₁ (fun _ s₁' h₁'=>?_) fun _ _ h'=>h'.elim);refine EA (EI h₁' (fun _ s₂ h₂=>EA (EI h₂ (fun ok s₃ h₃=>?_) fun _ _ h'=>h'.elim)) fun _ _ h'=>h'.elim);cases ok with
  |false=>exact EB ⟨rfl,h₃⟩
  |true=>
   exact EA (EA (EI h₃ (fun x s₄ h₄=>EA (EI h₄ (fun _ s₅ h₅=>EB (EB ⟨rfl,h₅⟩)) fun _ _ h'=>h'.elim)) fun _ _ h'=>h'.elim))
theorem rT(hs:∀x,foldedSetIterable iter1 env x=pure x)(I:Nat->Shared->Prop)
  (turn:∀n s,I n s->wpAny (model prog w) A (pyNext it) (fun r s₁=>match r with
   |none=>R (.ok .next) s₁
   | some v=>wpAny (model prog w) A (letOwnedTupleGo tg0 it v) (fun _ s₁'=>wpAny (model prog w) A (assign tg0 env v) (fun _ s₂ =>
     wpAny (model prog w) A (forIn ifs0 true fun c r=>if r=true then do let ok <- isTrue c env (eval c env); pure (ForInStep.yield ok) else pure (ForInStep.yield r)) (fun ok s₃ =>
      if ok=true then wpAny (model prog w) A (eval iter1 env) (fun x s₄ =>
       wpAny (model prog w) A (pyIter x) (fun itv s₅=>codeAny (model prog w) A (.compStart (cn elt tg0 iter0 tg1 iter1 ifs0 ifs1 scope pos) 1 itv acc env) (fun r s₆=>r=.ok .next/\∃m,m < n/\I m s₆) s₅) (fun _ _=>False) s₄) (fun _ _=>False) s₃
      else ∃m,m < n/\I m s₃) (fun _ _=>False) s₂) (fun _ _=>False) s₁') (fun _ _=>False) s₁) (fun _ _=>False) s)
  (n:Nat) (h:I n s):codeAny (model prog w) A (.compLoop (cn elt tg0 iter0 tg1 iter1 ifs0 ifs1 scope pos) 0 it acc env) R s:=by
 refine codeAny_loop rfl I (fun n s hI=>?_) n h;show wpAny _ A ((compTurn (cn elt tg0 iter0 tg1 iter1 ifs0 ifs1 scope pos) 0 it acc env).onRaise (fun x=>do noteFrame x env;theTreesLotGoes x)) _ _ s;refine wpAny_noted ?_;rw[Hy];refine EA (wpAny_standAt (EA (EI (turn n s hI) (fun r s₁ h₁=>?_) fun _ _ h'=>h'.elim)));cases r with
 |none=>exact EB h₁
 |some v=>
  refine EA (EI h₁ (fun _ s₁' h₁'=>?_) fun _ _ h'=>h'.elim);refine EA (EI h₁' (fun _ s₂ h₂=>EA (EI h₂ (fun ok s₃ h₃=>?_) fun _ _ h'=>h'.elim)) fun _ _ h'=>h'.elim);cases ok with
  |false=>exact EB ⟨rfl,h₃⟩
  |true=>
   refine EA (EI h₃ (fun x s₄ h₄=>EA (wpAny_standAt ?_)) fun _ _ h'=>h'.elim);rw[hs];refine EA (EB (EA (EJ (EI h₄ (fun itv s₅ h₅=>?_) fun _ _ h'=>h'.elim))));refine EA (wpAny_runOwn (codeAny_mono h₅ fun r s₆ h₆=>?_));obtain⟨rfl,h7⟩:=h₆;exact EB ⟨rfl,h7⟩
theorem rg(h0:codeAny (model prog w) A (.compLoop (cn elt tg0 iter0 tg1 iter1 ifs0 ifs1 scope pos) 1 it acc env) R s)
  (h:wpAny (model prog w) A (pyIter it) (fun it' s'=>codeAny (model prog w) A (.compLoop (cn elt tg0 iter0 tg1 iter1 ifs0 ifs1 scope pos) 1 it' acc env) R s')
   (notedBy (model prog w) A env fun x s'=>R (.error x) s') s) :
  codeAny (model prog w) A (.compStart (cn elt tg0 iter0 tg1 iter1 ifs0 ifs1 scope pos) 1 it acc env) R s:=by
 refine codeAny_of_tree ?_;show wpAny _ _ ((compStart (cn elt tg0 iter0 tg1 iter1 ifs0 ifs1 scope pos) 1 it acc env).onRaise (fun x=>do noteFrame x env;standAt theWindowsPlace)) _ _ s;refine wpAny_notedAt ?_;unfold compStart;show wpAny _ _ (ask >>= _) _ _ s;refine EA (wpAny_askSetting (wpAny_ite ?_));split
 ·first
   |exact EA (EB (EB (And.intro rfl h0)))
   |exact EB (And.intro rfl h0)
 ·first
   |exact EA (Fk (EA (wpAny_standAt (EA (EI h (fun it' s' h'=>EB (And.intro rfl h')) fun _ _ x=>x)))))
   |(refine EA (Fk ?_);show wpAny _ _ (standAt iter1.pos >>= _) _ _ s;exact EA (wpAny_standAt (EA (EI h (fun it' s' h'=>EB (And.intro rfl h')) fun _ _ x=>x))))
end
def jQ (J:It)(g:TG)(tc:TT)(te:TE)(σ:St)(H:Hp)(ys:List V)(Q:List V->Hp->Prop):Prop:=
 ∃W:Nat->Nat->St->List V->Hp->Prop,(∃m,W 0 m σ ys H)/\∀j m σ ys H,W j m σ ys H ->
  (J.stop j H/\ys.length<=sizeLine/\Q ys H) \/
  (J.go j H/\ys.length<sizeLine/\∀x H',J.yld j H x H'->g x σ H' fun σ2 H2=>tc σ2 H2 fun b H3=>if b=true then te σ2 H3 fun y H4=>∃m',m'<m/\W (j+1) m' σ2 (ys++[y]) H4 else ∃m',m'<m/\W (j+1) m' σ2 ys H3)
def oF (J:It)(k:Nat)(js:List Nat)(g:TG)(tc:TT)(wi1:TI)(g1:TG)(tc1:TT)(te:TE)(σ:St)(H1:Hp)(Q:VK):Prop:=
 ∃W:Nat->Nat->List V->Hp->Prop,(∃m,W 0 m [] H1)/\∀i m ys H,W i m ys H ->
  (J.stop i H/\ys.length<=sizeLine/\∀p,H p=none->Q (.ref p) (upd H p (.lst ys))) \/
  (J.go i H/\∀x H',J.yld i H x H'->g x (List.replicate k none++bJ js σ) H' fun σ2 H2=>tc σ2 H2 fun b H3 =>
   if b=true then wi1 σ2 H3 fun J1 H4=>jQ J1 g1 tc1 te σ2 H4 ys fun ys' H5=>∃m',m' < m/\W (i+1) m' ys' H5 else ∃m',m' < m/\W (i+1) m' ys H3)
def wN (wi:TI)(k:Nat)(js:List Nat)(g:TG)(tc:TT)(wi1:TI)(g1:TG)(tc1:TT)(te:TE):TE:=fun σ H Q=>wi σ H fun J H1=>oF J k js g tc wi1 g1 tc1 te σ H1 Q
section
variable {X:Cx}{scope:Scope}{ts cap:List Str}{js:List Nat}{elt tg0 iter0 tg1 iter1:Expr}{ifs0 ifs1:List Expr}{pos:Pos}
theorem mB{s0:Shared}{H0:Hp}{C:Addr}{fp:List Addr}{P:List (Addr×Obj)}{D:Addr}{its0:List Value}{n0:Nat}{ys0:List V}{σ:St}{H:Hp}{s:Shared}{J:It}{fp1:List Addr}{it1:Addr}{tn1:Nat->Heap->Prop}{g1:TG}{tc1:TT}{te:TE}{Q:List V->Hp->Prop}{R:Result->Shared->Prop}
  (hc:X.calm=true)(I:Inv (au X scope C fp (ts++cap) s0 H0) ([(D,cD its0 n0)]++P) σ H s)(v0:Vals ys0 its0)(T:Turn X.prog X.w X.K tg1 J fp1 it1 tn1)(st:tn1 0 s.heap)(hf:∀b∈fp1,FY (au X scope C fp (ts++cap) s0 H0) ([(D,cD its0 n0)]++P) H b)
  (hD0:D∈(au X scope C fp (ts++cap) s0 H0).ex\/s0.heap.get? D=none)(hDc:∀x c,(au X scope C fp (ts++cap) s0 H0).env.cells.lookup x=some c->c≠D)(hDp:∀p∈X.pn++P,p.1≠D)
  (hg:PG (au X scope C fp (ts++cap) s0 H0) tg1 g1)(ht:PTs (au X scope C fp (ts++cap) s0 H0) ifs1 tc1)(he:PE (au X scope C fp (ts++cap) s0 H0) elt te)
  (cv:jQ J g1 tc1 te σ H ys0 Q)
  (hR:∀σ' ys its n H' s',Inv (au X scope C fp (ts++cap) s0 H0) ([(D,cD its n)]++P) σ' H' s'->Vals ys its->Q ys H'->R (.ok .next) s') :
  codeAny (model X.prog X.w) X.A (.compStart (cn elt tg0 iter0 tg1 iter1 ifs0 ifs1 scope pos) 1 (.ref it1) (.ref D) (compEnvC scope (cU X.env.cells scope.names []) C X.env)) R s:=by
 obtain⟨W,⟨m0,w0⟩,turn⟩:=cv;have stat:∀{H':Hp}{its:List Value}{n:Nat},(∀b∈fp1,H' b=none)->∀b∈fp1,FY (au X scope C fp (ts++cap) s0 H0) ([(D,cD its n)]++P) H' b:=fun {H' its n} hn b hb=>by
  obtain⟨f0,f1,f2,f3,f4,f5⟩:=hf b hb;refine⟨hn b hb,f1,f2,f3,f4,fun p hp=>?_⟩;rcases AO.mp hp with z|z
  ·exact f5 p (Bo _ z)
  ·rcases AO.mp z with z|z
   ·have e:p=(D,cD its n):=by simpa using z
    subst e;exact f5 (D,cD its0 n0) (AV _ (Bo _ AS))
   ·exact f5 p (AV _ (AV _ z))
 have nfp:∀b∈fp1,b≠D:=fun b hb=>by
  obtain⟨f0,f1,f2,f3,f4,f5⟩:=hf b hb;exact EZ (f5 (D,cD its0 n0) (AV _ (Bo _ AS)))
 have loop:∀s3:Shared,s3=s->codeAny (model X.prog X.w) X.A (.compLoop (cn elt tg0 iter0 tg1 iter1 ifs0 ifs1 scope pos) 1 (.ref it1) (.ref D) (compEnvC scope (cU X.env.cells scope.names []) C X.env)) R s3:=by
  rintro s3 rfl;refine ui (fun k s'=>∃j σ' H' ys its n,Inv (au X scope C fp (ts++cap) s0 H0) ([(D,cD its n)]++P) σ' H' s'/\Vals ys its/\tn1 j s'.heap/\(∀b∈fp1,H' b=none)/\W j k σ' ys H') ?_ m0
   ⟨0,σ,H,ys0,its0,n0,I,v0,st,fun b hb=>(hf b hb).1,w0⟩
  rintro k s3 ⟨j,σ3,H3,ys,its,n,I3,v3,st3,fr3,w3⟩;rcases turn j k σ3 ys H3 w3 with ⟨stop,hz,fin⟩|⟨go,hz,step⟩
  ·refine thn (T.done (au X scope C fp (ts++cap) s0 H0) rfl rfl rfl hc j _ s3 _ H3 _ I3 (stat fr3) st3 stop) fun r s4 hq65=>?_;obtain⟨hr,I4⟩:=hq65;subst hr;exact hR _ _ _ _ _ _ I4 v3 fin
  ·refine thn (T.item (au X scope C fp (ts++cap) s0 H0) rfl rfl rfl hc j _ s3 _ H3 _ I3 (stat fr3) st3 go) fun r s4 hq66=>?_;obtain⟨u,hr,h4⟩:=hq66;subst hr;refine thn h4 fun _ s5 hq67=>?_;obtain⟨x,H5,I5,r5,y5,st5,fr5⟩:=hq67;have I5':=I5.pinned (stat fr5) (T.obj _ _ st5);refine thn (hg _ s5 _ H5 x u _ I5' r5 (step x H5 y5)) fun _ s6 hq68=>?_;obtain⟨σ6,H6,I6,q6⟩:=hq68;refine thn (ht _ s6 σ6 H6 _ I6 q6) fun ok s7 hq69=>?_;obtain⟨H7,I7,q7⟩:=hq69;have pinned:∀{σ':St}{H':Hp}{s':Shared},Inv (au X scope C fp (ts++cap) s0 H0) ([(D,cD its n)]++P++cH fp1 s5.heap) σ' H' s'->tn1 (j+1) s'.heap/\∀b∈fp1,H' b=none:=fun {σ' H' s'} J'=>by
    refine⟨T.keep _ _ _ st5 fun b hb o e=>(J'.pin (b,o) (AV _ (AV _ (aQ hb e)))).1,fun b hb=>?_⟩;obtain⟨o,e,d⟩:=T.obj _ _ st5 b hb;exact(J'.pin (b,o) (AV _ (AV _ (aQ hb e)))).2.1
   cases ok with
   |false=>
    rw[EE Bm] at q7 ⊢;obtain⟨m',hm,w7⟩:=q7;obtain⟨st7,fr7⟩:=pinned I7;exact⟨m',hm,j+1,σ6,H7,ys,its,n,I7.FC,v3,st7,fr7,w7⟩
   |true=>
    rw[EF rfl] at q7 ⊢;refine thn (he _ s7 σ6 H7 _ I7 q7) fun yv s8 hq70=>?_;obtain⟨y,H8,I8,r8,m',hm,w8⟩:=hq70;obtain⟨st8,fr8⟩:=pinned I8;have I8':=I8.FC;obtain⟨hDg,hDn,hDC',hDs,hDd⟩:=I8'.pin (D,cD its n) (AV _ (Bo _ AS));have hl:=v3.length;refine append_at (hsz:=by rw[Bb];lia) hDg fun h9 hs9 hD9=>?_;have tracked:∀b o,b≠D->s8.heap.get? b=some o->h9.get? b=some o:=fun b o hb e=>hs9.extBut b o hb e;have I9:Inv (au X scope C fp (ts++cap) s0 H0) ([(D,cD (its++[yv]) (n+1))]++P) σ6 H8 {s8 with heap:=h9}:=by
     have J0:Inv (au X scope C fp (ts++cap) s0 H0) P σ6 H8 s8:=I8'.Ge (fun p hp=>I8'.pin p (AV _ (AV _ hp)));have J1:Inv (au X scope C fp (ts++cap) s0 H0) P σ6 H8 {s8 with heap:=h9,toks:=s8.toks}:=J0.turned (it:=D) tracked hDn hDC' hD0 hDc hDp;refine J1.Ge fun p hp=>?_;rcases AO.mp hp with z|z
     ·have e:p=(D,cD (its++[yv]) (n+1)):=by simpa using z
      subst e;refine⟨?_,hDn,hDC',hDs,fun v z=>by cases z⟩;show h9.get? D=_;rw[hD9];simp[cD,List.push_toArray]
     ·exact J1.pin p (AV _ z)
    have st9:tn1 (j+1) h9:=T.keep _ _ _ st8 fun b hb o e=>tracked b o (nfp b hb) e;exact⟨m',hm,j+1,σ6,H8,ys++[y],its++[yv],n+1,I9,v3.append (.cons r8 .nil),st9,fr8,w8⟩
 exact rg (loop _ rfl) (T.self _ _ _ _ _ st (loop _ rfl))
theorem jq{pins:List (Addr×Obj)}{σ:St}{H:Hp}{s:Shared}{fp:List Addr}{g:TG}{tc:TT}{wi1:TI}{g1:TG}{tc1:TT}{te:TE}{J:It}{it:Addr}{tn:Nat->Heap->Prop}{W:Nat->Nat->List V->Hp->Prop}{m0:Nat}{E:Value->Shared->Prop}
  {RR:Value->Addr->Result->Shared->Prop}{Fin:List V->Hp->Prop}(hc:X.calm=true)
  (I:Inv X pins σ H s)(T:Turn X.prog X.w X.K tg0 J fp it tn)(st:tn 0 s.heap)(hf:∀b∈fp,FY X pins H b)(CS:Fu X scope ts cap js)
  (hg:∀C fp s H,PG (au X scope C fp (ts++cap) s H) tg0 g)(ht:∀C fp s H,PTs (au X scope C fp (ts++cap) s H) ifs0 tc)(hi1:∀C fp s H,PI (au X scope C fp (ts++cap) s H) tg1 iter1 wi1)
  (hg1:∀C fp s H,PG (au X scope C fp (ts++cap) s H) tg1 g1)(ht1:∀C fp s H,PTs (au X scope C fp (ts++cap) s H) ifs1 tc1)(he:∀C fp s H,PE (au X scope C fp (ts++cap) s H) elt te)
  (hs1:∀C x,foldedSetIterable iter1 (compEnvC scope (cU X.env.cells scope.names []) C X.env) x=pure x)
  (w0:W 0 m0 [] H)
  (turn:∀i m ys H,W i m ys H->(J.stop i H/\ys.length<=sizeLine/\Fin ys H)\/(J.go i H/\∀x H',J.yld i H x H'->g x (List.replicate ts.length none++bJ js σ) H' fun σ2 H2=>tc σ2 H2 fun b H3 =>
   if b=true then wi1 σ2 H3 fun J1 H4=>jQ J1 g1 tc1 te σ2 H4 ys fun ys' H5=>∃m',m' < m/\W (i+1) m' ys' H5 else ∃m',m' < m/\W (i+1) m' ys H3))
  (hRR:∀D C s' H' ys m,Inv X pins σ (upd H' D (.lst ys)) s'->s'.heap.Ns C m->s.heap.objs.size<=C->s.heap.objs.size<=D->C≠D->H' C=none->H' D=none->Fin ys H'->RR (.ref D) C (.ok .next) s') :
  (wq X) (newList []) (fun acc s₃=>(wq X) (newFunctionEnv scope X.env.globals (cU X.env.cells scope.names []) [] X.env.qual none .none (some X.env)) (fun cenv s₄ =>
   codeAny (model X.prog X.w) X.A (.compStart (cn elt tg0 iter0 tg1 iter1 ifs0 ifs1 scope pos) 0 (.ref it) acc { cenv with scope:=relabel scope X.env }) (RR acc cenv.locals) s₄) E s₃) E s:=by
 have TA:∀C,Je (au X scope C fp (ts++cap) s H) tg0 J fp it tn:=fun C=>⟨T.item (au X scope C fp (ts++cap) s H) rfl rfl rfl hc,T.done (au X scope C fp (ts++cap) s H) rfl rfl rfl hc⟩
 refine wpAny_newObj_type (wpAny_newFunctionEnv CS.Gu (by intro y hy;simp at hy) (fun h₁ hns₁ hsb₁=>?_) CS.kind);dsimp only at hns₁ hsb₁ ⊢;generalize hH2:s.heap.push {cls:=.type "list",dict:=none,data:=.seq ([]:List Value).toArray}=H2 at hns₁ hsb₁ ⊢;have hCs:H2.objs.size=s.heap.objs.size+1:=by rw[<- hH2,Fj]
 have hDC:s.heap.objs.size≠H2.objs.size:=by rw[hCs];exact AR (BY _)
 have hCle:s.heap.objs.size<=H2.objs.size:=by rw[hCs];exact BL _
 have below:∀b,b<s.heap.objs.size->b≠H2.objs.size:=fun b hb=>by rw[hCs];exact AR (BS hb)
 have old:∀b o,s.heap.get? b=some o->h₁.get? b=some o:=fun b o e=>hsb₁.extBut b o (below b (EL e)) (Fb _ (hH2▸Fb _ e));have hacc:h₁.get? s.heap.objs.size=some (cD [] 0):=hsb₁.extBut _ _ hDC (Fb _ (hH2▸Fc _ rfl));have hfl:∀b∈fp,b<s.heap.objs.size:=fun b hb=>by obtain⟨o,e,_⟩:=T.obj _ _ st b hb;exact EL e
 have st₁:tn 0 h₁:=T.keep _ _ _ st fun b _ o e=>old b o e;have hDstk:s.heap.objs.size∉frs X.stack:=fun z=>by
  obtain⟨_,o,ho,_⟩:=I.stack.mem z;exact absurd (EL ho) (Bl _)
 have I0:Inv (au X scope H2.objs.size fp (ts++cap) s H) [(s.heap.objs.size,cD [] 0)] (List.replicate ts.length none++bJ js σ) H {s with heap:=h₁,toks:=s.toks+([]:List (Str×Value)).length}:=
  gn I CS hf hfl hCle old hns₁ rfl I.bare fun p hp=>by
   have e:p=(s.heap.objs.size,cD [] 0):=by simpa using hp
   subst e;exact⟨hacc,I.hok.fresh (AH _),hDC,hDstk,fun v z=>by cases z⟩
 have stat:∀{H':Hp}{ys:List Value}{n:Nat},(∀b∈fp,H' b=none)->∀b∈fp,FY (au X scope H2.objs.size fp (ts++cap) s H) [(s.heap.objs.size,cD ys n)] H' b:=fun {H' ys n} hn b hb=>by
  obtain⟨f0,f1,f2,f3,f4,f5⟩:=hf b hb;refine⟨hn b hb,below b (hfl b hb),?_,.inl hb,fun x c e=>f4 x c (CS.look I.ok e),fun p hp=>?_⟩
  ·exact(gA I CS hf hfl hCle).JC b hb
  ·rcases AO.mp hp with z|z
   ·exact f5 p (Bo _ z)
   ·have e:p=(s.heap.objs.size,cD ys n):=by simpa using z
    subst e;intro q;have q':s.heap.objs.size=b:=q;exact absurd (hfl b hb) (by rw[<- q'];exact Bl _)
 have loop:∀s₃:Shared,s₃={s with heap:=h₁,toks:=s.toks+([]:List (Str×Value)).length} ->
   codeAny (model X.prog X.w) X.A (.compLoop (cn elt tg0 iter0 tg1 iter1 ifs0 ifs1 scope pos) 0 (.ref it) (.ref s.heap.objs.size) (compEnvC scope (cU X.env.cells scope.names []) H2.objs.size X.env))
    (RR (.ref s.heap.objs.size) H2.objs.size) s₃:=by
  rintro s₃ rfl;refine rT (hs1 _) (fun k s'=>∃i H' ys its n,Inv (au X scope H2.objs.size fp (ts++cap) s H) [(s.heap.objs.size,cD its n)] (List.replicate ts.length none++bJ js σ) H' s'/\Vals ys its/\tn i s'.heap/\(∀b∈fp,H' b=none)/\W i k ys H') ?_ m0
   ⟨0,H,[],[],0,I0,.nil,st₁,fun b hb=>(hf b hb).1,w0⟩
  rintro k s3 ⟨i,H3,ys,its,n,I3,v3,st3,fr3,w3⟩;rcases turn i k ys H3 w3 with ⟨stop,hz,fin⟩|⟨go,step⟩
  ·refine thn ((TA _).done i _ s3 _ H3 _ I3 (stat fr3) st3 stop) fun r s4 hq71=>?_;obtain⟨hr,I4⟩:=hq71;subst hr;obtain⟨m4,hn4,_⟩:=I4.loc;exact hRR _ _ s4 H3 ys m4 (iT I hf hCle (AH _) I4 v3 hz) hn4 hCle (AH _) (EZ hDC) I4.free (I4.pin (s.heap.objs.size,cD its n) (AV _ AS)).2.1 fin
  ·refine thn ((TA _).item i _ s3 _ H3 _ I3 (stat fr3) st3 go) fun r s4 hq72=>?_;obtain⟨u,hr,h4⟩:=hq72;subst hr;refine thn h4 fun _ s5 hq73=>?_;obtain⟨x,H5,I5,r5,y5,st5,fr5⟩:=hq73;have I5':=I5.pinned (stat fr5) (T.obj _ _ st5);refine thn (hg _ _ _ _ _ s5 _ H5 x u _ I5' r5 (step x H5 y5)) fun _ s6 hq74=>?_;obtain⟨σ6,H6,I6,q6⟩:=hq74;refine thn (ht _ _ _ _ _ s6 σ6 H6 _ I6 q6) fun ok s7 hq75=>?_;obtain⟨H7,I7,q7⟩:=hq75;have pinned:∀{σ':St}{H':Hp}{s':Shared},Inv (au X scope H2.objs.size fp (ts++cap) s H) ([(s.heap.objs.size,cD its n)]++cH fp s5.heap) σ' H' s'->tn (i+1) s'.heap/\∀b∈fp,H' b=none:=fun {σ' H' s'} J=>by
    refine⟨T.keep _ _ _ st5 fun b hb o e=>(J.pin (b,o) (AV _ (AV _ (aQ hb e)))).1,fun b hb=>?_⟩;obtain⟨o,e,d⟩:=T.obj _ _ st5 b hb;exact(J.pin (b,o) (AV _ (AV _ (aQ hb e)))).2.1
   cases ok with
   |false=>
    rw[EE Bm] at q7 ⊢;obtain⟨m',hm,w7⟩:=q7;obtain⟨st7,fr7⟩:=pinned I7;exact⟨m',hm,i+1,H7,ys,its,n,bM I CS hf I7.FC,v3,st7,fr7,w7⟩
   |true=>
    rw[EF rfl] at q7 ⊢;refine thn (hi1 _ _ _ _ _ s7 σ6 H7 _ I7 q7) fun xv s8 h8=>thn h8 fun itv s9 h9=>?_;obtain⟨it1,fp1,tn1,J1,H9,e9,I9,T1,st9,f9,cv⟩:=h9;subst e9;refine mB (D:=s.heap.objs.size) (its0:=its) (n0:=n) (P:=cH fp s5.heap) hc I9 v3 T1 st9 f9 (.inr (Heap.get?_none_of_le (AH _))) (fun x c e q=>?_) (fun p hp q=>?_) (hg1 _ _ _ _) (ht1 _ _ _ _) (he _ _ _ _) cv (fun σ' ys' its' n' H' s' I' v' q'=>⟨rfl,?_⟩)
    ·obtain⟨v,o,ho,_⟩:=I.cell x c (CS.look I.ok e);rw[q] at ho;exact absurd (EL ho) (Bl _)
    ·rcases AO.mp hp with z|z
     ·obtain⟨e,_⟩:=I.pin p (Bo _ z);rw[q] at e;exact absurd (EL e) (Bl _)
     ·obtain⟨hb,_⟩:=iA z;exact absurd (hfl _ hb) (by rw[q];exact Bl _)
    ·obtain⟨m',hm,w8⟩:=q';have st8:tn (i+1) s'.heap:=T.keep _ _ _ st5 fun b hb o e=>(I'.pin (b,o) (AV _ (AV _ (aQ hb e)))).1;have fr8:∀b∈fp,H' b=none:=fun b hb=>by
      obtain⟨o,e,d⟩:=T.obj _ _ st5 b hb;exact(I'.pin (b,o) (AV _ (AV _ (aQ hb e)))).2.1
     exact⟨m',hm,i+1,H',ys',its',n',bM I CS hf I'.FC,v',st8,fr8,w8⟩
 exact codeAny_compStart_list (loop _ rfl) (T.self _ _ _ _ _ st₁ (loop _ rfl))
end
def NxV (n j:Nat)(P:Nat->St->List V->Hp->Prop)(σ:St)(ys:List V)(H:Hp):Prop:=∃m',m'<n-j/\(m'=n-(j+1)/\j+1<=n/\P (j+1) σ ys H)
theorem NxV.mk{n j:Nat}{P:Nat->St->List V->Hp->Prop}{σ:St}{ys:List V}{H:Hp}(hj:j<n)(h:P (j+1) σ ys H):NxV n j P σ ys H:=⟨n-(j+1),by lia,rfl,hj,h⟩
theorem qO{J:It}{n:Nat}{g:TG}{tc:TT}{te:TE}{σ0:St}{H0:Hp}{ys0:List V}{Q:List V->Hp->Prop}(P:Nat->St->List V->Hp->Prop)(h0:P 0 σ0 ys0 H0)(hz:∀j σ ys H,j<=n->P j σ ys H->ys.length<sizeLine)
  (hgo:∀j σ ys H,j<n->P j σ ys H->J.go j H)(hstop:∀σ ys H,P n σ ys H->J.stop n H)
  (hs:∀j σ ys H x H',j<n->P j σ ys H->J.yld j H x H'->g x σ H' fun σ2 H2=>tc σ2 H2 fun b H3=>if b=true then te σ2 H3 fun y H4=>NxV n j P σ2 (ys++[y]) H4 else NxV n j P σ2 ys H3)
  (hd:∀σ ys H,P n σ ys H->Q ys H):jQ J g tc te σ0 H0 ys0 Q:=by
 refine⟨fun j m σ ys H=>m=n-j/\j<=n/\P j σ ys H,⟨n,by simp,Bi _,h0⟩,?_⟩;rintro j m σ ys H ⟨rfl,hj,p⟩;have hy:=hz j σ ys H hj p;by_cases hlt:j<n
 ·exact .inr ⟨hgo j σ ys H hlt p,hy,fun x H' y=>hs j σ ys H x H' hlt p y⟩
 ·have e:j=n:=by lia
  subst e;exact .inl ⟨hstop σ ys H p,BA hy,hd σ ys H p⟩
theorem qv{J:It}{n k:Nat}{js:List Nat}{g:TG}{tc:TT}{wi1:TI}{g1:TG}{tc1:TT}{te:TE}{σ:St}{H:Hp}{Q:VK}(P:Nat->List V->Hp->Prop)(h0:P 0 [] H)(hz:∀i ys H,i<=n->P i ys H->ys.length<=sizeLine)
  (hgo:∀i ys H,i<n->P i ys H->J.go i H)(hstop:∀ys H,P n ys H->J.stop n H)
  (hs:∀i ys H x H',i<n->P i ys H->J.yld i H x H'->g x (List.replicate k none++bJ js σ) H' fun σ2 H2=>tc σ2 H2 fun b H3=>if b=true then wi1 σ2 H3 fun J1 H4=>jQ J1 g1 tc1 te σ2 H4 ys fun ys' H5=>Nx n i P ys' H5 else Nx n i P ys H3)
  (hd:∀ys H,P n ys H->∀p,H p=none->Q (.ref p) (upd H p (.lst ys))):oF J k js g tc wi1 g1 tc1 te σ H Q:=by
 refine⟨fun i m ys H=>m=n-i/\i<=n/\P i ys H,⟨n,by simp,Bi _,h0⟩,?_⟩;rintro i m ys H ⟨rfl,hi,p⟩;have hy:=hz i ys H hi p;by_cases hlt:i<n
 ·exact .inr ⟨hgo i ys H hlt p,fun x H' y=>hs i ys H x H' hlt p y⟩
 ·have e:i=n:=by lia
  subst e;exact .inl ⟨hstop ys H p,hy,hd ys H p⟩
theorem vH{lo:Int}{n:Nat}{g:TG}{tc:TT}{te:TE}{σ0:St}{H0:Hp}{ys0:List V}{Q:List V->Hp->Prop}(P:Nat->St->List V->Hp->Prop)(h0:P 0 σ0 ys0 H0)(hz:∀j σ ys H,j<=n->P j σ ys H->ys.length<sizeLine)
  (hs:∀j σ ys H,j<n->P j σ ys H->g (.int (lo+j)) σ H fun σ2 H2=>tc σ2 H2 fun b H3=>if b=true then te σ2 H3 fun y H4=>NxV n j P σ2 (ys++[y]) H4 else NxV n j P σ2 ys H3)
  (hd:∀σ ys H,P n σ ys H->Q ys H):jQ (Itr lo n) g tc te σ0 H0 ys0 Q:=
 qO P h0 hz (fun _ _ _ _ h _=>h) (fun _ _ _ _=>AH _) (fun j σ ys H x H' hj p y=>by obtain⟨e,y⟩:=y;subst e y;exact hs j σ ys _ hj p) hd
theorem wV{lo:Int}{n k:Nat}{js:List Nat}{g:TG}{tc:TT}{wi1:TI}{g1:TG}{tc1:TT}{te:TE}{σ:St}{H:Hp}{Q:VK}(P:Nat->List V->Hp->Prop)(h0:P 0 [] H)(hz:∀i ys H,i<=n->P i ys H->ys.length<=sizeLine)
  (hs:∀i ys H,i<n->P i ys H->g (.int (lo+i)) (List.replicate k none++bJ js σ) H fun σ2 H2=>tc σ2 H2 fun b H3=>if b=true then wi1 σ2 H3 fun J1 H4=>jQ J1 g1 tc1 te σ2 H4 ys fun ys' H5=>Nx n i P ys' H5 else Nx n i P ys H3)
  (hd:∀ys H,P n ys H->∀p,H p=none->Q (.ref p) (upd H p (.lst ys))):oF (Itr lo n) k js g tc wi1 g1 tc1 te σ H Q:=
 qv P h0 hz (fun _ _ _ h _=>h) (fun _ _ _=>AH _) (fun i ys H x H' hi p y=>by obtain⟨e,y⟩:=y;subst e y;exact hs i ys _ hi p) hd
section
variable {X:Cx}
theorem Jp:∀(xs:List V)(us:List Value),xs.length=us.length->(∀(j:Nat) x u,xs[j]?=some x->us[j]?=some u->RelV x u)->Vals xs us
 |[],[],_,_=>.nil
 |[],_::_,h,_=>by cases h
 |_::_,[],h,_=>by cases h
 |x::xs,u::us,h,r=>.cons (r 0 x u rfl rfl) (Jp xs us (by simpa using h) fun j a b h1 h2=>r (j+1) a b h1 h2)
end
def CdO (c:Addr)(q:Str):HO:=.ext fun h=>∃o vs t,h.get? c=some o/\o.data=.fields vs/\vs[1]?=some (.str q t)
def FnO (a:Addr)(fd:FuncData):HO:=.ext fun h=>∃o,h.get? a=some o/\o.data=.func fd
structure Gb(pos:Pos)(q:Str)(P:Addr)(H:Hp):Prop where
 ex:∃ps,H P=some (.tbl ps)/\TriplesOk ps.toList/\(codeAmong pos ps.toList=none\/∃c,codeAmong pos ps.toList=some (.ref c)/\H c=some (CdO c q))
structure Ll(K:W.Frag)(mg:Str->Option Value)(c P:Addr):Prop where
 hd:∀h:Heap,K.In h->W.CodeHd h c P
 bt:∀h:Heap,K.In h->h.BuiltinsAt mg P
 ne:mainGlobals≠P
def SmB (P:Addr)(H H':Hp):Prop:=∀b o,b≠P->H b=some o->H' b=some o
theorem SmB.trans{P:Addr}{H H1 H2:Hp}(a:SmB P H H1)(b:SmB P H1 H2):SmB P H H2:=fun c o n e=>b c o n (a c o n e)
theorem SmB.of{P:Addr}{H H':Hp}(a:Fo H H'):SmB P H H':=fun c o _ e=>a c o e
theorem Gb.same{pos:Pos}{q:Str}{P:Addr}{H H':Hp}(h:Gb pos q P H)(S:Fo H H'):Gb pos q P H':=by
 obtain⟨ps,h1,h2,h3⟩:=h.ex;refine⟨ps,S _ _ h1,h2,?_⟩;rcases h3 with h3|⟨c,h3,h4⟩
 ·exact .inl h3
 ·exact .inr ⟨c,h3,S _ _ h4⟩
def tLam (pos:Pos)(q:Str)(P:Addr)(F:Value->Value->Value->FuncData):TE:=fun σ H Q=>Gb pos q P H/\∀a c pm ct H',H a=none->H' a=some (FnO a (F pm (.ref c) ct))->H' c=some (CdO c q)->Gb pos q P H'->SmB P H H'->Q (.ref a) H'
theorem wU{P:Program}{w:World}{H:Hp}{h:Heap}{a:Addr}{fd:FuncData}{o:Obj}(e:h.get? a=some o)(d:o.data=.func fd):Fz P w H h a (FnO a fd):=
 ⟨⟨o,e,d⟩,⟨o,e⟩,fun h1 h2 ⟨o1,e1,d1⟩ k=>⟨o1,k _ e1,d1⟩⟩
theorem yr{P:Program}{w:World}{H:Hp}{h:Heap}{c:Addr}{q:Str}(e:h.CodeRec (.ref c) q):Fz P w H h c (CdO c q):=by
 obtain⟨c',o,vs,t,e0,e1,e2,e3⟩:=e;cases e0;exact⟨⟨o,vs,t,e1,e2,e3⟩,⟨o,e1⟩,fun h1 h2 ⟨o1,vs1,t1,a1,a2,a3⟩ k=>⟨o1,vs1,t1,k _ a1,a2,a3⟩⟩
theorem vo{P:Program}{w:World}{H:Hp}{h:Heap}{c:Addr}{q:Str}(x:HOk P w H h)(e:H c=some (CdO c q)):h.CodeRec (.ref c) q:=by
 obtain⟨⟨o,vs,t,e1,e2,e3⟩,_⟩:=x c _ e;exact⟨c,o,vs,t,rfl,e1,e2,e3⟩
theorem wH{P:Program}{w:World}{H:Hp}{h:Heap}{a:Addr}{fd:FuncData}(x:HOk P w H h)(e:H a=some (FnO a fd)):∃o,h.get? a=some o/\o.data=.func fd:=by
 obtain⟨z,_⟩:=x a _ e;exact z
theorem wb{X:Cx}{params:Arguments}{body:Expr}{scope:Scope}{pos:Pos}{c P:Addr}{q:Str}{ts cap:List Str}{js:List Nat}(LK:Ll X.K X.mg c P)(hcode:X.env.code=.ref c)(hq:X.env.qual++"<lambda>"=q)(hd:defaultsOf params X.env=([],[]))(CS:Fu X scope ts cap js) :
  PE X (.Lambda params body scope pos) (tLam pos q P fun pm cd ct=>W.kla_fn "<lambda>" q params body scope (cU X.env.cells scope.names []) pm cd ct):=by
 intro pins s σ H Q I h;obtain⟨⟨ps,hP,hT,hc⟩,h⟩:=h;refine W.kla_eval hd ?_;rw[hq];have hcl:=bu (CS.cells I.ok);have hns:s.heap.Ns mainGlobals X.mg:=by
  obtain⟨o,es,ep,e,r⟩:=I.ok.mod.glob;exact⟨o,es,ep,I.bk _ _ e,r⟩
 have gP:s.heap.get? P=some (W.tabObj ps):=I.hok P _ hP;rcases hc with hc|⟨c0,hc,hcc⟩
 ·refine W.kla_makeFunction hcl I.ok.glob hns hcode (LK.hd _ I.kIn) gP hT hc LK.ne (LK.bt _ I.kIn) fun c' ctv h' tk ext hsz hlt hrec htab=>?_;have tl:(ps++#[rawInt pos.line,rawInt pos.col,.ref c']).toList=ps.toList++[rawInt pos.line,rawInt pos.col,.ref c']:=by simp
  have nP:∀b u,H b=some u->(∀ps,u≠.tbl ps)->b≠P:=fun b u e n z=>by rw[z,hP] at e;exact n ps (EM e).symm
  have lc:∀b u,H b=some u->b≠c':=fun b u e=>AR (Be (I.hok.lt e) hsz);have la:∀b u,H b=some u->b≠h'.objs.size:=fun b u e=>AR (CN (Be (I.hok.lt e) hsz) hlt);have ca:c'≠h'.objs.size:=AR hlt;have cP:c'≠P:=EZ (lc P _ hP);have Pa:P≠h'.objs.size:=la P _ hP;generalize hfd:W.kla_fn "<lambda>" q params body scope (cU X.env.cells scope.names []) ((X.mg "__name__").getD .none) (.ref c') ctv=fd;have hob:W.kla_obj "<lambda>" q params body scope (cU X.env.cells scope.names []) ((X.mg "__name__").getD .none) c' ctv={cls:=.type "function",data:=.func fd}:=by rw[<- hfd]
  rw[hob];obtain⟨H',eH⟩:∃H',H'=upd (upd (upd H P (.tbl (ps++#[rawInt pos.line,rawInt pos.col,.ref c']))) c' (CdO c' q)) h'.objs.size (FnO h'.objs.size fd):=⟨_,rfl⟩
  have eA:H' h'.objs.size=some (FnO h'.objs.size fd):=by rw[eH];exact ae
  have eC:H' c'=some (CdO c' q):=by rw[eH,ai ca];exact ae
  have eP:H' P=some (.tbl (ps++#[rawInt pos.line,rawInt pos.col,.ref c'])):=by rw[eH,ai Pa,ai (EZ cP)];exact ae
  have eO:∀b,b≠P->b≠c'->b≠h'.objs.size->H' b=H b:=fun b n1 n2 n3=>by rw[eH,ai n3,ai n2,ai n1]
  have SB:SmB P H H':=fun b o n e=>by rw[eO b n (lc b o e) (la b o e)];exact e
  have kp:∀b u,b≠P->s.heap.get? b=some u->(h'.push {cls:=.type "function",data:=.func fd}).get? b=some u:=fun b u n e=>Fb _ (ext b u n e);have gP':(h'.push {cls:=.type "function",data:=.func fd}).get? P=some (W.tabObj (ps++#[rawInt pos.line,rawInt pos.col,.ref c'])):=Fb _ htab;have tu:∀b xs,H b=some (.tup xs)->H' b=some (.tup xs):=fun b xs e=>SB b _ (nP b _ e fun _ z=>by cases z) e;have ow:∀b x,H b=some (.own x)->H' b=some (.own x):=fun b x e=>SB b _ (nP b _ e fun _ z=>by cases z) e;have I2:Inv X pins σ H' {s with heap:=h'.push {cls:=.type "function",data:=.func fd},toks:=tk}:=by
   refine I.un (t':=tk) ⟨fun b o e n _ _=>kp b o (fun z=>by rw[z,hP] at n;cases n) e,fun b o e n _ _=>⟨o.slots,kp b o (fun z=>by rw[z,hP] at n;cases n) e⟩,fun b o e n _=>?_,fun b o e _=>?_,tu,fun b o u e=>SB b _ (nP b _ e fun _ z=>by cases z) e,fun b ps' e=>?_⟩ fun b u e=>?_
   ·have lb:=EL e;rw[eO b (fun z=>by rw[z,hP] at n;cases n) (AR (Be lb hsz)) (AR (CN (Be lb hsz) hlt))];exact n
   ·by_cases hb:b=P
    ·rw[hb];exact⟨_,gP'⟩
    ·exact⟨o,kp b o hb e⟩
   ·by_cases hb:b=P
    ·subst hb;rw[hP] at e;cases e;exact⟨_,eP⟩
    ·exact⟨#[],by rw[SB b _ hb e];simp⟩
   ·by_cases b1:b=h'.objs.size
    ·subst b1;rw[eA] at e;cases e;exact wU (Fc _ rfl) rfl
    ·by_cases b2:b=c'
     ·subst b2;rw[eC] at e;cases e;obtain⟨c2,o,vs,t,e0,e1,e2,e3⟩:=hrec;cases e0;exact yr ⟨_,o,vs,t,rfl,Fb _ e1,e2,e3⟩
     ·by_cases b3:b=P
      ·subst b3;rw[eP] at e;cases e;exact gP'
      ·rw[eO b b3 b2 b1] at e;refine(I.hok b u e).IM (fun x v hx g=>kp x v (fun z=>?_) g) (fun x z=>ow x _ z) tu;rcases hx with hx|hx
       ·exact b3 (hx.symm.trans z)
       ·rw[z,hP] at hx;cases hx
  refine⟨.ref h'.objs.size,H',I2,rfl,h _ c' ((X.mg "__name__").getD .none) ctv H' ?_ (eA.trans (by rw[<- hfd])) eC ⟨_,eP,by rw[tl];exact TriplesOk_snoc _ _ _ _ hT,.inr ⟨c',by rw[tl];exact codeAmong_snoc _ hT hc,eC⟩⟩ SB⟩;exact I.hok.fresh (BA (BN hsz hlt))
 ·refine W.kla_makeFunctionHit hcl I.ok.glob hns hcode (LK.hd _ I.kIn) gP hT hc (LK.bt _ I.kIn) fun ctv h' tk ext hsz=>?_;have I2:=I.laid (a:=h'.objs.size) (o:=FnO h'.objs.size (W.kla_fn "<lambda>" q params body scope (cU X.env.cells scope.names []) ((X.mg "__name__").getD .none) (.ref c0) ctv)) (t':=tk) (h':=h'.push {cls:=.type "function",data:=.func (W.kla_fn "<lambda>" q params body scope (cU X.env.cells scope.names []) ((X.mg "__name__").getD .none) (.ref c0) ctv)}) (fun b u e=>Fb _ (ext b u e)) hsz (wU (Fc _ rfl) rfl);have hn:=I.hok.fresh (a:=h'.objs.size) hsz;have SS:=af hn (FnO h'.objs.size (W.kla_fn "<lambda>" q params body scope (cU X.env.cells scope.names []) ((X.mg "__name__").getD .none) (.ref c0) ctv));exact⟨.ref h'.objs.size,_,I2,rfl,h _ c0 _ ctv _ hn ae (SS _ _ hcc) (Gb.same ⟨ps,hP,hT,.inr ⟨c0,hc,hcc⟩⟩ SS) (SmB.of SS)⟩
def rD (X:Cx)(A:Around)(scope:Scope)(q:Str)(f:Addr)(cd:Value)(N:List Str)(s:Shared)(H:Hp):Cx where
 prog:=X.prog
 w:=X.w
 K:=X.K
 mg:=X.mg
 base:=X.base
 A:=A.deeper (W.envX q scope s.heap.objs.size f cd (cU X.env.cells scope.names []))
 N:=N
 s₀:=s
 H₀:=H
 env:=W.envX q scope s.heap.objs.size f cd (cU X.env.cells scope.names [])
 outer:=X.stack
 stack:=W.envX q scope s.heap.objs.size f cd (cU X.env.cells scope.names [])::X.stack
 ex:=[]
 fn:=fun _=>false
 calm:=A.handled.isNone
 pn:=[]
 xe:=fun _ _=>False
section
variable {X:Cx}{pins:List (Addr×Obj)}{σ:St}{H:Hp}{s:Shared}{scope:Scope}{cap:List Str}{js:List Nat}{A:Around}{q y:Str}{f:Addr}{cd:Value}
theorem vt(hA:A.frames=some X.stack)(I:Inv X pins σ H s)(CS:Fu X scope [y] cap js):(rD X A scope q f cd ([y]++cap) s H).Ok where
 mod:=I.ok.mod
 kind:=CS.kind
 glob:=rfl
 blt:=rfl
 above:=AH _
 inj:=fun x z c h1 h2=>I.ok.inj x z c (CS.look I.ok h1) (CS.look I.ok h2)
 has:=fun x hx=>by
  have hx:scope.names.lookup x=some .cell\/scope.names.lookup x=some .free:=hx;rcases hx with hx|hx
  ·exact absurd rfl (CS.Gu _ (bc hx))
  ·exact Cy.mp (cS (.inl (bc hx)))
 cab:=fun x c h _=>by cases (show false=true from h)
 hd:=fun h=>Es.mp h
 frames:=Around.frames_deeper hA
 stk:=.inr ⟨rfl,rfl⟩
 exf:=fun b hb=>absurd (show b∈([]:List Addr) from hb) (by simp)
 bs:=I.bs
 bsz:=AX I.ok.bsz I.sz
 Kl:=fun b o e hb=>absurd (show b∈([]:List Addr) from hb) (by simp)
 JC:=fun b hb=>absurd (show b∈([]:List Addr) from hb) (by simp)
 IL:=I.stack
 frf:=I.Hm
theorem tF{s₄:Shared}{x:V}{u:Value}(hA:A.frames=some X.stack)(I:Inv X pins σ H s)(CS:Fu X scope [y] cap js)(hy:scope.names.lookup y=some .local)(r:RelV x u)
  (old:∀b o,s.heap.get? b=some o->s₄.heap.get? b=some o)(hn:s₄.heap.Ns s.heap.objs.size fun z=>[(y,u)].reverse.lookup z)(hos:s₄.os=s.os)(hb:AllBare s₄.gens) :
  Inv (rD X A scope q f cd ([y]++cap) s H) [] ([some x]++bJ js σ) H s₄ where
 ok:=vt hA I CS
 os:=hos
 bare:=hb
 base:=Un.kept old
 loc:=⟨_,hn,fun i z v h1 h2 h3=>by
  cases i with
  |zero=>
   have e1:y=z:=EM h1;have e2:x=v:=EM (EM h2);subst e1 e2;exact⟨u,r,.inl ⟨hy,by simp⟩⟩
  |succ i=>
   have h1':cap[i]?=some z:=h1;have h2':(bJ js σ)[i]?=some (some v):=h2;unfold bJ at h2';rw[AW] at h2';cases hj:js[i]? with
   |none=>rw[hj] at h2';cases h2'
   |some j=>
    rw[hj] at h2';have h2'':(σ[j]?).join=some v:=EM h2';have hσ:σ[j]?=some (some v):=by
     cases e:σ[j]? with
     |none=>rw[e] at h2'';cases h2''
     |some o=>rw[e] at h2'';rw[show o=some v from h2'']
    have hN:X.N[j]?=some z:=by
     have:=congrArg (fun l=>l[i]?) CS.Kg;simp only[AW,h1',hj] at this;exact(EM this).symm
    have hfr:=CS.Lr z (Bg h1');have hk:=CS.free _ (bc hfr) rfl;obtain⟨m0,hn0,hl⟩:=I.loc;obtain⟨u',r',l⟩:=hl j z v hN hσ (.inr hk);refine⟨u',r',?_⟩;rcases l with ⟨k,_⟩|⟨k,c,e,zz⟩
    ·rcases hk with q|q<;>(rw[q] at k;cases k)
    ·obtain⟨c',e'⟩:=Cy.mp (cS (cells:=X.env.cells) (acc:=[]) (.inl (bc hfr)));have e2:=CS.look I.ok e';have e3:X.env.cells.lookup z=some c:=e;rw[e3] at e2;cases e2;obtain⟨o,ho,hd⟩:=zz
     exact .inr ⟨.inr hfr,c,e',⟨o,old _ _ ho,hd⟩⟩⟩
 cell:=fun x c e=>by
  obtain⟨v,o,ho,hd⟩:=I.cell x c (CS.look I.ok e);exact⟨v,o,old _ _ ho,hd⟩
 free:=I.hok.fresh (AH _)
 FX:=fun x c e=>I.FX x c (CS.look I.ok e)
 pin:=fun p hp=>absurd (show p∈([]:List (Addr×Obj)) from hp) (by simp)
 hok:=I.hok.kept old
 len:=by
  show([some x]++bJ js σ).length=([y]++cap).length;have:=congrArg List.length CS.Kg;simp only[AI] at this;rw[AK,AK,bJ,AI,this];rfl
theorem rm{te:TE}{params:Arguments}{body:Expr}{pm ct:Value}{c:Addr}{x:V}{u:Value}{Q:VK}(hA:A.frames=some X.stack)(hdp:A.depth<recursionLimit)(I:Inv X pins σ H s)(CS:Fu X scope [y] cap js)(hy:scope.names.lookup y=some .local)
  (hco:scope.isCoroutine=false)(hge:scope.isGenerator=false)(hf:H f=some (FnO f (W.kla_fn "<lambda>" q params body scope (cU X.env.cells scope.names []) pm (.ref c) ct)))(hcd:H c=some (CdO c q))
  (hbind:bindArgs (W.kla_fn "<lambda>" q params body scope (cU X.env.cells scope.names []) pm (.ref c) ct) ⟨[u],[]⟩=pure [(y,u)])
  (hb:PE (rD X A scope q f (.ref c) ([y]++cap) s H) body te)(r:RelV x u)(h:te ([some x]++bJ js σ) H Q) :
  wpAny (model X.prog X.w) A (call (.ref f) [u]) (EP X pins σ Q) (fun _ _=>False) s:=by
 obtain⟨o,ho,hd⟩:=wH I.hok hf;refine wpAny_call (codeAny_mono (R:=CR CX0 X.stack X.prog X.w H s Q E0) (W.kla_callFunE hdp ho hd hco hge rfl (vo I.hok hcd) ?_) fun r s' hq=>?_)
 ·rw[hbind];refine EB (wpAny_newFunctionEnv CS.Gu (fun z hz=>by rw[AM.mp hz];exact hy) (fun h₁ hns hsb=>⟨?_,W.kla_codeExpr ?_⟩) CS.kind)
  ·exact Heap.NoLimit.fresh I.nolimit _ hsb
  ·have old:∀b o,s.heap.get? b=some o->h₁.get? b=some o:=fun b o e=>hsb.extBut b o (AR (EL e)) (Fb _ e);have J:=tF (A:=A) (q:=q) (f:=f) (cd:=.ref c) (s₄:={s with heap:=h₁,toks:=s.toks+[(y,u)].length}) hA I CS hy r old hns rfl I.bare;refine EI (hb [] _ _ H Q J h) (fun v s' hs=>?_) fun _ _ hF=>(show False from hF).elim;obtain⟨v',H',J',rv,q'⟩:=hs;exact⟨v',H',J'.os,J'.bare,J'.base,J'.hok,rv,q'⟩
 ·cases r with
  |error e=>exact False.elim hq
  |ok fl=>
   cases fl with
   |ret u=>exact I.after hq
   |next=>exact False.elim hq
   |brk=>exact False.elim hq
   |cont=>exact False.elim hq
end
end L2
namespace L2
open PySem PySem.Spec PyProof.Rows SeqAt
def yA (X:Cx)(σ:St)(H:Hp)(q:Addr)(key:Str->Int)(ks:List Str):Prop:=
 ∀(pins:List (Addr×Obj))(s:Shared)(k:Str)(t:Tok),Inv X pins σ H s->k∈ks->wpAny (model X.prog X.w) X.A.in1 (call (.ref q) [.str k t]) (EP X pins σ fun v H'=>v=.int (key k)/\H'=H) (fun _ _=>False) s
section
variable {X:Cx}{pins:List (Addr×Obj)}{σ:St}{H:Hp}
theorem nX{k:Str}{v:Value}(h:HN (.inr k) v=true):∃t,v=.str k t:=by
 rcases Fw h with ⟨i,t,e,_⟩|⟨x,t,e,rfl⟩
 ·cases e
 ·cases e;exact⟨t,rfl⟩
theorem Inv.thaw{σ':St}{s s':Shared}{a:Addr}{u:HO}{o:Obj}(I0:Inv X pins σ H s)(e:H a=some u)(nt:∀xs,u≠.tup xs)(nf:∀o' u',u≠.frz o' u')(nb:∀ps,u≠.tbl ps)(no:∀x,u≠.own x)(I:Inv X pins σ' (upd H a (.frz o u)) s'):Inv X pins σ' H s':=by
 have b1:=I.base;have fr:∀b,upd H a (.frz o u) b=none->H b=none:=fun b n=>by
  by_cases hb:b=a
  ·subst hb;rw[ae] at n;cases n
  ·rw[ai hb] at n;exact n
 have hat:upd H a (.frz o u) a=some (.frz o u):=ae;refine⟨I.ok,I.os,I.bare,⟨b1.keep,b1.slot,fun b o e n hx=>fr b (b1.free b o e n hx),b1.there,fun b xs q=>?_,fun b o' u' q=>?_,fun b ps q=>?_⟩,I.loc,I.cell,fr _ I.free,fun x c e=>fr _ (I.FX x c e),fun p hp=>?_,fun b v q=>?_,I.len⟩
 ·have z:=b1.IQ b xs q;by_cases hb:b=a
  ·subst hb;rw[ae] at z;cases z
  ·rw[ai hb] at z;exact z
 ·exact I0.base.IH b o' u' q
 ·obtain⟨more,z⟩:=b1.IK b ps q;by_cases hb:b=a
  ·subst hb;rw[ae] at z;cases z
  ·rw[ai hb] at z;exact⟨more,z⟩
 ·obtain⟨h1,h2,h3⟩:=I.pin p hp;exact⟨h1,fr _ h2,h3⟩
 ·have tu:∀c xs,upd H a (.frz o u) c=some (.tup xs)->H c=some (.tup xs):=fun c xs z=>by
   by_cases hc:c=a
   ·subst hc;rw[ae] at z;cases z
   ·rw[ai hc] at z;exact z
  have ow:∀c x,upd H a (.frz o u) c=some (.own x)->H c=some (.own x):=fun c x z=>by
   by_cases hc:c=a
   ·subst hc;rw[ae] at z;cases z
   ·rw[ai hc] at z;exact z
  by_cases hb:b=a
  ·subst hb;rw[e] at q;cases q;exact(I.hok b _ hat).2.IM (fun _ _ _ q=>q) (fun c q=>ow c _ q) tu
  ·exact(I.hok b v (by rw[ai hb];exact q)).IM (fun _ _ _ q=>q) (fun c q=>ow c _ q) tu
theorem pJ{q d IT S:Addr}{key:Str->Int}{ks:List Str}{ep:Nat}{o:Obj}{u:HO}{vs:List (Key×Value)}(hvs:vs.map (·.1)=ks.map Sum.inr)(hD:H d=some (.frz o u))(hat:∀h:Heap,h.get? d=some o->Heap.DictAt (aF X.prog X.w) h d vs ep)(hq:yA X σ H q key ks)(hc:X.calm=true)
  (hIS:IT≠S)(hdI:d≠IT){R:Result->Shared->Prop} :
  ∀(n j:Nat)(s:Shared)(rb:Str)(tb:Tok)(ti:Tok)(c:Nat),ks.length-j=n->j<=ks.length->Inv X pins σ H s ->
   FY X pins H IT->FY X pins H S->s.heap.IsKeyIter IT d j vs.length ep->s.heap.get? S=some (seqObj "list" #[.str rb tb,.int (key rb) ti] c)->rb∈ks->(∀k∈ks.take j,key rb<=key k) ->
   (∀(k:Str)(t:Tok)(s':Shared),k∈ks->(∀k'∈ks,key k<=key k')->Inv X pins σ H s'->R (.ok (.ret (.str k t))) s') ->
   codeAny (model X.prog X.w) X.A (.builtin "min.loop" ⟨[.ref IT,.ref q,.ref S],[]⟩) R s:=by
 have hname:(toString "min"++toString ".loop":String)="min.loop":=by decide
 have hlen:vs.length=ks.length:=by have:=congrArg List.length hvs;rw[AI,AI] at this;exact this
 intro n;induction n with
 |zero=>
  intro j s rb tb ti c hn hj I fI fS hit hS hrb hbest hR;obtain rfl:j=ks.length:=by lia
  have hdo:s.heap.get? d=some o:=(I.hok d _ hD).1;have W:=Walks.dictKeys (knd:=aF X.prog X.w) (prog:=X.prog) (w:=X.w) (A:=X.A.in1) (I.ok.hd hc) IT d hdI vs ep;refine codeAny_builtin PySem.F.entry_min_loop ?_;rw[Around.under_plainId PySem.F.plain_min_loop _];show wpAny _ X.A.in1 (seqItems? (.ref S) >>= _) _ _ _;refine EA (wpAny_seqItems hS rfl ?_);show wpAny _ X.A.in1 (tryCatch (pyNext (.ref IT)) _ >>= _) _ _ _;refine EA (wpAny_tryCatch (W.done _ _ _ ⟨by rw[hlen] at hit ⊢;exact hit,hat _ hdo⟩ fun h' tk' hk'=>?_));have I1:Inv X pins σ H {s with heap:=h',toks:=tk'}:=fI.turn I fun b o hb e=>hk' b o (by simpa using hb) e;have hS':=hk' S _ (by simpa using EZ hIS) hS;have s1:=Heap.SameBut.update h' S (Obj.mapSeq fun _=>(#[]:Array Value));show wpAny _ X.A.in1 (updateSeq S (fun _=>#[]) >>= _) _ _ _;refine EA ?_;refine wpAny_updateSeq hS' rfl (EA (wpAny_letGo (EB ?_)));exact hR rb tb _ hrb (fun k hk=>hbest k (by rw[Bw];exact hk)) (fS.turn I1 fun b o hb e=>by rw[s1.2 b hb];exact e)
 |succ n ih=>
  intro j s rb tb ti c hn hj I fI fS hit hS hrb hbest hR;have hlt:j<ks.length:=by lia
  have hdo:s.heap.get? d=some o:=(I.hok d _ hD).1;have W:=Walks.dictKeys (knd:=aF X.prog X.w) (prog:=X.prog) (w:=X.w) (A:=X.A.in1) (I.ok.hd hc) IT d hdI vs ep;refine codeAny_builtin PySem.F.entry_min_loop ?_;rw[Around.under_plainId PySem.F.plain_min_loop _];show wpAny _ X.A.in1 (seqItems? (.ref S) >>= _) _ _ _;refine EA (wpAny_seqItems hS rfl ?_);show wpAny _ X.A.in1 (tryCatch (pyNext (.ref IT)) _ >>= _) _ _ _;refine EA (wpAny_tryCatch (W.item j _ _ _ (by rw[hlen];exact hlt) ⟨hit,hat _ hdo⟩ fun v h' tk' hP hst' hk'=>?_));obtain⟨k0,x0,hk0,hkv⟩:=hP;have ek:k0=Sum.inr ks[j]:=by
   have:=congrArg (fun l=>l[j]?) hvs;simp only[AW,hk0,AL hlt] at this;exact EM this
  subst ek;obtain⟨tv,rfl⟩:=nX hkv;have hmem:ks[j]∈ks:=Bq hlt;obtain⟨oI,hoI,hoc,hod⟩:=id hst'.1;have I1:Inv X pins σ H {s with heap:=h',toks:=tk'}:=fI.turn I fun b o hb e=>hk' b o (by simpa using hb) e;have hS':=hk' S _ (by simpa using EZ hIS) hS
  have IP:=I1.pinned (fp:=[IT,S]) (fun b hb=>by
   rcases AN.mp hb with rfl|hb
   ·exact fI
   ·rw[AM.mp hb];exact fS) (fun b hb=>by
   rcases AN.mp hb with rfl|hb
   ·exact⟨oI,hoI,fun v e=>by rw[hod] at e;cases e⟩
   ·rw[AM.mp hb]; exact⟨_,hS',fun v e=>by cases e⟩)
  show wpAny _ X.A.in1 (tryCatch (holding [_] (call (.ref q) [_])) _ >>= _) _ _ _;refine EA (wpAny_tryCatch (EJ (EI (hq _ _ _ tv IP hmem) (fun x s2 he=>?_) fun _ _ hF=>hF.elim)));obtain⟨_,_,I2,r2,rfl,rfl⟩:=he;obtain⟨tn,rfl⟩:=r2;have pin:∀b o,b∈[IT,S]->h'.get? b=some o->s2.heap.get? b=some o:=fun b o hb e=>by
   have m:(b,o)∈cH [IT,S] h':=BW.mpr ⟨b,hb,by rw[e];rfl⟩;exact(I2.pin (b,o) (AV _ (AV _ m))).1
  have gI2:=pin IT oI (.head _) hoI;have gS2:=pin S _ (.tail _ (.head _)) hS';have I3:=I2.FC;show wpAny _ X.A.in1 (tryCatch (holding [_,.int (key ks[j]) tn] (richCompare .Lt (.int (key ks[j]) tn) (.int (key rb) ti) >>= _)) _ >>= _) _ _ _;refine EA (wpAny_tryCatch (EJ (EA (HT.Iy _ _ _ _ _ _ _ _ _ _ ?_))));refine EA (EJ (wpAny_truthy_bool ?_));refine EA (wpAny_letGo (EB ?_));have htake:ks.take (j+1)=ks.take j++[ks[j]]:=by rw[Bh,AL hlt];rfl
  by_cases hb':key ks[j]<key rb
  ·have s1:=Heap.SameBut.update s2.heap S (Obj.mapSeq fun _=>#[.str ks[j] tv,.int (key ks[j]) tn]);obtain⟨c2,hc2⟩:∃c2,(s2.heap.update S (Obj.mapSeq fun _=>#[.str ks[j] tv,.int (key ks[j]) tn])).get? S=some (seqObj "list" #[.str ks[j] tv,.int (key ks[j]) tn] c2):=⟨_,get?_update_seq gS2 fun _=>#[.str ks[j] tv,.int (key ks[j]) tn]⟩
   simp only[EG hb',if_true];refine EA ?_;refine wpAny_updateSeq gS2 rfl (EA (wpAny_letGo ?_));rw[hname];refine EB ⟨plainId_quiet PySem.F.plain_min_loop _,ih (j+1) _ _ tv tn c2 (by lia) hlt (fS.turn (t':=s2.toks) I3 fun b o hb e=>by rw[s1.2 b hb];exact e) fI fS ⟨oI,(s1.2 IT hIS).trans gI2,hoc,hod⟩ hc2 hmem (fun k h=>?_) hR⟩;rw[htake] at h;rcases AO.mp h with h|h
   ·have:=hbest k h;lia
   ·rw[AM.mp h];exact CP _
  ·simp only[EH hb',BF,if_false];refine EA (wpAny_letGo ?_);rw[hname];refine EB ⟨plainId_quiet PySem.F.plain_min_loop _,ih (j+1) s2 rb tb ti c (by lia) hlt I3 fI fS ⟨oI,gI2,hoc,hod⟩ gS2 hrb (fun k h=>?_) hR⟩;rw[htake] at h;rcases AO.mp h with h|h
   ·exact hbest k h
   ·rw[AM.mp h];lia
end
def vP (X:Cx)(σ:St)(q:Addr):List V->List V->Hp->VK->Prop:=fun xs zs H Q=>∃(d:Addr)(kvs:List (Key×V))(ks:List Str)(key:Str->Int),xs=[.ref d]/\zs=[.ref q]/\H d=some (.dK kvs)/\kvs.map (·.1)=ks.map Sum.inr/\ks≠[] /\
 (∀o,yA X σ (upd H d (.frz o (.dK kvs))) q key ks)/\∀k,k∈ks->(∀k'∈ks,key k<=key k')->Q (.str k) H
theorem Jq:∀{kvs:List (Key×V)}{vs:List (Key×Value)},KV kvs vs->vs.map (·.1)=kvs.map (·.1)
 |_,_,.nil=>rfl
 |_,_,.cons r t=>by rw[AQ,AQ,Jq t,r.1]
theorem iX{P:Program}{w:World}:∀{es:List DictEntry}{vs:List (Key×Value)},Pairs (aF P w) es vs->es.length=vs.length
 |_,_,.nil=>rfl
 |_,_,.cons _ _ t=>by rw[Bj,Bj,iX t]
theorem oq{X:Cx}{q:Addr}{pins:List (Addr×Obj)}{s:Shared}{σ:St}{H:Hp}{xs zs:List V}{us ws:List Value}{Q:VK}(hc:X.calm=true)(I:Inv X pins σ H s)(r:Vals xs us)(rz:Vals zs ws)(h:vP X σ q xs zs H Q) :
  (wq X) (call (.builtin "min") us ((["key"]:List Str).zip ws)) (EP X pins σ Q) X.xe s:=by
 obtain⟨d,kvs,ks,key,rfl,rfl,hd,hks,hne,hK,h1⟩:=h;obtain⟨u,rfl,rx⟩:=dq r;cases rx;obtain⟨rfl⟩:ws=[.ref q]:=by
  cases rz with
  |cons a b=>cases b;cases a;rfl
 have hname:(toString "min"++toString ".loop":String)="min.loop":=by decide
 show (wq X) (call (.builtin "min") [.ref d] [("key",.ref q)]) _ _ s;obtain⟨hz,hm,vs,kv,o,es,ep,ho,hex,hdd,hko,hpr,hnd⟩:=I.hok d _ hd;have hvs:vs.map (·.1)=ks.map Sum.inr:=(Jq kv).trans hks;have hat:∀h:Heap,h.get? d=some o->Heap.DictAt (aF X.prog X.w) h d vs ep:=fun h e=>⟨o,es,e,hex,hdd,hko,hpr,hnd⟩
 have hesz:es.size=vs.length:=by rw[<- Br];exact iX hpr
 have hlen:vs.length=ks.length:=by have:=congrArg List.length hvs;rw[AI,AI] at this;exact this
 have If:=I.freeze hd ho (fun _ z=>by cases z) (fun _ _ z=>by cases z) (fun _ z=>by cases z) (fun _ z=>by cases z);have hKo:=hK o;obtain⟨Hf,eHf⟩:∃Hf,Hf=upd H d (.frz o (.dK kvs)):=⟨_,rfl⟩
 rw[<- eHf] at If hKo;have hDf:Hf d=some (.frz o (.dK kvs)):=by rw[eHf];exact ae
 have back:∀(k:Str)(t:Tok)(s':Shared),k∈ks->(∀k'∈ks,key k<=key k')->Inv X pins σ Hf s'->EP X pins σ Q (.str k t) s':=fun k t s' hk hb I'=>by
  rw[eHf] at I';exact⟨.str k,H,Inv.thaw I hd (fun _ z=>by cases z) (fun _ _ z=>by cases z) (fun _ z=>by cases z) (fun _ z=>by cases z) I',⟨t,rfl⟩,h1 k hk hb⟩
 refine kmk_tree PySem.F.kind_min PySem.F.plain_min PySem.F.entry_min (kmk_min_key _ _) ?_;show wpAny _ X.A.in1 (Builtin.Builtins.bindParams "min" ["key","default"] 0 ⟨[],[("key",.ref q)]⟩ >>= _) _ _ s;refine EA (wpAny_of_eq (show Builtin.Builtins.bindParams "min" ["key","default"] 0 ⟨[],[("key",.ref q)]⟩=pure [some (.ref q),none] from rfl) ?_);refine EA (EB ?_);refine EA (gJ hm ho hex hdd ?_);refine EA (wpAny_newList ?_ (Bi _));rw[hname];have hll:d<s.heap.objs.size:=EL ho;obtain⟨oi,eoi⟩:∃oi:Obj,oi={cls:=.type "dict_keyiterator",data:=.fields #[.ref d,.int 0 0,.int es.size 0,.int ep 0]}:=⟨_,rfl⟩
 rw[<- eoi];have hS:(s.heap.push oi).objs.size=s.heap.objs.size+1:=size_push' ..;have hlI:d≠s.heap.objs.size:=AR hll;have hIS:s.heap.objs.size≠(s.heap.push oi).objs.size:=by rw[hS];exact AR (BY _)
 refine EB ⟨plainId_quiet PySem.F.plain_min_loop _,?_⟩;have K0:∀b o,s.heap.get? b=some o->((s.heap.push oi).push (seqObj "list" #[] 0)).get? b=some o:=fun b x e=>Fb _ (Fb _ e);have gI:((s.heap.push oi).push (seqObj "list" #[] 0)).get? s.heap.objs.size=some oi:=Fb _ (Fc _ (by rw[eoi];rfl));have gS:((s.heap.push oi).push (seqObj "list" #[] 0)).get? (s.heap.push oi).objs.size=some (seqObj "list" #[] 0):=Fc _ rfl;have fI:FY X pins Hf s.heap.objs.size:=If.Ju _ (AH _);have fS:FY X pins Hf (s.heap.push oi).objs.size:=If.Ju _ (by rw[hS];exact BL _);have I0:Inv X pins σ Hf {s with heap:=(s.heap.push oi).push (seqObj "list" #[] 0)}:=If.kept (t':=s.toks) K0;have hit0:((s.heap.push oi).push (seqObj "list" #[] 0)).IsKeyIter s.heap.objs.size d 0 vs.length ep:=⟨oi,gI,by rw[eoi],by rw[eoi,<- hesz];rfl⟩
 have hd0:=K0 _ _ ho;generalize (s.heap.push oi).objs.size=S at *;generalize (s.heap.push oi).push (seqObj "list" #[] 0)=hh at *;have W:=Walks.dictKeys (knd:=aF X.prog X.w) (prog:=X.prog) (w:=X.w) (A:=X.A.in1) (I.ok.hd hc) s.heap.objs.size d hlI vs ep;refine codeAny_builtin PySem.F.entry_min_loop ?_;rw[Around.under_plainId PySem.F.plain_min_loop _];show wpAny _ X.A.in1 (seqItems? (.ref _) >>= _) _ _ _;refine EA (wpAny_seqItems gS rfl ?_);show wpAny _ X.A.in1 (tryCatch (pyNext (.ref s.heap.objs.size)) _ >>= _) _ _ _;have hlt:0<ks.length:=BP.mpr hne;refine EA (wpAny_tryCatch (W.item 0 _ _ _ (by rw[hlen];exact hlt) ⟨hit0,hat _ hd0⟩ fun v h' tk' hP hst' hk'=>?_));obtain⟨k0,x0,hk0,hkv⟩:=hP;have ek:k0=Sum.inr ks[0]:=by
  have:=congrArg (fun l=>l[0]?) hvs;simp only[AW,hk0,AL hlt] at this;exact EM this
 subst ek;obtain⟨tv,rfl⟩:=nX hkv;have hmem:ks[0]∈ks:=Bq hlt;obtain⟨oI,hoI,hoc,hod⟩:=id hst'.1;have I1:Inv X pins σ Hf {s with heap:=h',toks:=tk'}:=fI.turn (s:={s with heap:=hh}) I0 fun b o hb e=>hk' b o (by simpa using hb) e;have hS':=hk' S _ (by simpa using EZ hIS) gS
 have IP:=I1.pinned (fp:=[s.heap.objs.size,S]) (fun b hb=>by
  rcases AN.mp hb with rfl|hb
  ·exact fI
  ·rw[AM.mp hb];exact fS) (fun b hb=>by
  rcases AN.mp hb with rfl|hb
  ·exact⟨oI,hoI,fun v e=>by rw[hod] at e;cases e⟩
  ·rw[AM.mp hb]; exact⟨_,hS',fun v e=>by cases e⟩)
 show wpAny _ X.A.in1 (tryCatch (holding [_] (call (.ref q) [_])) _ >>= _) _ _ _;refine EA (wpAny_tryCatch (EJ (EI (hKo _ _ _ tv IP hmem) (fun x s2 he=>?_) fun _ _ hF=>hF.elim)));obtain⟨_,_,I2,r2,rfl,rfl⟩:=he;obtain⟨tn,rfl⟩:=r2;have pin:∀b o,b∈[s.heap.objs.size,S]->h'.get? b=some o->s2.heap.get? b=some o:=fun b o hb e=>by
  have m:(b,o)∈cH [s.heap.objs.size,S] h':=BW.mpr ⟨b,hb,by rw[e];rfl⟩;exact(I2.pin (b,o) (AV _ (AV _ m))).1
 have gI2:=pin _ oI (.head _) hoI;have gS2:=pin S _ (.tail _ (.head _)) hS';have I3:=I2.FC;have s1:=Heap.SameBut.update s2.heap S (Obj.mapSeq fun _=>#[.str ks[0] tv,.int (key ks[0]) tn]);obtain⟨c2,hc2⟩:∃c2,(s2.heap.update S (Obj.mapSeq fun _=>#[.str ks[0] tv,.int (key ks[0]) tn])).get? S=some (seqObj "list" #[.str ks[0] tv,.int (key ks[0]) tn] c2):=⟨_,get?_update_seq gS2 fun _=>#[.str ks[0] tv,.int (key ks[0]) tn]⟩
 show wpAny _ X.A.in1 (updateSeq S (fun _=>#[.str ks[0] tv,.int (key ks[0]) tn]) >>= _) _ _ _;refine EA ?_;refine wpAny_updateSeq gS2 rfl ?_;rw[hname]
 refine EB ⟨plainId_quiet PySem.F.plain_min_loop _,pJ (pins:=pins) (σ:=σ) hvs hDf hat hKo hc hIS hlI _ 1 _ _ tv tn c2 rfl hlt (fS.turn (t':=s2.toks) I3 fun b o hb e=>by rw[s1.2 b hb]; exact e) fI fS ⟨oI,(s1.2 _ hIS).trans gI2,hoc,hod⟩ hc2 hmem (fun k h=>?_)
  fun k t s' a1 a2 a3=>back k t s' a1 a2 a3⟩
 have e:ks.take 1=[ks[0]]:=by rw[Bh,AL hlt];rfl
 rw[e] at h;rw[AM.mp h];exact CP _
def uE (lpos:Pos)(q:Str)(P:Addr)(js:List Nat)(te:TE)(tl:TE):TE:=fun σ H Q=>tl σ H fun x H1=>Gb lpos q P H1/\∃(d:Addr)(kvs:List (Key×V))(ks:List Str)(key:Str->Int),x=.ref d/\H1 d=some (.dK kvs)/\kvs.map (·.1)=ks.map Sum.inr/\ks≠[] /\
 (∀H2 o k,SmB P H1 H2->k∈ks->te ([some (.str k)]++bJ js σ) (upd H2 d (.frz o (.dK kvs))) fun v H'=>v=.int (key k)/\H'=upd H2 d (.frz o (.dK kvs))) /\
 ∀k H2,k∈ks->(∀k'∈ks,key k<=key k')->SmB P H1 H2->Gb lpos q P H2->Q (.str k) H2
theorem oT{X:Cx}{l body:Expr}{tl te:TE}{params:Arguments}{scope:Scope}{lpos kpos p pos:Pos}{c P:Addr}{q y:Str}{cap:List Str}{js:List Nat}(LK:Ll X.K X.mg c P)(hcode:X.env.code=.ref c)(hq:X.env.qual++"<lambda>"=q)(hd:defaultsOf params X.env=([],[]))(CS:Fu X scope [y] cap js)
  (hy:scope.names.lookup y=some .local)(hco:scope.isCoroutine=false)(hge:scope.isGenerator=false)(hbind:∀cl pm cd ct u,bindArgs (W.kla_fn "<lambda>" q params body scope cl pm cd ct) ⟨[u],[]⟩=pure [(y,u)])
  (hc:X.calm=true)(hdp:X.A.depth<recursionLimit)(hb:∀f c s H,PE (rD X X.A.in1 scope q f (.ref c) ([y]++cap) s H) body te)(hg:Gl X "min")(hm:X.mg "min"=none)(hv:bootBuiltins "min"=some (.builtin "min"))(hl:PE X l tl)
  (hall:(backToKw pos (keywordEach [⟨some "key",.Lambda params body scope lpos,kpos⟩] X.env)).all (·.1.isSome)=true:=by rfl)(hks:(backToKw pos (keywordEach [⟨some "key",.Lambda params body scope lpos,kpos⟩] X.env)).filterMap (·.1)=(["key"]:List Str):=by rfl)
  (he:starEach [l] X.env=(false,eval l X.env)::starEach [] X.env:=by rfl)
  (hpl:((backTo pos (starEach [l] X.env)).any (·.1)||(backToKw pos (keywordEach [⟨some "key",.Lambda params body scope lpos,kpos⟩] X.env)).any (·.1.isNone))=false:=by rfl) :
  PE X (.Call (.Name "min" p) [l] [⟨some "key",.Lambda params body scope lpos,kpos⟩] pos) (uE lpos q P js te tl):=by
 intro pins s σ H Q I h;refine wpAny_Call_Name_kw (eF I hg hm hv ?_ (by decide) (by decide));refine dA hpl ?_
 have hA:=(Fn hl FE he:PA X [l] (gy tl Jt)) pos pins s σ H (fun vs H1=>match vs with
  |[x]=>Gb lpos q P H1/\∃(d:Addr)(kvs:List (Key×V))(ks:List Str)(key:Str->Int),x=.ref d/\H1 d=some (.dK kvs)/\kvs.map (·.1)=ks.map Sum.inr/\ks≠[] /\
    (∀H2 o k,SmB P H1 H2->k∈ks->te ([some (.str k)]++bJ js σ) (upd H2 d (.frz o (.dK kvs))) fun v H'=>v=.int (key k)/\H'=upd H2 d (.frz o (.dK kvs))) /\
    ∀k H2,k∈ks->(∀k'∈ks,key k<=key k')->SmB P H1 H2->Gb lpos q P H2->Q (.str k) H2
  | _=>False) I h
 rw[he] at hA ⊢;refine evalArgs_kw hall (thn hA fun us s1 hq76=>?_);obtain⟨vs,H1,I1,r1,q1⟩:=hq76;obtain⟨x,rfl⟩:∃x,vs=[x]:=by
  match vs,q1 with
  |[x],_=>exact⟨x,rfl⟩
 obtain⟨hL,d,kvs,ks,key,rfl,hdk,hks',hne,hte,hfin⟩:=q1;have hdP:d≠P:=by
  obtain⟨ps,hP,_⟩:=hL.ex;exact bD hdk hP (fun z=>by cases z)
 have hkw:=(uF (nm:=some "key") (kpos:=kpos) (wb (body:=body) (pos:=lpos) LK hcode hq hd CS) Ks) pos pins s1 σ H1 (fun zs H2=>∃a,zs=[.ref a]/\vP X σ a [.ref d] zs H2 Q) I1 (by
  refine⟨hL,fun a c' pm ct H' hn ha hcd hT hS=>⟨a,rfl,d,kvs,ks,key,rfl,rfl,hS d _ hdP hdk,hks',hne,fun o pins s k t I hk=>?_,fun k hk hmin=>hfin k H' hk hmin hS hT⟩⟩;have na:a≠d:=bD ha (hS d _ hdP hdk) (fun z=>by cases z);have nc:c'≠d:=bD hcd (hS d _ hdP hdk) (fun z=>by cases z)
  exact rm (A:=X.A.in1) (x:=.str k) I.ok.frames hdp I CS hy hco hge (by rw[ai na]; exact ha) (by rw[ai nc]; exact hcd) (hbind _ _ _ _ _) (hb _ _ _ _) ⟨t,rfl⟩ (hte H' o k hS hk))
 refine thn hkw fun ws s2 hq77=>?_;obtain⟨zs,H2,I2,rz,q2⟩:=hq77;obtain⟨a,_,q2⟩:=q2;rw[hks];exact oq hc I2 r1 rz q2
theorem Fun.okC{P:Program}{w:World}{K:W.Frag}{mg:Str->Option Value}{base:Heap}{x qual:Str}{st:Stmt}{f:Addr}{fd:FuncData}{N ps:List Str}{k:Nat}{sp:Sp}{c:Addr}(F:Fun K x qual st f fd)(hcode:fd.code=.ref c)(S:Fs N ps (ar st))(len:∀vs H Q E,sp vs H Q E->vs.length=ps.length)
  (hbody:∀(A:Around) (outer:List Env) (s:Shared) (H:Hp) (vs:List V) (Q:VK) (E:XK),Gy k (A.deeper (envOfC qual (ar st) s.heap.objs.size f (.ref c)))->sp vs H Q E ->
   ∃t,PSs (cg CX0 P w K mg base N qual (ar st) f (.ref c) A outer s H E).nox (bw st) t/\t { nx:=fun _ H'=>Q .non H',rt:=Q } (start N vs) H):Fx P w K mg base CX0 (k+1) f fd ps sp:=by
 obtain⟨oc,od,kV,doc,pm,an,cdv,ct,osl,rfl,lk,hcd⟩:=F.ex;have e:cdv=.ref c:=hcode;subst e;refine we lk hcd S len fun A outer s H vs Q E hr hsp=>?_;obtain⟨t,h,q⟩:=hbody A outer s H vs Q E hr hsp;exact⟨t,h.nox,q⟩
end L2
namespace L2
open PySem PySem.Spec PyProof.Rows
def wd (T:Addr)(H:Hp):Prop:=∀b,b≠T->H b=none\/∃o xs,H b=some (.frz o (.lst xs))
theorem nA{P:Program}{T c0:Addr}{ps:Array Value}{w:World}{K:W.Frag}{mg mb:Str->Option Value}{CX:CXT}{k:Nat}{fa a:Addr}{fd:FuncData}{x:Str}{sp:Sp}{s₁:Shared}{vs:List Value}{ns:List Int}
  (gT:s₁.heap.get? T=some (W.tabObj ps))(kT:K.lookup T=none)(cT:W.CodeHd s₁.heap c0 T)
  (KX:K.In s₁.heap)(hns:s₁.heap.Ns mainGlobals mg)(hb:s₁.heap.Ns builtinsNs mb)(hbb:∀x:Str,x≠"__name__"->mb x=bootBuiltins x)(hlim:s₁.heap.NoLimit)(hg:s₁.gens=#[])
  (ha:s₁.heap.get? a=some {cls:=.type "list",data:=.seq vs.toArray})(hi:IntsAre vs ns)(hl:ns.length<=sizeLine)(hr:Gy k callerA)
  (F:∀base:Heap,K.In base->base.Ns mainGlobals mg->Fx P w K mg base CX k fa fd [x] sp)(hbind:∀(s:Shared)(u:Value),BindsTo s fd ⟨[u],[]⟩ [(x,u)])
  (hsp:∀H:Hp,H T=some (.tbl ps)->wd T H->SqL K H a (ns.map V.int)->sp [.ref a] H (fun v _=>v=.bl true) fun _ _ _=>False)
  (hCX:∀H e s',CX [] H s₁ (fun _ _ _=>False) e s'->False) :
  codeAny (model P w) callerA (.call (.ref fa) ⟨[.ref a],[]⟩) (fun r s'=>r=.ok (.ret (.bool true))/\OldK s₁.heap s'.heap/\s'.os=s₁.os/\AllBare s'.gens) s₁:=by
 have rv:=HA hi;have lenV:=hi.length;have aT:a≠T:=fun z=>by rw[z,gT] at ha;cases ha
 have core:∀H:Hp,H T=some (.tbl ps)->wd T H->SqL K H a (ns.map V.int)->HOk P w H s₁.heap->(∀b,H b≠none->b=a\/b=T)->(H a≠none->K.lookup a=none) ->
   codeAny (model P w) callerA (.call (.ref fa) ⟨[.ref a],[]⟩) (fun r s'=>r=.ok (.ret (.bool true))/\OldK s₁.heap s'.heap/\s'.os=s₁.os/\AllBare s'.gens) s₁:=by
  intro H hT hO hS hok hA hK;have base_of:∀{b:Addr}{o:Obj},s₁.heap.get? b=some o->H b=none->(qt s₁.heap H).get? b=some o:=fun e n=>qJ e n;have noA:∀{b:Addr}{o:Obj}{es:Array DictEntry}{ep:Nat},s₁.heap.get? b=some o->o.data=.dict es ep->H b=none:=fun {b o es ep} e d=>by
   cases q:H b with
   |none=>rfl
   |some u=>
    rcases hA b (by rw[q];simp) with e'|e'
    ·subst e';rw[ha] at e;cases e;have d':Data.seq vs.toArray _=Data.dict es ep:=d;cases d'
    ·subst e';rw[gT] at e;cases e;have d':Data.fields ps=Data.dict es ep:=d;cases d'
  have nsK:∀{b:Addr}{m:Str->Option Value},s₁.heap.Ns b m->(qt s₁.heap H).Ns b m:=fun {b m} ⟨o,es,ep,e,d,r⟩=>⟨o,es,ep,base_of e (noA e d),d,r⟩
  have hKb:K.In (qt s₁.heap H):=fun b o e=>base_of (KX b o e) (by
   cases q:H b with
   |none=>rfl
   |some u=>
    rcases hA b (by rw[q];simp) with e'|e'
    ·subst e';rw[hK (by rw[q];simp)] at e;cases e
    ·subst e'
     rw[kT] at e; cases e)
  have hM:Mod K mg (qt s₁.heap H):=⟨hKb,nsK hns,⟨mb,nsK hb,hbb⟩,let ⟨mc,h1,h2⟩:=hlim;⟨mc,nsK h1,h2⟩⟩
  have e0:Lq P w K mg (qt s₁.heap H) callerA [] s₁ H:=⟨rfl,hM,fun b o e=>tj e,Df (nr _ _),trivial,fun b hb=>absurd (show b∈([]:List Addr) from hb) (by simp),hok,.of_eq hg⟩
  refine codeAny_mono ((F _ hKb (nsK hns)).run callerA [] s₁ H ⟨[.ref a],[]⟩ [.ref a] [.ref a] _ _ hr e0 (hbind s₁ (.ref a)) (.cons rfl .nil) (hsp H hT hO hS)) fun r s' h=>?_;cases r with
  |error e=>exact(hCX H e s' h).elim
  |ok fl=>
   cases fl with
   |next=>exact False.elim h
   |brk=>exact False.elim h
   |cont=>exact False.elim h
   |ret u=>
    obtain⟨v,H',os,bare,un,hok',r',q⟩:=h;have q':v=.bl true:=q;subst q';obtain rfl:u=Value.bool true:=r';have key:∀b o,s₁.heap.get? b=some o->b≠T->s'.heap.get? b=some o:=fun b o e nT=>by
     cases q:H b with
     |none=>exact un.keep b o e q (by intro z;exact absurd (show b∈([]:List Addr) from z) (by simp)) (by simp)
     |some u=>
      rcases hO b nT with z|⟨ob,xs,z⟩
      ·rw[q] at z;cases z
      ·have z2:=un.IH b ob _ z;obtain⟨e1,_⟩:=hok b _ z;obtain⟨e2,_⟩:=hok' b _ z2;rw[e] at e1;cases e1;exact e2
    obtain⟨more,zT⟩:=un.IK T ps hT;have gT':s'.heap.get? T=some {cls:=.none,data:=.fields (ps++more)}:=hok' T _ zT;obtain⟨oc,vc,_,_,_,_,_,_,_,c1,c2,c3,c4,_⟩:=cT;refine⟨rfl,⟨fun b o e=>?_,fun b o e=>?_⟩,os,bare⟩
    ·by_cases nT:b=T
     ·subst nT;rw[gT] at e;cases e;exact .inr (.inl ⟨⟨c0,oc,vc,c1,c2,c3,c4⟩,rfl,ps,more,rfl,gT'⟩)
     ·exact .inl (key b o e nT)
    ·by_cases nT:b=T
     ·subst nT;exact⟨_,gT'⟩
     ·exact⟨o,key b o e nT⟩
 cases hk:K.lookup a with
 |some o=>
  have e:=KX a o hk;rw[ha] at e;cases e;refine core (fun b=>if b=T then some (.tbl ps) else none) (EF rfl) (fun b nb=>.inl (EE nb)) (.inr ⟨_,vs.toArray,_,hk,rfl,rfl,rfl,by rw[Bb,lenV];exact hl,by simpa using rv⟩) (fun b u z=>?_) (fun b z=>?_) fun z=>absurd (EE aT) z
  ·by_cases hb:b=T
   ·have z':=(EF hb).symm.trans z;cases z';subst hb;exact gT
   ·have z':=(EE hb).symm.trans z;cases z'
  ·by_cases hb:b=T
   ·exact .inr hb
   ·exact absurd (EE hb) z
 |none=>
  refine core (fun b=>if b=T then some (.tbl ps) else if b=a then some (.frz {cls:=.type "list",data:=.seq vs.toArray} (.lst (ns.map V.int))) else none) (EF rfl) (fun b nb=>?_) (.inl (.inr ⟨{cls:=.type "list",data:=.seq vs.toArray},(EE aT).trans (EF rfl)⟩)) (fun b u z=>?_) (fun b z=>?_) fun _=>hk
  ·by_cases hb:b=a
   ·exact .inr ⟨_,_,(EE nb).trans (EF hb)⟩
   ·exact .inl ((EE nb).trans (EE hb))
  ·by_cases hT:b=T
   ·have z':=(EF hT).symm.trans z;cases z';subst hT;exact gT
   ·by_cases hb:b=a
    ·have z':=((EE hT).trans (EF hb)).symm.trans z;cases z';subst hb;exact⟨ha,by rw[AI];exact hl,vs,_,rv,ha⟩
    ·have z':=((EE hT).trans (EE hb)).symm.trans z;cases z'
  ·by_cases hT:b=T
   ·exact .inr hT
   ·by_cases hb:b=a
    ·exact .inl hb
    ·exact absurd ((EE hT).trans (EE hb)) z
theorem Jw{l:W.OpenLaw}{n k:Nat}{q:Program}{loose:List Str}{XP:(Str->Option Value)->Heap->Prop}{YP:World->Heap->Prop}{d:DefRec}{K KF:Params->W.Frag}{CX:World->CXT}{sp:World->Sp}{x:Str}{T c0:Addr}{ps:Array Value}
  (hn:l.most=some n)(hn2:n<=sizeLine)(hdf:d.params.defaults=[])(hr:Gy k callerA)
  (hY:∀(w:World)(h:Heap),YP w h->(KF w.params).In h)(hKF:∀(p:Params)(h:Heap),(KF p).In h->(K p).In h/\h.get? T=some (W.tabObj ps)/\W.CodeHd h c0 T)(kT:∀p:Params,(K p).lookup T=none)
  (F:∀(w:World) (mg:Str->Option Value) (fa:Addr) (h:Heap),(K w.params).In h->h.Ns mainGlobals mg->mg d.name=some (.ref fa) ->
   ∃fd:FuncData,(∀(s:Shared)(u:Value),BindsTo s fd ⟨[u],[]⟩ [(x,u)]) /\
    ∀base:Heap,(K w.params).In base->base.Ns mainGlobals mg->Fx l.prog w (K w.params) mg base (CX w) k fa fd [x] (sp w))
  (hsp:∀(w:World)(H:Hp)(a:Addr)(ns:List Int),ns.length<=n->H T=some (.tbl ps)->SqL (K w.params) H a (ns.map V.int)->sp w [.ref a] H (fun v _=>v=.bl true) fun _ _ _=>False)
  (hCX:∀(w:World)(H:Hp)(s:Shared)(e:Value)(s':Shared),CX w [] H s (fun _ _ _=>False) e s'->False) :
  W.WalkO q loose XP YP l.row.toRowW d [] (fun f vs=>PySem.call f vs):=by
 refine Att.HX hn hdf fun w s₀ s₁ mg mb fa o pm cd doc a vs ns G Y ho hd hcd hmg hobj hints hlen hg=>?_;obtain⟨KX,gT,cT⟩:=hKF _ _ (hY w _ Y);obtain⟨fd,hb,hF⟩:=F w mg fa _ KX G.T.g hmg;exact nA gT (kT _) cT KX G.T.g G.T.b G.T.builtins G.T.nolimit hg hobj hints (AX hlen hn2) hr hF hb (fun H hT hO hS=>hsp w H a ns hlen hT hS) fun H e s'=>hCX w H s₁ e s'
section
variable {X:Cx}{scope:Scope}{ts cap:List Str}{js:List Nat}{tg0 tg1 elt iter0 iter1:Expr}{ifs0 ifs1:List Expr}{pos:Pos}
theorem rM{wi:TI}{g:TG}{tc:TT}{wi1:TI}{g1:TG}{tc1:TT}{te:TE}{i:Nat}{y:Str}{py spos:Pos}(hc:X.calm=true)(CS:Fu X scope ts cap js)(hi:PI X tg0 iter0 wi)(hg:∀C fp s H,PG (au X scope C fp (ts++cap) s H) tg0 g)
  (ht:∀C fp s H,PTs (au X scope C fp (ts++cap) s H) ifs0 tc)(hi1:∀C fp s H,PI (au X scope C fp (ts++cap) s H) tg1 iter1 wi1)
  (hg1:∀C fp s H,PG (au X scope C fp (ts++cap) s H) tg1 g1)(ht1:∀C fp s H,PTs (au X scope C fp (ts++cap) s H) ifs1 tc1)(he:∀C fp s H,PE (au X scope C fp (ts++cap) s H) elt te)
  (hN:X.N.Nodup)(hy:X.N[i]?=some y)(hx:Loc X.env.scope y)(hsw:swapsWith (.ListComp elt [⟨tg0,iter0,ifs0,0⟩,⟨tg1,iter1,ifs1,0⟩] scope pos) (some (.Name y py)) spos.line X.env=pure true)
  (hs1:∀C x,foldedSetIterable iter1 (compEnvC scope (cU X.env.cells scope.names []) C X.env) x=pure x:=by intro _ _;rfl)
  (hs:∀x,foldedSetIterable iter0 X.env x=pure x:=by intro _;rfl)(hf:X.fn y=true\/X.env.scope.names.lookup y=some .local:=by first|exact .inl rfl|exact .inr rfl|assumption) :
  PS X (.Assign [.Name y py] (.ListComp elt [⟨tg0,iter0,ifs0,0⟩,⟨tg1,iter1,ifs1,0⟩] scope pos) spos) (vR (wN wi ts.length js g tc wi1 g1 tc1 te) i):=by
 intro pins s σ H D I h;rw[exec_Assign_Name_used _ _ _ _ hsw];refine EA (wpAny_standAt (EA ?_));show wpAny _ X.A (do let _ <- comprehension (.ListComp elt [⟨tg0,iter0,ifs0,0⟩,⟨tg1,iter1,ifs1,0⟩] scope pos) scope X.env _ (newList []) false (eval iter0 X.env) (some (assign (.Name y py) X.env))) _ _ s
 refine EA (EI (wpAny_comprehension_free (use:=some (assign (.Name y py) X.env)) (Q:=fun _ s'=>SP X pins D .next s') rfl hs (bu (CS.cells I.ok)) CS.kind CS.names
  (thn (hi pins s σ H _ I h) fun v s1 h1=>thn h1 fun itv s2 h2=>?_)) (fun _ s' hq=>EB (EB hq)) fun _ _ e=>e)
 obtain⟨it,fp,tn,J,H2,e,I2,T,st2,f2,W,⟨m0,w0⟩,turn⟩:=h2;subst e;refine jq (RR:=fun acc C=>compPost (model X.prog X.w) X.A X.xe (some (assign (.Name y py) X.env)) (fun _ s'=>SP X pins D .next s') acc C) hc I2 T st2 f2 CS hg ht hi1 hg1 ht1 he hs1 w0 turn ?_;intro D' C s' H' ys m I' hn hC hD hCD hHC hHD fin;have szL:=I2.lt;have low:∀b o,s2.heap.get? b=some o->b≠C:=fun b o e=>AR (Be (EL e) hC);have hCL:X.env.locals≠C:=AR (Be szL hC);have hcell:∀x c,X.env.cells.lookup x=some c->c≠C:=fun x c e=>by
  obtain⟨v,o,ho,_⟩:=I2.cell x c e;exact low c o ho
 show wpAny _ X.A (assign (.Name y py) X.env (.ref D')) _ _ _;refine wpAny_assign_Name (fB (v:=.ref D') I' hN hy hx rfl (fun s'' I'' hch=>?_) hf);obtain⟨a,hsb,ha⟩:=hch;have hCa:C≠a:=by
  rcases ha with z|z
  ·rw[z];exact EZ hCL
  ·exact EZ (hcell _ _ z)
 refine⟨m,hn.sameBut hsb hCa,fun h' hs'=>⟨_,_,dI (n0:=0) I'' (Heap.get?_none_of_le (AX I2.sz hC)) hCL hcell (fun p hp=>low _ _ (I2.pin p hp).1) (by rw[ai hCD];exact hHC) hs',fin D' hHD⟩⟩
end
def tMid (t:TS):TS:=fun D σ H=>∃M:St->Hp->Prop,t {D with nx:=M} σ H/\∀σ' H',M σ' H'->D.nx σ' H'
theorem ip{X:Cx}{st:Stmt}{t:TS}(h:PS X st t):PS X st (tMid t):=by
 intro pins s σ H D I hw;obtain⟨M,h1,h2⟩:=hw;refine EI (h pins s σ H {D with nx:=M} I h1) (fun fl s' hs=>?_) fun _ _ e=>e;cases fl with
 |next=>
  obtain⟨σ',H',J,q⟩:=hs;exact⟨σ',H',J,h2 σ' H' q⟩
 |ret u=>exact hs
 |brk=>exact hs
 |cont=>exact hs
def yt (t:TE):TE:=fun σ H Q=>∃M:VK,t σ H M/\∀v H',M v H'->Q v H'
theorem oE{X:Cx}{e:Expr}{t:TE}(h:PE X e t):PE X e (yt t):=by
 intro pins s σ H Q I hw;obtain⟨M,h1,h2⟩:=hw;refine EI (h pins s σ H M I h1) (fun v s' hq78=>?_) fun _ _ e=>e;obtain⟨x,H',J,r,q⟩:=hq78;exact⟨x,H',J,r,h2 x H' q⟩
theorem iq(elt target iter:Expr)(ifs:List Expr)(scope:Scope)(pos:Pos)(it acc:Value)(env:Env) :
  compTurn (.SetComp elt [⟨target,iter,ifs,0⟩] scope pos) 0 it acc env=(do
   standAt iter.pos
   match <- pyNext it with
   |none=>pure (.done .next)
   |some v=>
    letOwnedTupleGo target it v
    assign target env v
    let mut ok:=true
    for c in ifs do
     if ok then ok <- isTrue c env (eval c env)
    if ok then
     (do
      let v <- eval elt env
      standAt elt.pos
      let _ <- call (.builtin "set.add") [acc,v])
    again (.compLoop (.SetComp elt [⟨target,iter,ifs,0⟩] scope pos) 0 it acc env)):=by rfl
theorem jS{prog:Program}{w:World}{A:Around}{R:Result->Shared->Prop}{s:Shared}{elt target iter:Expr}{ifs:List Expr}{scope:Scope}{pos:Pos}{it acc:Value}{env:Env}(I:Nat->Shared->Prop)
  (turn:∀n s,I n s->wpAny (model prog w) A (pyNext it) (fun r s₁=>match r with
   |none=>R (.ok .next) s₁
   | some v=>wpAny (model prog w) A (letOwnedTupleGo target it v) (fun _ s₁'=>wpAny (model prog w) A (assign target env v) (fun _ s₂ =>
     wpAny (model prog w) A (forIn ifs true fun c r=>if r=true then do let ok <- isTrue c env (eval c env); pure (ForInStep.yield ok) else pure (ForInStep.yield r)) (fun ok s₃ =>
      if ok=true then wpAny (model prog w) A (eval elt env) (fun x s₄ =>
       wpAny (model prog w) A (call (.builtin "set.add") [acc,x]) (fun _ s₅=>∃m,m < n/\I m s₅) (fun _ _=>False) s₄) (fun _ _=>False) s₃
      else ∃m,m < n/\I m s₃) (fun _ _=>False) s₂) (fun _ _=>False) s₁') (fun _ _=>False) s₁) (fun _ _=>False) s)
  (n:Nat) (h:I n s):codeAny (model prog w) A (.compLoop (.SetComp elt [⟨target,iter,ifs,0⟩] scope pos) 0 it acc env) R s:=by
 refine codeAny_loop rfl I (fun n s hI=>?_) n h;show wpAny _ A ((compTurn (.SetComp elt [⟨target,iter,ifs,0⟩] scope pos) 0 it acc env).onRaise (fun x=>do noteFrame x env;theTreesLotGoes x)) _ _ s;refine wpAny_noted ?_;rw[iq];refine EA (wpAny_standAt (EA (EI (turn n s hI) (fun r s₁ h₁=>?_) fun _ _ h'=>h'.elim)));cases r with
 |none=>exact EB h₁
 |some v=>
  refine EA (EI h₁ (fun _ s₁' h₁'=>?_) fun _ _ h'=>h'.elim);refine EA (EI h₁' (fun _ s₂ h₂=>EA (EI h₂ (fun ok s₃ h₃=>?_) fun _ _ h'=>h'.elim)) fun _ _ h'=>h'.elim);cases ok with
  |false=>exact EB ⟨rfl,h₃⟩
  |true=>
   exact EA (EA (EI h₃ (fun x s₄ h₄=>EA (wpAny_standAt (EA (EI h₄ (fun _ s₅ h₅=>EB (EB ⟨rfl,h₅⟩)) fun _ _ h'=>h'.elim)))) fun _ _ h'=>h'.elim))
theorem cC{prog:Program}{w:World}{A:Around}{R:Result->Shared->Prop}{s:Shared}{elt target iter:Expr}{ifs:List Expr}{rest:List Comprehension}{scope:Scope}{pos:Pos}{it acc:Value}{env:Env}
  (h0:codeAny (model prog w) A (.compLoop (.SetComp elt (⟨target,iter,ifs,0⟩::rest) scope pos) 0 it acc env) R s)
  (h:wpAny (model prog w) A (pyIter it) (fun it' s'=>codeAny (model prog w) A (.compLoop (.SetComp elt (⟨target,iter,ifs,0⟩::rest) scope pos) 0 it' acc env) R s')
   (notedBy (model prog w) A env fun x s'=>R (.error x) s') s) :
  codeAny (model prog w) A (.compStart (.SetComp elt (⟨target,iter,ifs,0⟩::rest) scope pos) 0 it acc env) R s:=by
 refine codeAny_of_tree (show wpAny _ A (Sem.onRaise (compStart (.SetComp elt (⟨target,iter,ifs,0⟩::rest) scope pos) 0 it acc env) _) _ _ s from wpAny_notedAt ?_);unfold compStart;refine EA (m:=ask) (wpAny_askSetting (wpAny_ite ?_));split
 ·(first|exact EB ⟨rfl,h0⟩|exact EA (EB (EB ⟨rfl,h0⟩)))
 ·refine EA (Fk ?_)
  first
   |exact EA (wpAny_standAt (EA (thn h fun _ _ h'=>EB ⟨rfl,h'⟩)))
   |(show wpAny _ _ (standAt iter.pos >>= _) _ _ s;exact EA (wpAny_standAt (EA (thn h fun _ _ h'=>EB ⟨rfl,h'⟩))))
def ddS:List Str->List Str
 |[]=>[]
 |x::r=>if x∈ddS r then ddS r else x::ddS r
theorem Gi{x:Str}:∀{l:List Str},x∈ddS l↔x∈l
 |[]=>Iff.rfl
 |y::r=>by
  unfold ddS;split
  ·rename_i h;rw[Gi,AN];exact⟨.inr,fun z=>z.elim (fun e=>by rw[e];exact Gi.mp h) id⟩
  ·rw[AN,AN,Gi]
theorem Iu:∀l:List Str,(ddS l).Nodup
 |[]=>.nil
 |y::r=>by
  unfold ddS;split
  ·exact Iu r
  ·rename_i h;exact BK.mpr ⟨h,Iu r⟩
theorem HS:∀l:List Str,(ddS l).length<=l.length
 |[]=>AH _
 |y::r=>by
  unfold ddS;have:=HS r;split
  ·exact Ea this
  ·exact Ff this
section
variable {X:Cx}{pins:List (Addr×Obj)}{σ:St}{H:Hp}{s:Shared}{scope:Scope}{ts cap:List Str}{js:List Nat}{fp:List Addr}{C D:Addr}
theorem mw{s':Shared}{σ':St}{H':Hp}{o:Obj}(I:Inv X pins σ H s)(hf:∀b∈fp,FY X pins H b)
  (I':Inv (au X scope C fp (ts++cap) s H) [(D,o)] σ' H' s'):Inv X pins σ H' s':=by
 have u:=I'.base;refine I.Km (ch:=fp) I'.os ⟨fun b o e n hb hx=>u.keep b o e n hb hx,fun b o e n hb hx=>u.slot b o e n hb hx,fun b o e n hx=>u.free b o e n hx,fun b o e hx=>u.there b o e hx,fun b xs e=>u.IQ b xs e,fun b o xs e=>u.IH b o xs e,fun b ps e=>u.IK b ps e⟩ I'.hok I'.bare fun b hb=>?_;obtain⟨f0,f1,f2,f3,f4,f5⟩:=hf b hb;exact⟨f3,f1,f4,f5⟩
end
theorem jF(t:SetTable)(n:Nat):(t.orStandIn n).led=t.led/\((t.orStandIn n).plain=t.plain\/(t.orStandIn n).plain=false):=by
 unfold SetTable.orStandIn;split
 ·exact⟨rfl,.inl rfl⟩
 ·exact⟨rfl,.inr rfl⟩
theorem lN(t:SetTable)(es:Array (Int×Value))(h:Int)(x:Value):(layNew t es h x).2.1.led=t.led:=by
 unfold layNew;split
 ·exact(jF _ _).1
 ·rfl
theorem qV{mask finger moves:Nat}{led plain:Bool}{hashes:Array Int}{r:SetTable×Array Nat}(h:SetTable.laid mask finger moves led plain hashes=some r):r.1.led=led/\r.1.plain=plain:=by
 unfold SetTable.laid at h;simp only[Option.bind_eq_bind,Option.pure_def,Option.bind_eq_some_iff] at h;obtain⟨_,_,h⟩:=h;cases h;exact⟨rfl,rfl⟩
theorem qm(t:SetTable)(es:Array (Int×Value))(n:Nat):(relayAll t es n).2.1.led=t.led/\(t.plain=false->(relayAll t es n).2.1.plain=false):=by
 unfold relayAll;split
 ·rename_i t' order h;obtain⟨h1,h2⟩:=qV h;dsimp only;split
  ·exact⟨h1,fun z=>h2.trans z⟩
  ·exact⟨rfl,fun _=>rfl⟩
 ·exact⟨rfl,fun _=>rfl⟩
def HJ (P:Program)(w:World)(L:Bool)(o:Obj)(ys:List Str):Prop:=o.ExactSet/\∃es ep t,o.data=.set es ep t/\ElemsOf (strKind P w) es.toList/\(es.toList.map fun e=>strOf e.2).Perm (ddS ys)/\t.fits es.size=true/\t.led=L/\(0<es.size->t.plain=false)
theorem HJ.fresh(P:Program)(w:World)(L:Bool):HJ P w L {cls:=.type "set",dict:=none,data:=.set #[] 0 (.fresh 0 0 L)} []:=
 ⟨⟨rfl,rfl,rfl⟩,#[],0,_,rfl,fun e he=>by simp at he,.refl _,by rfl,rfl,fun h=>absurd h (Bl _)⟩
section
variable {prog:Program}{w:World}{A:Around}{E:Value->Shared->Prop}{s:Shared}{a:Addr}{o:Obj}{L:Bool}{ys:List Str}{z:Str}{tz:Tok}
theorem HJ.nc(h:HJ prog w L o ys):∀v,o.data≠.cell v:=fun v q=>by
 obtain⟨_,es,ep,t,hd,_⟩:=h;rw[hd] at q;cases q
theorem sU{e:Int×Value}{l:List (Int×Value)}(h:ElemsOf (strKind prog w) l)(he:e∈l):∃x t,e.2=.str x t:=by
 obtain⟨k,hk⟩:=h.keys e he;obtain⟨t,ht⟩:=Value.isStrOf_shape hk;exact⟨k,t,ht⟩
theorem isz(x y:Str)(t:Tok):Value.isStrOf x (.str y t)=decide (x=y):=by
 cases h:Value.isStrOf x (.str y t) with
 |true=>
  obtain⟨u,e⟩:=Value.isStrOf_shape h;cases e;exact(EG rfl).symm
 |false=>
  refine(EH fun e=>?_).symm;subst e;have:Value.isStrOf x (.str x t)=true:=EG rfl;rw[this] at h;cases h
theorem vM{g:Bool->Sem Unit}(hg:∀(b:Bool)(s₁:Shared)(Q':Unit->Shared->Prop),Q' () s₁->wpAny (model prog w) A (g b) Q' E s₁){es:Array (Int×Value)}{ep:Nat}{t:SetTable}(ho:s.heap.get? a=some o)(hex:o.ExactSet)(hd:o.data=.set es ep t)
  {es1:Array (Int×Value)}{t2:SetTable}(hel1:ElemsOf (strKind prog w) es1.toList)(hp1:(es1.toList.map fun e=>strOf e.2).Perm (ddS ys))(hb1:es1.size<scanBound)(hf2:t2.fits es1.size=true)(hl2:t2.led=L)(hpl2:t2.plain=false){wasDummy:Bool}{R:Option Bool->Shared->Prop}
  (h:∀h' o',Heap.SameBut a s.heap h'->h'.get? a=some o'->HJ prog w L o' ys->R (some true) {s with heap:=h'}) :
  wpAny (model prog w) A (storeSet a es1 t2 >>= fun _=>if (!wasDummy&&t2.tooFull)=true then g (relayAll t2 es1 (SetTable.grown es1.size)).2.2 >>= fun _=>storeSet a (relayAll t2 es1 (SetTable.grown es1.size)).1 (relayAll t2 es1 (SetTable.grown es1.size)).2.1 >>= fun _=>pure (some true) else pure (some true)) R E s:=by
 have at1:∀(h0:Heap)(o0:Obj)(es0:Array (Int×Value))(ep0:Nat)(t0:SetTable)(es':Array (Int×Value))(t':SetTable),h0.get? a=some o0->o0.data=.set es0 ep0 t0->(h0.update a (Obj.putSet es' t')).get? a=some {o0 with data:=.set es' (ep0+1) t'}:=fun h0 o0 es0 ep0 t0 es' t' h1 h2=>by
  have:=Heap.get?_update_self (Obj.putSet es' t') h1 (by rw[putSet_of es' t' h2];rfl);rw[putSet_of es' t' h2] at this;exact this
 refine EA (wpAny_storeSet_of ho hd ?_ (fits_of_scanBound hb1));have g1:=at1 _ _ _ _ _ es1 t2 ho hd;have b1:=Heap.SameBut.update s.heap a (Obj.putSet es1 t2);split
 ·have hp:=relayAll_perm t2 es1 (SetTable.grown es1.size);have hfr:=relayAll_fits t2 es1 (SetTable.grown es1.size);obtain⟨hlr,hpr⟩:=qm t2 es1 (SetTable.grown es1.size);generalize relayAll t2 es1 (SetTable.grown es1.size)=Rl at hp hfr hlr hpr ⊢;obtain⟨es2,t3,gave2⟩:=Rl;dsimp only at hp hfr hlr hpr ⊢;have hsz:es2.size=es1.size:=by rw[<- Br,hp.length_eq,Br]
  refine EA (hg _ _ _ (EA (wpAny_storeSet_of g1 rfl ?_ (fits_of_scanBound (by rw[hsz];exact hb1)))));refine EB (h _ _ (b1.trans (Heap.SameBut.update _ a _)) (at1 _ _ _ _ _ es2 t3 g1 rfl) ⟨hex,es2,_,t3,rfl,hel1.perm hp,(hp.map _).trans hp1,hfr,hlr.trans hl2,fun _=>hpr hpl2⟩)
 ·exact EB (h _ _ b1 g1 ⟨hex,es1,_,t2,rfl,hel1,hp1,hf2,hl2,fun _=>hpl2⟩)
theorem addL{Q:Value->Shared->Prop}(ho:s.heap.get? a=some o)(h:HJ prog w L o ys)(hb:(ddS ys).length+1<scanBound)
  (hQ:∀h' o',Heap.SameBut a s.heap h'->h'.get? a=some o'->HJ prog w L o' (z::ys)->Q .none {s with heap:=h',toks:=s.toks+1}) :
  wpAny (model prog w) A (call (.builtin "set.add") [.ref a,.str z tz]) Q E s:=by
 obtain⟨hex,es,ep,t,hd,hel,hp,hf,hl,hpl⟩:=h;have hn:es.size=(ddS ys).length:=by rw[<- hp.length_eq,AI,Br]
 have hkey:(strKind prog w).is z (.str z tz)=true:=EG rfl;have hsc:(Value.str z tz).scannable=true:=rfl;refine Fi F.slot_set_add ⟨o,ho,hex.1⟩ F.entry_set_add ?_ (F.args_set_add_2 _ _);unfold Builtin.«set.add» Builtin.Frozenset.oneOther;simp only[List.isEmpty_nil,bind_assoc];unfold Builtin.Frozenset.addrOf setAdd setAddHashed setAddHashedIn;refine EA (EB (EA (EB ?_)));refine EA (EJ (EA ((strKind prog w).pyHash hkey (EJ (EA (EY (s:={s with toks:=s.toks+1}) ho hd hf ?_))))));dsimp only;rw[byScan_of hsc (by rw[hn];lia) hel];simp only[↓reduceIte];unfold setAddByScan;refine EA (EA (Fk (EA (wpAny_setScan_of hkey ho hd hf hel ?_))));have hfind:∀e∈es.toList,((strKind prog w).is z e.2=true↔strOf e.2=z):=fun e he=>by
  obtain⟨x,t,ex⟩:=sU hel he;rw[ex];show Value.isStrOf z (.str x t)=true↔x=z;rw[isz,decide_eq_true_iff];exact eq_comm
 have hmem:z∈ys↔∃e∈es.toList,strOf e.2=z:=by
  rw[<- Gi,<- hp.mem_iff,AJ]
 cases hr:List.findIdx? (fun e=>(strKind prog w).is z e.2) es.toList with
 |some j=>
  obtain⟨hj,hpj,_⟩:=List.findIdx?_eq_some_iff_getElem.mp hr;have hz:z∈ys:=hmem.mpr ⟨_,Bq hj,(hfind _ (Bq hj)).mp hpj⟩;have e1:ddS (z::ys)=ddS ys:=by
   show(if z∈ddS ys then ddS ys else z::ddS ys)=_;rw[EF (Gi.mpr hz)]
  refine EB (EB (show wpAny _ _ (ret Value.none) _ _ _ from EB ⟨_,rfl,?_⟩));exact hQ s.heap o (Heap.SameBut.refl a s.heap) ho ⟨hex,es,ep,t,hd,hel,by rw[e1];exact hp,hf,hl,hpl⟩
 |none=>
  have hz:z∉ys:=fun hz=>by
   obtain⟨e,he,ez⟩:=hmem.mp hz;have:=List.findIdx?_eq_none_iff.mp hr e he;rw[(hfind e he).mpr ez] at this;cases this
  have e1:ddS (z::ys)=z::ddS ys:=by
   show(if z∈ddS ys then ddS ys else z::ddS ys)=_;rw[EE (fun q=>hz (Gi.mp q))]
  have hperm:=layNew_perm t es ((strKind prog w).hash z) (.str z tz);have hfits:=layNew_fits t es ((strKind prog w).hash z) (.str z tz);have hled:=lN t es ((strKind prog w).hash z) (.str z tz);dsimp only;generalize layNew t es ((strKind prog w).hash z) (.str z tz)=Ln at hperm hfits hled ⊢;obtain⟨es1,t1,wasDummy,gave⟩:=Ln;dsimp only at hperm hfits hled ⊢;rw[Array.toList_push] at hperm;have hsz:es1.size=(ddS ys).length+1:=by rw[<- Br,hperm.length_eq,AK,Br,hn];rfl
  have hp1:(es1.toList.map fun e=>strOf e.2).Perm (ddS (z::ys)):=by
   rw[e1];refine(hperm.map _).trans ?_;rw[AU];exact(List.perm_append_comm).trans (hp.cons z)
  have gw:∀(b:Bool)(s₁:Shared)(Q':Unit->Shared->Prop),Q' () s₁->wpAny (model prog w) A.in1 (match b with|true=>rule "set.scan.the-table-gave-way" |false=>pure ()) Q' E s₁:=fun b s₁ Q' hq=>by
   cases b
   ·exact EB hq
   ·exact Fk hq
  refine EA (gw _ _ _ ?_);have fin:∀h' o',Heap.SameBut a s.heap h'->h'.get? a=some o'->HJ prog w L o' (z::ys)->wpAny (model prog w) A.in1 (pure true) (fun _ s'=>wpAny (model prog w) A.in1 (ret Value.none) (fun fin s'=>∃v,fin=Fin.done (Flow.ret v)/\Q v s') E s') E {s with heap:=h',toks:=s.toks+1}:=fun h' o' h1 h2 h3=>EB (EB ⟨_,rfl,hQ h' o' h1 h2 h3⟩);split
  ·refine EA ?_;rw[hashByValue_scannable 8 hsc];refine EB (vM (s:={s with toks:=s.toks+1}) gw ho hex hd ((hel.push hkey hsc).perm hperm) hp1 (by lia) (SetTable.fits_plain_off hfits) (hled.trans hl) rfl fin)
  ·rename_i npl;refine EA (EB ?_);exact vM (s:={s with toks:=s.toks+1}) gw ho hex hd ((hel.push hkey hsc).perm hperm) hp1 (by lia) hfits (hled.trans hl) (by cases hq:t1.plain with|false=>rfl|true=>exact absurd hq npl) fin
def eI (w:World):Bool:=!w.params.followText "set-order"
theorem uI{Q:Value->Shared->Prop}(h:Q (.ref s.heap.objs.size) {s with heap:=s.heap.push {cls:=.type "set",dict:=none,data:=.set #[] 0 (.fresh 0 0 (eI w))}}):wpAny (model prog w) A (newSet (.type "set")) Q E s:=by
 unfold newSet setsByText;refine EA (EA (wpAny_askSetting (EB ?_)));simp only[newObj];exact EA (wpAny_alloc (EB h))
end
section
variable {X:Cx}{pins:List (Addr×Obj)}{σ:St}{H:Hp}{s:Shared}{scope:Scope}{ts cap:List Str}{js:List Nat}{fp:List Addr}{C D:Addr}
theorem jP{tg elt iter:Expr}{ifs:List Expr}{pos:Pos}{g:TG}{tc:TT}{te:TE}{J:It}{it:Addr}{tn:Nat->Heap->Prop}{W:Nat->Nat->List Str->Hp->Prop}{m0:Nat}{E:Value->Shared->Prop}
  {RR:Value->Addr->Result->Shared->Prop}{Fin:List Str->Hp->Prop}
  (I:Inv X pins σ H s)(T:TurnOk X.prog X.w fp it tn)(TA:∀C,Je (au X scope C fp (ts++cap) s H) tg J fp it tn)(st:tn 0 s.heap)(hf:∀b∈fp,FY X pins H b)(CS:Fu X scope ts cap js)
  (hg:∀C fp s H,PG (au X scope C fp (ts++cap) s H) tg g)(ht:∀C fp s H,PTs (au X scope C fp (ts++cap) s H) ifs tc)(he:∀C fp s H,PE (au X scope C fp (ts++cap) s H) elt te)
  (w0:W 0 m0 [] H)
  (turn:∀i m ys H,W i m ys H->(J.stop i H/\ys.length<=4000/\Fin ys H)\/(J.go i H/\ys.length < 4000/\∀x H',J.yld i H x H'->g x (List.replicate ts.length none++bJ js σ) H' fun σ2 H2=>tc σ2 H2 fun b H3 =>
   if b=true then te σ2 H3 fun y H4=>∃z,y=.str z/\∃m',m' < m/\W (i+1) m' (z::ys) H4 else ∃m',m' < m/\W (i+1) m' ys H3))
  (hRR:∀D C s' H' ys m o,Inv X pins σ H' s'->s'.heap.get? D=some o->HJ X.prog X.w (eI X.w) o ys->s'.heap.Ns C m->s.heap.objs.size<=C->s.heap.objs.size<=D->C≠D->H' C=none->H' D=none->Fin ys H'->RR (.ref D) C (.ok .next) s') :
  (wq X) (newSet (.type "set")) (fun acc s₃=>(wq X) (newFunctionEnv scope X.env.globals (cU X.env.cells scope.names []) [] X.env.qual none .none (some X.env)) (fun cenv s₄ =>
   codeAny (model X.prog X.w) X.A (.compStart (.SetComp elt [⟨tg,iter,ifs,0⟩] scope pos) 0 (.ref it) acc { cenv with scope:=relabel scope X.env }) (RR acc cenv.locals) s₄) E s₃) E s:=by
 refine uI ?_;refine(wpAny_newFunctionEnv CS.Gu (by intro y hy;simp at hy) (fun h₁ hns₁ hsb₁=>?_) CS.kind);dsimp only at hns₁ hsb₁ ⊢;generalize hH2:s.heap.push {cls:=.type "set",dict:=none,data:=.set #[] 0 (.fresh 0 0 (eI X.w))}=H2 at hns₁ hsb₁ ⊢;generalize ho0:({cls:=.type "set",dict:=none,data:=.set #[] 0 (.fresh 0 0 (eI X.w))}:Obj)=o0 at hH2;have hs0:HJ X.prog X.w (eI X.w) o0 []:=by rw[<- ho0];exact HJ.fresh _ _ _
 have hnc:∀v,o0.data≠.cell v:=by rw[<- ho0];intro v z;cases z
 have hfz:o0.isFreed=false:=by rw[<- ho0];rfl
 clear ho0;have hCs:H2.objs.size=s.heap.objs.size+1:=by rw[<- hH2,Fj]
 have hDC:s.heap.objs.size≠H2.objs.size:=by rw[hCs];exact AR (BY _)
 have hCle:s.heap.objs.size<=H2.objs.size:=by rw[hCs];exact BL _
 have below:∀b,b<s.heap.objs.size->b≠H2.objs.size:=fun b hb=>by rw[hCs];exact AR (BS hb)
 have old:∀b o,s.heap.get? b=some o->h₁.get? b=some o:=fun b o e=>hsb₁.extBut b o (below b (EL e)) (Fb _ (hH2▸Fb _ e));have hacc:h₁.get? s.heap.objs.size=some o0:=hsb₁.extBut _ _ hDC (Fb _ (hH2▸Fc _ hfz));have hfl:∀b∈fp,b<s.heap.objs.size:=fun b hb=>by obtain⟨o,e,_⟩:=T.obj _ _ st b hb;exact EL e
 have st₁:tn 0 h₁:=T.keep _ _ _ st fun b _ o e=>old b o e;have hDstk:s.heap.objs.size∉frs X.stack:=fun z=>by
  obtain⟨_,o,ho,_⟩:=I.stack.mem z;exact absurd (EL ho) (Bl _)
 have I0:Inv (au X scope H2.objs.size fp (ts++cap) s H) [(s.heap.objs.size,o0)] (List.replicate ts.length none++bJ js σ) H {s with heap:=h₁,toks:=s.toks+([]:List (Str×Value)).length}:=
  gn I CS hf hfl hCle old hns₁ rfl I.bare fun p hp=>by
   have e:p=(s.heap.objs.size,o0):=by simpa using hp
   subst e;exact⟨hacc,I.hok.fresh (AH _),hDC,hDstk,hnc⟩
 have stat:∀{H':Hp}{o:Obj},(∀b∈fp,H' b=none)->∀b∈fp,FY (au X scope H2.objs.size fp (ts++cap) s H) [(s.heap.objs.size,o)] H' b:=fun {H' o} hn b hb=>by
  obtain⟨f0,f1,f2,f3,f4,f5⟩:=hf b hb;refine⟨hn b hb,below b (hfl b hb),?_,.inl hb,fun x c e=>f4 x c (CS.look I.ok e),fun p hp=>?_⟩
  ·exact(gA I CS hf hfl hCle).JC b hb
  ·rcases AO.mp hp with z|z
   ·exact f5 p (Bo _ z)
   ·have e:p=(s.heap.objs.size,o):=by simpa using z
    subst e;intro q;have q':s.heap.objs.size=b:=q;exact absurd (hfl b hb) (by rw[<- q'];exact Bl _)
 have loop:∀s₃:Shared,s₃={s with heap:=h₁,toks:=s.toks+([]:List (Str×Value)).length} ->
   codeAny (model X.prog X.w) X.A (.compLoop (.SetComp elt [⟨tg,iter,ifs,0⟩] scope pos) 0 (.ref it) (.ref s.heap.objs.size) (compEnvC scope (cU X.env.cells scope.names []) H2.objs.size X.env))
    (RR (.ref s.heap.objs.size) H2.objs.size) s₃:=by
  rintro s₃ rfl;refine jS (fun k s'=>∃i H' ys o,Inv (au X scope H2.objs.size fp (ts++cap) s H) [(s.heap.objs.size,o)] (List.replicate ts.length none++bJ js σ) H' s'/\HJ X.prog X.w (eI X.w) o ys/\tn i s'.heap/\(∀b∈fp,H' b=none)/\W i k ys H') ?_ m0
   ⟨0,H,[],o0,I0,hs0,st₁,fun b hb=>(hf b hb).1,w0⟩
  rintro k s3 ⟨i,H3,ys,o,I3,v3,st3,fr3,w3⟩;rcases turn i k ys H3 w3 with ⟨stop,hz,fin⟩|⟨go,hz,step⟩
  ·refine thn ((TA _).done i _ s3 _ H3 _ I3 (stat fr3) st3 stop) fun r s4 hq79=>?_;obtain⟨hr,I4⟩:=hq79;subst hr;obtain⟨m4,hn4,_⟩:=I4.loc;exact hRR _ _ s4 H3 ys m4 o (mw I hf I4) (I4.pin (s.heap.objs.size,o) (AV _ AS)).1 v3 hn4 hCle (AH _) (EZ hDC) I4.free (I4.pin (s.heap.objs.size,o) (AV _ AS)).2.1 fin
  ·refine thn ((TA _).item i _ s3 _ H3 _ I3 (stat fr3) st3 go) fun r s4 hq80=>?_;obtain⟨u,hr,h4⟩:=hq80;subst hr;refine thn h4 fun _ s5 hq81=>?_;obtain⟨x,H5,I5,r5,y5,st5,fr5⟩:=hq81;have I5':=I5.pinned (stat fr5) (T.obj _ _ st5);refine thn (hg _ _ _ _ _ s5 _ H5 x u _ I5' r5 (step x H5 y5)) fun _ s6 hq82=>?_;obtain⟨σ6,H6,I6,q6⟩:=hq82;refine thn (ht _ _ _ _ _ s6 σ6 H6 _ I6 q6) fun ok s7 hq83=>?_;obtain⟨H7,I7,q7⟩:=hq83;have pinned:∀{σ':St}{H':Hp}{s':Shared},Inv (au X scope H2.objs.size fp (ts++cap) s H) ([(s.heap.objs.size,o)]++cH fp s5.heap) σ' H' s'->tn (i+1) s'.heap/\∀b∈fp,H' b=none:=fun {σ' H' s'} J=>by
    refine⟨T.keep _ _ _ st5 fun b hb o e=>(J.pin (b,o) (AV _ (AV _ (aQ hb e)))).1,fun b hb=>?_⟩;obtain⟨o,e,d⟩:=T.obj _ _ st5 b hb;exact(J.pin (b,o) (AV _ (AV _ (aQ hb e)))).2.1
   cases ok with
   |false=>
    rw[EE Bm] at q7 ⊢;obtain⟨m',hm,w7⟩:=q7;obtain⟨st7,fr7⟩:=pinned I7;exact⟨m',hm,i+1,H7,ys,o,bM I CS hf I7.FC,v3,st7,fr7,w7⟩
   |true=>
    rw[EF rfl] at q7 ⊢;refine thn (he _ _ _ _ _ s7 σ6 H7 _ I7 q7) fun yv s8 hq84=>?_;obtain⟨y,H8,I8,r8,z,ez,m',hm,w8⟩:=hq84;subst ez;obtain⟨tz,rfl⟩:∃t,yv=.str z t:=r8;obtain⟨st8,fr8⟩:=pinned I8;have I8':=bM I CS hf I8.FC;obtain⟨hDg,hDn,hDC',hDs,hDd⟩:=I8'.pin (s.heap.objs.size,o) (AV _ AS);have hl:=HS ys;refine addL hDg v3 (BN (Ff (AX hl (BA hz))) (show 4000+1<scanBound by decide)) fun h9 o9 hs9 hD9 v9=>?_;have nc9:=v9.nc;have tracked:∀b o,b≠s.heap.objs.size->s8.heap.get? b=some o->h9.get? b=some o:=fun b o hb e=>hs9.extBut b o hb e;have I9:Inv (au X scope H2.objs.size fp (ts++cap) s H) [(s.heap.objs.size,o9)] (List.replicate ts.length none++bJ js σ) H8 {s8 with heap:=h9,toks:=s8.toks+1}:=by
     have J0:Inv (au X scope H2.objs.size fp (ts++cap) s H) [] (List.replicate ts.length none++bJ js σ) H8 s8:=I8'.Ge (fun p hp=>absurd hp (by simp))
     have J:Inv (au X scope H2.objs.size fp (ts++cap) s H) [] (List.replicate ts.length none++bJ js σ) H8 { s8 with heap:=h9,toks:=s8.toks+1 }:=J0.turned (it:=s.heap.objs.size) tracked hDn hDC' (.inr (Heap.get?_none_of_le (AH _))) (fun x c e q=>by
      obtain⟨v,o,ho,_⟩:=I.cell x c (CS.look I.ok e);rw[q] at ho;exact absurd (EL ho) (Bl _)) (fun p hp q=>by
       rw[Bp] at hp;obtain⟨e,_⟩:=I.pin p (Bo _ hp);rw[q] at e
       exact absurd (EL e) (Bl _))
     refine J.Ge fun p hp=>?_;have e:p=(s.heap.objs.size,o9):=by simpa using hp
     subst e;exact⟨hD9,hDn,hDC',hDs,nc9⟩
    have st9:tn (i+1) h9:=T.keep _ _ _ st8 fun b hb o e=>tracked b o (AR (hfl b hb)) e;exact⟨m',hm,i+1,H8,z::ys,o9,I9,v9,st9,fr8,w8⟩
 exact cC (loop _ rfl) (T.self _ _ _ _ _ st₁ (loop _ rfl))
end
section
variable {X:Cx}{scope:Scope}{ts cap:List Str}{js:List Nat}{tg elt iter:Expr}{ifs:List Expr}{pos:Pos}{wi:TI}{g:TG}{tc:TT}{te:TE}
abbrev Jn:=St->Hp->(List Str->Hp->Prop)->Prop
def vg (X:Cx)(e:Expr)(t:Jn):Prop:=
 ∀(pins:List (Addr×Obj))(s:Shared)(σ:St)(H:Hp)(Q:List Str->Hp->Prop),Inv X pins σ H s->t σ H Q ->
  (wq X) (eval e X.env) (fun v s'=>∃D o ys H',v=.ref D/\Inv X pins σ H' s'/\s'.heap.get? D=some o/\HJ X.prog X.w (eI X.w) o ys/\(ddS ys).length<scanBound/\Q ys H') X.xe s
def sD (J:It)(k:Nat)(js:List Nat)(g:TG)(tc:TT)(te:TE)(σ:St)(H1:Hp)(Q:List Str->Hp->Prop):Prop:=
 ∃W:Nat->Nat->List Str->Hp->Prop,(∃m,W 0 m [] H1)/\∀i m ys H,W i m ys H ->
  (J.stop i H/\ys.length<=4000/\Q ys H) \/
  (J.go i H/\ys.length<4000/\∀x H',J.yld i H x H'->g x (List.replicate k none++bJ js σ) H' fun σ2 H2=>tc σ2 H2 fun b H3=>if b=true then te σ2 H3 fun y H4=>∃z,y=.str z/\∃m',m'<m/\W (i+1) m' (z::ys) H4 else ∃m',m'<m/\W (i+1) m' ys H3)
def yj (wi:TI)(k:Nat)(js:List Nat)(g:TG)(tc:TT)(te:TE):Jn:=fun σ H Q=>wi σ H fun J H1=>sD J k js g tc te σ H1 Q
theorem ng(hc:X.calm=true)(CS:Fu X scope ts cap js)(hi:PI X tg iter wi)(hg:∀C fp s H,PG (au X scope C fp (ts++cap) s H) tg g)
  (ht:∀C fp s H,PTs (au X scope C fp (ts++cap) s H) ifs tc)(he:∀C fp s H,PE (au X scope C fp (ts++cap) s H) elt te)
  (hs:∀x,foldedSetIterable iter X.env x=pure x:=by intro _;rfl):vg X (.SetComp elt [⟨tg,iter,ifs,0⟩] scope pos) (yj wi ts.length js g tc te):=by
 intro pins s σ H Q I h;refine wpAny_comprehension_free (e:=.SetComp elt [⟨tg,iter,ifs,0⟩] scope pos) (use:=none) rfl hs (bu (CS.cells I.ok)) CS.kind CS.names (thn (hi pins s σ H _ I h) fun v s1 h1=>thn h1 fun itv s2 h2=>?_);obtain⟨it,fp,tn,J,H2,e,I2,T,st2,f2,W,⟨m0,w0⟩,turn⟩:=h2;subst e;refine jP (Fin:=fun ys H=>Q ys H/\(ddS ys).length<scanBound) (RR:=fun acc C=>compPost (model X.prog X.w) X.A X.xe none (fun v s'=>∃D o ys H',v=.ref D/\Inv X pins σ H' s'/\s'.heap.get? D=some o/\HJ X.prog X.w (eI X.w) o ys/\(ddS ys).length<scanBound/\Q ys H') acc C) I2 ⟨T.obj,T.keep,T.self⟩ (fun C=>⟨T.item (au X scope C fp (ts++cap) s2 H2) rfl rfl rfl hc,T.done (au X scope C fp (ts++cap) s2 H2) rfl rfl rfl hc⟩) st2 f2 CS hg ht he w0 (fun i m ys H' w=>(turn i m ys H' w).imp (fun hq85=>by obtain⟨a,b,c⟩:=hq85;exact⟨a,b,c,BN (AX (HS ys) b) (show 4000<scanBound by decide)⟩) id) ?_;intro D C s' H' ys m o I' hD' hS' hn hC hD hCD hHC hHD fin;have szL:=I2.lt;have low:∀b o,s2.heap.get? b=some o->b≠C:=fun b o e=>AR (Be (EL e) hC);refine⟨m,hn,fun h' hs'=>⟨D,o,ys,H',rfl,dI (n0:=0) I' (Heap.get?_none_of_le (AX I2.sz hC)) (AR (Be szL hC)) (fun x c e=>?_) (fun p hp=>?_) hHC hs',hs'.extBut _ _ (EZ hCD) hD',hS',fin.2,fin.1⟩⟩
 ·obtain⟨v,o,ho,_⟩:=I2.cell x c e;exact low c o ho
 ·exact low _ _ (I2.pin p hp).1
end
theorem FK:Slot "set_iterator" "__next__" "set_iterator.__next__":=.of (owner:="set_iterator") (n:="__next__") (by rw[typeLookup_type,builtinLookup_eq_fast];kernel_rfl) (by decide +kernel) (by decide +kernel) (by decide +kernel) (by first|exact .inl (by decide +kernel)|exact .inr (by decide +kernel)) (by rw[isSubtype_type];kernel_rfl)
theorem Gz:entryFor table "set_iterator.__next__"=some Builtin.«set_iterator.__next__»:=entryFor_of_tree (by kernel_rfl)
theorem HV:entryFor table "set.__iter__"=some Builtin.«frozenset.__iter__»:=entryFor_alias (id':="frozenset.__iter__") (by kernel_rfl) rfl (by decide +kernel) (by kernel_rfl)
theorem gr(a:Value):argsOk "set_iterator.__next__" ⟨[a],[]⟩:=by unfold argsOk;kernel_rfl
abbrev siO(first:Value)(i:Nat)(D:Addr)(n ep:Nat):Obj:={cls:=.type "set_iterator",data:=.fields #[first,rawInt i,.ref D,rawInt n,rawInt ep]}
section
variable {prog:Program}{w:World}{A:Around}{E:Value->Shared->Prop}{s:Shared}{a:Addr}{o:Obj}{ys:List Str}
theorem eD{α:Type}:∀(l:List α)(i:Nat)(h:i<l.length),(l[i]::l.eraseIdx i).Perm l
 |x::xs,0,_=>.refl _
 |x::xs,i+1,h=>(List.Perm.swap x (xs[i]'(Nat.lt_of_succ_lt_succ h)) (xs.eraseIdx i)).trans ((eD xs i (Nat.lt_of_succ_lt_succ h)).cons x)
theorem mv{M:Model}{src:Source}{n:Nat}{Q:Nat->Shared->Prop}(hn:n≠0)(h:∀i d,i<n->Q i {s with drawn:=d}):wpAny M A (choose src n) Q E s:=fun Γ p _=>⟨hn,h _ _ (Nat.mod_lt _ (Nat.pos_of_ne_zero hn))⟩
theorem fX{α:Type}:∀(n:Nat)(xs:List α)(s:Shared)(Q:List α->Shared->Prop),xs.length=n->(∀ys d,ys.Perm xs->Q ys {s with drawn:=d})->wpAny (model prog w) A (drawOrder n xs) Q E s
 |0,xs,s,Q,hl,h=>by
  rw[Bv.mp hl];have:=h [] s.drawn (by rw[Bv.mp hl]);exact EB this
 |n+1,[],s,Q,hl,h=>by cases hl
 |n+1,x::xs,s,Q,hl,h=>by
  show wpAny _ _ (choose .order (x::xs).length >>= _) _ _ _;refine EA (mv (by simp) fun i d hi=>?_);rw[AL hi];refine EA (fX n ((x::xs).eraseIdx i) _ _ (by rw[Eu hi,hl];rfl) fun ys d' hy=>?_);refine EB (h _ _ ?_);exact(hy.cons _).trans (eD _ i hi)
theorem qE{es:Array (Int×Value)}{ep:Nat}{t:SetTable}{Q:Value->Shared->Prop}(ho:s.heap.get? a=some o)(hex:o.ExactSet)(hd:o.data=.set es ep t)(hf:t.fits es.size=true)(hz:es.size<=sizeLine)
  (hA:(w.params.followText "set-order"=true\/t.plain=true\/es.size<=1)->Q (.ref s.heap.objs.size) {s with heap:=s.heap.push (siO (rawInt 0) 0 a es.size ep)})
  (hB:w.params.followText "set-order"=false->t.plain=false->1<es.size->∀(ps:List Nat) d,ps.Perm (List.range es.size)->Q (.ref (s.heap.objs.size+1)) {s with heap:=(s.heap.push (seqObj "tuple" (ps.map fun i=>rawInt (i:Nat)).toArray 0)).push (siO (.ref s.heap.objs.size) 0 a es.size ep),drawn:=d}) :
  wpAny (model prog w) A (pyIter (.ref a)) Q E s:=by
 have hT:s.TypeIs (.ref a) "set":=⟨o,ho,hex.1⟩
 refine wpAny_pyIter_slot hT F.slot_set_iter (Fi F.slot_set_iter hT HV ?_ (F.args_set_iter_1 _));unfold Builtin.«frozenset.__iter__» Builtin.Frozenset.slot0 Builtin.Frozenset.sizeOf Builtin.Frozenset.addrOf setDrawn setEpoch setEntries setsByText;refine EA (EA (EB (EB ?_)));refine EA (EA (EA (EY ho hd hf (EB (EB ?_)))));refine EA (EA (EY ho hd hf (EA (EA (wpAny_askSetting (EB (EB ?_)))))));dsimp only;split
 ·rename_i hc;have h2:(!w.params.followText "set-order" && (!t.plain&&decide (es.size>1)))=true:=hc;rw[Bx,Bx,decide_eq_true_eq] at h2;obtain⟨h3,h4,h5⟩:=h2;refine EA (fX _ _ _ _ BG fun ps d hp=>?_);refine EA (wpAny_newTuple ?_ (by rw[AI,hp.length_eq,BG];exact hz));refine EA (EA (EY (Fb _ ho) hd hf (EB ?_)));refine EA (wpAny_newObj_type (EB ⟨_,rfl,"set_iterator",_,⟨_,Fc _ rfl,rfl⟩,FK.lookup,?_⟩));have:=hB (by cases q:w.params.followText "set-order" with|false=>rfl|true=>rw[q] at h3;cases h3) (by cases q:t.plain with|false=>rfl|true=>rw[q] at h4;cases h4) h5 ps d hp;rw[show s.heap.objs.size+1=(s.heap.push (seqObj "tuple" (ps.map fun i=>rawInt (i:Nat)).toArray 0)).objs.size by rw[Fj]] at this;exact this
 ·rename_i hc;have h2:¬(!w.params.followText "set-order" && (!t.plain&&decide (es.size>1)))=true:=hc;refine EA (EB (EA (EA (EY ho hd hf (EB ?_)))));refine EA (wpAny_newObj_type (EB ⟨_,rfl,"set_iterator",_,⟨_,Fc _ rfl,rfl⟩,FK.lookup,hA ?_⟩));by_cases h3:w.params.followText "set-order"=true
  ·exact .inl h3
  ·by_cases h4:t.plain=true
   ·exact .inr (.inl h4)
   ·refine .inr (.inr (DP fun h5=>h2 ?_));rw[CT.mpr h3,CT.mpr h4,EG h5];rfl
theorem mi{I D Pl:Addr}{ps:List Nat}{i p n ep:Nat}{es:Array (Int×Value)}{t:SetTable}{e:Int×Value}{Q:Option Value->Shared->Prop}(hI:s.heap.get? I=some (siO (.ref Pl) i D n ep))(hP:s.heap.get? Pl=some (seqObj "tuple" (ps.map fun i=>rawInt (i:Nat)).toArray 0))(ho:s.heap.get? D=some o)(hd:o.data=.set es ep t)(hf:t.fits es.size=true)(hn:es.size=n)(hi:ps[i]?=some p)(he:es[p]?=some e)
  (hQ:∀h',Heap.SameBut I s.heap h'->h'.get? I=some (siO (.ref Pl) (i+1) D n ep)->Q (some e.2) {s with heap:=h'}):wpAny (model prog w) A (pyNext (.ref I)) Q E s:=by
 have hT:s.TypeIs (.ref I) "set_iterator":=⟨_,hI,rfl⟩
 unfold pyNext;refine EA (Fh (wpAny_callSpecial?_slot (name:=Str.ofString "__next__") hT FK (Fi FK hT Gz ?_ (gr _))));unfold Builtin.«set_iterator.__next__» setEntries;refine EA (EB ?_);refine EA (wpAny_fieldsOf hI rfl ?_);refine EA (EA (EY ho hd hf (EB ?_)));dsimp only;rw[EE (by rw[hn];simp)];have hpl:(ps.map fun i=>rawInt (i:Nat)).toArray[((i:Nat):Int).toNat]?=some (rawInt (p:Nat)):=by rw[Bu,Cr,AW,hi];rfl
 refine EA (wpAny_seqItems hP rfl ?_);dsimp only;rw[hpl];show wpAny _ _ (setNextDrawn D ((p:Nat):Int).toNat ((ep:Nat):Int).toNat >>= _) _ _ _;rw[Bu,Bu];unfold setNextDrawn;refine EA (EA (EY ho hd hf ?_));dsimp only;rw[EE (by simp),he];refine EB ?_;refine EA (wpAny_setField hI rfl (by simp) ?_);refine EB ⟨_,rfl,EB (hQ _ (Heap.SameBut.update ..) ?_)⟩;exact Heap.get?_update_self (Obj.mapFields (·.setIfInBounds 1 (rawInt ((i:Nat)+1)))) hI rfl
theorem iB{F:PySem.Fin->Shared->Prop}{Q:Option Value->Shared->Prop}(hh:A.handled=none)(hQ:∀h',(∀b u,s.heap.get? b=some u->h'.get? b=some u)->Q none {s with heap:=h'}) :
  wpAny (model prog w) A.in1 (newExc (.type "StopIteration") [] >>= fun e=>raiseNew e) F (fun e s'=>wpAny (model prog w) A (isInstance e (.type "StopIteration") >>= fun b=>if b=true then pure none else throw e) Q E s') s:=by
 refine EA ?_;simp only[newExc,newTuple];refine EA (wpAny_newObj_type (EA (m:=firstArgMember _ _) (wpAny_of_eq (a:=Value.none) (by first|rfl|(simp only[firstArgMember];rfl)) (wpAny_newObj_type ?_ (by size_fits)))) (by size_fits));simp only[raiseNew];refine EA (wpAny_handled ?_);rw[show A.in1.handled=none from hh];refine EA (EB (wpAny_throw ?_));refine EA (wpAny_isInstance (T:="StopIteration") (b:=true) ⟨_,Fc _ rfl,rfl⟩ isSubtype_stop (EB (hQ _ fun b u e=>?_)));exact Fb _ (Fb _ e)
theorem oC{I D Pl:Addr}{ps:List Nat}{i n ep:Nat}{es:Array (Int×Value)}{t:SetTable}{Q:Option Value->Shared->Prop}(hh:A.handled=none)(hI:s.heap.get? I=some (siO (.ref Pl) i D n ep))(hP:s.heap.get? Pl=some (seqObj "tuple" (ps.map fun i=>rawInt (i:Nat)).toArray 0))(ho:s.heap.get? D=some o)(hd:o.data=.set es ep t)(hf:t.fits es.size=true)(hn:es.size=n)(hi:ps[i]?=none)
  (hQ:∀h',(∀b u,b≠I->s.heap.get? b=some u->h'.get? b=some u)->Q none {s with heap:=h'}):wpAny (model prog w) A (pyNext (.ref I)) Q E s:=by
 have hT:s.TypeIs (.ref I) "set_iterator":=⟨_,hI,rfl⟩
 unfold pyNext;refine EA (Fh (wpAny_callSpecial?_slot (name:=Str.ofString "__next__") hT FK (Fi FK hT Gz ?_ (gr _))));unfold Builtin.«set_iterator.__next__» setEntries;refine EA (EB ?_);refine EA (wpAny_fieldsOf hI rfl ?_);refine EA (EA (EY ho hd hf (EB ?_)));dsimp only;rw[EE (by rw[hn];simp)];have hpl:(ps.map fun i=>rawInt (i:Nat)).toArray[((i:Nat):Int).toNat]?=none:=by rw[Bu,Cr,AW,hi];rfl
 refine EA (wpAny_seqItems hP rfl ?_);dsimp only;rw[hpl];dsimp only;refine EA (wpAny_setField hI rfl (by simp) ?_);have h1:=Heap.get?_update_self (Obj.mapFields (·.setIfInBounds 0 (rawInt 0))) hI rfl;refine EA (wpAny_setField h1 rfl (by simp) ?_);refine iB hh fun h' hk=>?_;refine hQ h' fun b u nb e=>hk b u ?_;exact(Heap.SameBut.update _ I _).extBut b u nb ((Heap.SameBut.update _ I _).extBut b u nb e)
theorem ir{I D:Addr}{i n ep slot nxt:Nat}{x:Value}{es:Array (Int×Value)}{t:SetTable}{Q:Option Value->Shared->Prop}(hI:s.heap.get? I=some (siO (rawInt (slot:Nat)) i D n ep))(ho:s.heap.get? D=some o)(hd:o.data=.set es ep t)(hf:t.fits es.size=true)(hn:es.size=n)
  (hx:∀(B:Around)(E':Value->Shared->Prop)(Q':Option (Value×Nat)->Shared->Prop),Q' (some (x,nxt)) s->wpAny (model prog w) B (setNext D slot i ep) Q' E' s)
  (hQ:∀h',Heap.SameBut I s.heap h'->h'.get? I=some (siO (rawInt (nxt:Nat)) (i+1) D n ep)->Q (some x) {s with heap:=h'}):wpAny (model prog w) A (pyNext (.ref I)) Q E s:=by
 have hT:s.TypeIs (.ref I) "set_iterator":=⟨_,hI,rfl⟩
 unfold pyNext;refine EA (Fh (wpAny_callSpecial?_slot (name:=Str.ofString "__next__") hT FK (Fi FK hT Gz ?_ (gr _))));unfold Builtin.«set_iterator.__next__» setEntries;refine EA (EB ?_);refine EA (wpAny_fieldsOf hI rfl ?_);refine EA (EA (EY ho hd hf (EB ?_)));dsimp only;rw[EE (by rw[hn];simp)];show wpAny _ _ (setNext D ((slot:Nat):Int).toNat ((i:Nat):Int).toNat ((ep:Nat):Int).toNat >>= _) _ _ _;rw[Bu,Bu,Bu];refine EA (hx _ _ _ ?_);dsimp only;refine EA (wpAny_setField hI rfl (by simp) ?_);have h1:=Heap.get?_update_self (Obj.mapFields (·.setIfInBounds 0 (rawInt (nxt:Nat)))) hI rfl;refine EA (wpAny_setField h1 rfl (by simp) ?_);refine EB ⟨_,rfl,EB (hQ _ ((Heap.SameBut.update ..).trans (Heap.SameBut.update ..)) ?_)⟩;exact Heap.get?_update_self (Obj.mapFields (·.setIfInBounds 1 (rawInt ((i:Nat)+1)))) h1 rfl
theorem kn{I D:Addr}{i n ep slot:Nat}{es:Array (Int×Value)}{t:SetTable}{Q:Option Value->Shared->Prop}(hh:A.handled=none)(hI:s.heap.get? I=some (siO (rawInt (slot:Nat)) i D n ep))(ho:s.heap.get? D=some o)(hd:o.data=.set es ep t)(hf:t.fits es.size=true)(hn:es.size=n)
  (hx:∀(B:Around)(E':Value->Shared->Prop)(Q':Option (Value×Nat)->Shared->Prop),Q' none s->wpAny (model prog w) B (setNext D slot i ep) Q' E' s)
  (hQ:∀h',(∀b u,b≠I->s.heap.get? b=some u->h'.get? b=some u)->Q none {s with heap:=h'}):wpAny (model prog w) A (pyNext (.ref I)) Q E s:=by
 have hT:s.TypeIs (.ref I) "set_iterator":=⟨_,hI,rfl⟩
 unfold pyNext;refine EA (Fh (wpAny_callSpecial?_slot (name:=Str.ofString "__next__") hT FK (Fi FK hT Gz ?_ (gr _))));unfold Builtin.«set_iterator.__next__» setEntries;refine EA (EB ?_);refine EA (wpAny_fieldsOf hI rfl ?_);refine EA (EA (EY ho hd hf (EB ?_)));dsimp only;rw[EE (by rw[hn];simp)];show wpAny _ _ (setNext D ((slot:Nat):Int).toNat ((i:Nat):Int).toNat ((ep:Nat):Int).toNat >>= _) _ _ _;rw[Bu,Bu,Bu];refine EA (hx _ _ _ ?_);dsimp only;refine EA (wpAny_setField hI rfl (by simp) ?_);exact iB hh fun h' hk=>hQ h' fun b u nb e=>hk b u ((Heap.SameBut.update _ I _).extBut b u nb e)
theorem iG{D:Addr}{es:Array (Int×Value)}{t:SetTable}{ep slot i:Nat}{Q:Option (Value×Nat)->Shared->Prop}(hb:w.params.followText "set-order"=true)(ho:s.heap.get? D=some o)(hd:o.data=.set es ep t)(hf:t.fits es.size=true)
  (h:Q (((pickOrder (w.params.setOrder D ep) es)[i]?).map fun e=>(e.2,slot)) s):wpAny (model prog w) A (setNext D slot i ep) Q E s:=by
 unfold setNext setWalk setsByText;refine EA (EY ho hd hf (EA (EA (wpAny_askSetting (EB ?_)))));dsimp only;rw[EF (show(model prog w).w.params.followText "set-order"=true from hb),EE (by simp)];refine EA (EA (EY ho hd hf (EA (EA (wpAny_askSetting (EB ?_))))));dsimp only;rw[EF (show(model prog w).w.params.followText "set-order"=true from hb)];refine EA (wpAny_askSetting (EB (EB ?_)));exact h
theorem ky{D:Addr}{es:Array (Int×Value)}{t:SetTable}{ep ep' slot i:Nat}{Q:Option (Value×Nat)->Shared->Prop}(hb:w.params.followText "set-order"=false)(hl:t.led=true)(h1:es.size<=1)(ho:s.heap.get? D=some o)(hd:o.data=.set es ep t)(hf:t.fits es.size=true)
  (h:Q (match es[SetTable.below t.place slot]?,t.place[SetTable.below t.place slot]? with|some (_,x),some j=>some (x,j+1)|_,_=>none) s):wpAny (model prog w) A (setNext D slot i ep') Q E s:=by
 unfold setNext setsByText;refine EA (EY ho hd hf (EA (EA (wpAny_askSetting (EB ?_)))));dsimp only;rw[EE (show ¬(model prog w).w.params.followText "set-order"=true from fun q=>by rw[show(model prog w).w.params.followText "set-order"=false from hb] at q;cases q)];split
 ·rename_i q;have q':(!t.plain&&decide (es.size>1))=true:=q;rw[Bx,decide_eq_true_eq] at q';exact absurd q'.2 (by lia)
 ·refine EA (show wpAny (model prog w) A (if (!t.led && !es.isEmpty)=true then unsupported "set:maker-not-led" else pure ()) _ E s from ?_);rw[hl];exact EB (EB h)
theorem oy{α:Type}(next:Nat->Nat):∀(fuel k:Nat)(left:List α)(out:Array α),left.length=fuel->(pickOrder.go next fuel k left out).toList.Perm (out.toList++left)
 |0,k,left,out,h=>by
  rw[Bv.mp h,Bp];exact .refl _
 |fuel+1,k,left,out,h=>by
  have hi:next k % left.length<left.length:=Nat.mod_lt _ (by lia);unfold pickOrder.go;rw[AL hi];refine(oy next fuel (k+1) (left.eraseIdx _) (out.push _) (by rw[Eu hi,h];rfl)).trans ?_;rw[Array.toList_push,By];exact(List.Perm.refl _).append (eD _ _ hi)
theorem ft{α:Type}(next:Nat->Nat)(xs:Array α):(pickOrder next xs).toList.Perm xs.toList:=by
 have:=oy next xs.size 0 xs.toList #[] (by rw[Br]);exact this
end
theorem Iw:Slot "set_iterator" "__iter__" "set_iterator.__iter__":=.of (owner:="set_iterator") (n:="__iter__") (by rw[typeLookup_type,builtinLookup_eq_fast];kernel_rfl) (by decide +kernel) (by decide +kernel) (by decide +kernel) (by first|exact .inl (by decide +kernel)|exact .inr (by decide +kernel)) (by rw[isSubtype_type];kernel_rfl)
theorem qB(a:Value):argsOk "set_iterator.__iter__" ⟨[a],[]⟩:=by unfold argsOk;kernel_rfl
section
variable {prog:Program}{w:World}{A:Around}{E:Value->Shared->Prop}{s:Shared}{o:Obj}{I D Pl:Addr}{ps:List Nat}{n ep:Nat}{es:Array (Int×Value)}{t:SetTable}
theorem lP(hh:A.handled=none)(nD:D≠I)(nP:Pl≠I)(hd:o.data=.set es ep t)(hf:t.fits es.size=true)(hn:es.size=n)(hp:ps.Perm (List.range n))(self:∀(i:Nat)(s:Shared)(Q:Value->Shared->Prop)(E:Value->Shared->Prop),s.heap.get? I=some (siO (.ref Pl) i D n ep)->Q (.ref I) s->wpAny (model prog w) A (pyIter (.ref I)) Q E s) :
  WalksS prog w A I [I,D,Pl] [I] (fun a b=>b=a) n (fun i v=>∃p e,ps[i]?=some p/\es[p]?=some e/\v=e.2) (fun i s=>s.heap.get? I=some (siO (.ref Pl) i D n ep)/\s.heap.get? D=some o/\s.heap.get? Pl=some (seqObj "tuple" (ps.map fun i=>rawInt (i:Nat)).toArray 0)) where
 sub:=fun b hb=>by rw[AM.mp hb];exact AS
 grefl:=fun _=>rfl
 gtrans:=fun a b c h1 h2=>h2.trans h1
 frame:=fun _ _ _ _ st _ hk=>⟨hk I (by simp) _ st.1,hk D (by simp) _ st.2.1,hk Pl (by simp) _ st.2.2⟩
 item:=fun i s Q E hi st hQ=>by
  have hl:ps.length=n:=by rw[hp.length_eq,BG]
  have hi':i<ps.length:=by lia
  have hm:ps[i]<n:=BC.mp (hp.mem_iff.mp (Bq hi'));have e1:ps[i]?=some ps[i]:=AL hi';have e2:es[ps[i]]?=some es[ps[i]]:=BV (by lia);refine mi st.1 st.2.2 st.2.1 hd hf hn e1 e2 fun h' hs' hI'=>?_;exact hQ _ {s with heap:=h'} ⟨_,_,e1,e2,rfl⟩ ⟨hI',hs'.extBut _ _ nD st.2.1,hs'.extBut _ _ nP st.2.2⟩ ⟨fun b u hb e=>hs'.extBut b u (fun q=>hb (by simp[q])) e,rfl,rfl,rfl,AH _⟩
 done:=fun s Q E st hQ=>oC hh st.1 st.2.2 st.2.1 hd hf hn (Ci (by rw[hp.length_eq,BG];exact AH _)) fun h' hk=>hQ {s with heap:=h'} ⟨fun b u hb e=>hk b u (fun q=>hb (by simp[q])) e,rfl,rfl,rfl,AH _⟩
 self:=fun i s Q E st hQ=>self i s Q E st.1 hQ
theorem Jh:entryFor table "set_iterator.__iter__"=some Builtin.«dict_keyiterator.__iter__»:=entryFor_alias (id':="dict_keyiterator.__iter__") (by kernel_rfl) rfl (by decide +kernel) (by kernel_rfl)
theorem jl{f:Value}{i:Nat}{Q:Value->Shared->Prop}(hI:s.heap.get? I=some (siO f i D n ep))(h:Q (.ref I) s):wpAny (model prog w) A (pyIter (.ref I)) Q E s:=by
 have hT:s.TypeIs (.ref I) "set_iterator":=⟨_,hI,rfl⟩
 refine wpAny_pyIter_slot hT Iw (Fi Iw hT Jh (show wpAny _ _ (ret (.ref I)) _ _ s from EB ⟨_,rfl,"set_iterator",_,hT,FK.lookup,h⟩) (qB _))
theorem oA(hh:A.handled=none)(nD:D≠I)(hb:w.params.followText "set-order"=true)(hd:o.data=.set es ep t)(hf:t.fits es.size=true)(hn:es.size=n) :
  WalksS prog w A I [I,D] [I] (fun a b=>b=a) n (fun i v=>∃e,(pickOrder (w.params.setOrder D ep) es)[i]?=some e/\v=e.2) (fun i s=>s.heap.get? I=some (siO (rawInt ((0:Nat):Int)) i D n ep)/\s.heap.get? D=some o) where
 sub:=fun b hb=>by rw[AM.mp hb];exact AS
 grefl:=fun _=>rfl
 gtrans:=fun a b c h1 h2=>h2.trans h1
 frame:=fun _ _ _ _ st _ hk=>⟨hk I (by simp) _ st.1,hk D (by simp) _ st.2⟩
 item:=fun i s Q E hi st hQ=>by
  have hl:(pickOrder (w.params.setOrder D ep) es).size=n:=by rw[<- Br,(ft _ _).length_eq,Br,hn]
  have e1:(pickOrder (w.params.setOrder D ep) es)[i]?=some (pickOrder (w.params.setOrder D ep) es)[i]:=BV (by lia);refine ir (nxt:=0) st.1 st.2 hd hf hn (fun B E' Q' q=>iG hb st.2 hd hf (by rw[e1];exact q)) fun h' hs' hI'=>?_;exact hQ _ {s with heap:=h'} ⟨_,e1,rfl⟩ ⟨hI',hs'.extBut _ _ nD st.2⟩ ⟨fun b u hb e=>hs'.extBut b u (fun q=>hb (by simp[q])) e,rfl,rfl,rfl,AH _⟩
 done:=fun s Q E st hQ=>kn hh st.1 st.2 hd hf hn (fun B E' Q' q=>iG hb st.2 hd hf (by
  rw[CQ (by rw[<- Br,(ft _ _).length_eq,Br,hn]; exact AH _)]; exact q)) fun h' hk=>hQ { s with heap:=h' } ⟨fun b u hb e=>hk b u (fun q=>hb (by simp [q])) e,rfl,rfl,rfl,AH _⟩
 self:=fun i s Q E st hQ=>jl st.1 hQ
theorem hX(pl:Array Nat)(h:pl.size<=1):SetTable.below pl 0=0/\∀j,pl[0]?=some j->SetTable.below pl (j+1)=1:=by
 obtain⟨l⟩:=pl
 match l,h with
 |[],_=>exact⟨rfl,fun j e=>by cases e⟩
 |[j],_=>
  refine⟨by simp[SetTable.below,SetTable.below.go],fun k e=>?_⟩;have:k=j:=by simpa using e.symm
  subst this;simp[SetTable.below,SetTable.below.go]
theorem qu(hh:A.handled=none)(nD:D≠I)(hb:w.params.followText "set-order"=false)(hl:t.led=true)(h1:es.size<=1)(hd:o.data=.set es ep t)(hf:t.fits es.size=true)(hn:es.size=n) :
  WalksS prog w A I [I,D] [I] (fun a b=>b=a) n (fun i v=>∃e,es[i]?=some e/\v=e.2) (fun i s=>(∃slot:Nat,s.heap.get? I=some (siO (rawInt (slot:Nat)) i D n ep)/\SetTable.below t.place slot=i)/\s.heap.get? D=some o) where
 sub:=fun b hb=>by rw[AM.mp hb];exact AS
 grefl:=fun _=>rfl
 gtrans:=fun a b c h1 h2=>h2.trans h1
 frame:=fun _ _ _ _ st _ hk=>by
  obtain⟨⟨sl,h1,h2⟩,h3⟩:=st;exact⟨⟨sl,hk I (by simp) _ h1,h2⟩,hk D (by simp) _ h3⟩
 item:=fun i s Q E hi st hQ=>by
  obtain⟨⟨sl,hI,hbl⟩,hD⟩:=st;have hps:t.place.size=es.size:=by
   have:=hf;unfold SetTable.fits at this;rw[Bx,Fl] at this;exact this.1
  have i0:i=0:=by lia
  subst i0;have e1:es[0]?=some es[0]:=BV (by lia);have e2:t.place[0]?=some t.place[0]:=BV (by lia);refine ir (nxt:=t.place[0]+1) hI hD hd hf hn (fun B E' Q' q=>ky hb hl h1 hD hd hf (by rw[hbl,e1,e2];exact q)) fun h' hs' hI'=>?_;exact hQ _ {s with heap:=h'} ⟨_,e1,rfl⟩ ⟨⟨_,hI',(hX t.place (by lia)).2 _ e2⟩,hs'.extBut _ _ nD hD⟩ ⟨fun b u hb e=>hs'.extBut b u (fun q=>hb (by simp[q])) e,rfl,rfl,rfl,AH _⟩
 done:=fun s Q E st hQ=>by
  obtain⟨⟨sl,hI,hbl⟩,hD⟩:=st;refine kn hh hI hD hd hf hn (fun B E' Q' q=>ky hb hl h1 hD hd hf ?_) fun h' hk=>hQ {s with heap:=h'} ⟨fun b u hb e=>hk b u (fun q=>hb (by simp[q])) e,rfl,rfl,rfl,AH _⟩;rw[hbl,CQ (by lia)];exact q
 self:=fun i s Q E st hQ=>by
  obtain⟨⟨sl,hI,hbl⟩,hD⟩:=st;exact jl hI hQ
end
section
variable {prog:Program}{w:World}{A B:Around}{E:Value->Shared->Prop}{s:Shared}{o:Obj}{D:Addr}{ys:List Str}
theorem hG{P:Nat->Value->Prop}{acc:Array Value}{n:Nat}{vs:List Value}(h:ItemsOf P acc n)(hl:vs.length=n)(hP:∀j v,P j v->vs[j]?=some v):acc.toList=vs:=by
 refine Eb fun j=>?_;by_cases hj:j<n
 ·have hj':j<acc.size:=by rw[h.1];exact hj
  have e:acc[j]?=some (acc[j]'hj'):=BV hj';rw[BE,e,hP j _ (h.2 j _ e)]
 ·rw[Ci (by rw[Br,h.1];lia),Ci (by lia)]
theorem tP{es:List (Int×Value)}(hel:ElemsOf (strKind prog w) es){vs:List Value}(hp:vs.Perm (es.map (·.2))):∀v∈vs,∃x t,v=.str x t:=fun v hv=>by
 obtain⟨e,he,rfl⟩:=AJ.mp (hp.mem_iff.mp hv);exact sU hel he
theorem oD{Q:Value->Shared->Prop}(hh:B.handled=none)(ho:s.heap.get? D=some o)(hS:HJ prog w (eI w) o ys)(hb:(ddS ys).length<scanBound)
  (hQ:∀(I n:Nat)(fp:List Addr)(P:Nat->Value->Prop)(St:Nat->Shared->Prop)(s1:Shared),n<=sizeLine->WalksS prog w B I fp [I] (fun a b=>b=a) n P St->St 0 s1->s.heap.objs.size<=I->(∀b∈fp,b=D\/s.heap.objs.size<=b)->(∀b u,s.heap.get? b=some u->s1.heap.get? b=some u)->s1.gens=s.gens->s1.os=s.os->(∀acc:Array Value,ItemsOf P acc n->(acc.toList.map strOf).Perm (ddS ys)/\∀v∈acc.toList,∃x t,v=.str x t)->Q (.ref I) s1) :
  wpAny (model prog w) A (pyIter (.ref D)) Q E s:=by
 obtain⟨hex,es,ep,t,hd,hel,hp,hf,hl,hpl⟩:=hS;have hz:es.size<=sizeLine:=fits_of_scanBound (by rw[<- Br,<- AI (f:=fun e=>strOf e.2),hp.length_eq];exact hb);have hlt:=EL ho;have told:∀vs:List Value,vs.Perm (es.toList.map (·.2))->(vs.map strOf).Perm (ddS ys)/\∀v∈vs,∃x t,v=.str x t:=fun vs hv=>⟨((hv.map strOf).trans (by rw[Bn];exact .refl _)).trans hp,tP hel hv⟩
 refine qE ho hex hd hf hz (fun hc=>?_) (fun h1 h2 h3 ps d hps=>?_)
 ·have g1:(s.heap.push (siO (rawInt 0) 0 D es.size ep)).get? s.heap.objs.size=some (siO (rawInt 0) 0 D es.size ep):=Fc _ rfl;have g2:(s.heap.push (siO (rawInt 0) 0 D es.size ep)).get? D=some o:=Fb _ ho;have nD:D≠s.heap.objs.size:=fun e=>absurd hlt (by rw[<- e];exact Bl _);have hfp:∀b∈[s.heap.objs.size,D],b=D\/s.heap.objs.size<=b:=fun b hb=>by
   simp only[AN,Bt,or_false] at hb;rcases hb with rfl|rfl
   ·exact .inr (AH _)
   ·exact .inl rfl
  by_cases hbt:w.params.followText "set-order"=true
  ·refine hQ _ es.size _ _ _ _ hz (oA hh nD hbt hd hf rfl) ⟨g1,g2⟩ (AH _) hfp (fun b u e=>Fb _ e) rfl rfl fun acc ha=>?_;have:=ft (w.params.setOrder D ep) es;rw[hG (vs:=(pickOrder (w.params.setOrder D ep) es).toList.map (·.2)) ha (by rw[AI,this.length_eq,Br]) (fun j v ⟨e,h1,h2⟩=>by rw[AW,BE,h1,h2];rfl)];exact told _ (this.map _)
  ·have hbf:w.params.followText "set-order"=false:=CT.mpr hbt;have h1:es.size<=1:=by
    rcases hc with h|h|h
    ·exact absurd h hbt
    ·refine DP fun q=>?_;rw[hpl (by lia)] at h;cases h
    ·exact h
   refine hQ _ es.size _ _ _ _ hz (qu hh nD hbf (by rw[hl];unfold eI;rw[hbf];rfl) h1 hd hf rfl) ⟨⟨0,g1,?_⟩,g2⟩ (AH _) hfp (fun b u e=>Fb _ e) rfl rfl fun acc ha=>?_
   ·refine(hX t.place ?_).1;have:=hf;unfold SetTable.fits at this;rw[Bx,Fl] at this;rw[this.1];exact h1
   ·rw[hG (vs:=es.toList.map (·.2)) ha (by rw[AI,Br]) (fun j v ⟨e,h1,h2⟩=>by rw[AW,BE,h1,h2];rfl)];exact told _ (.refl _)
 ·generalize hH1:s.heap.push (seqObj "tuple" (ps.map fun i=>rawInt (i:Nat)).toArray 0)=hp1;have z1:hp1.objs.size=s.heap.objs.size+1:=by rw[<- hH1,Fj]
  have k1:∀b u,s.heap.get? b=some u->hp1.get? b=some u:=fun b u e=>by rw[<- hH1];exact Fb _ e
  have gP:hp1.get? s.heap.objs.size=some (seqObj "tuple" (ps.map fun i=>rawInt (i:Nat)).toArray 0):=by rw[<- hH1];exact Fc _ rfl
  have g1:(hp1.push (siO (.ref s.heap.objs.size) 0 D es.size ep)).get? (s.heap.objs.size+1)=some (siO (.ref s.heap.objs.size) 0 D es.size ep):=by rw[<- z1];exact Fc _ rfl
  refine hQ _ es.size _ _ _ _ hz (lP (I:=s.heap.objs.size+1) (Pl:=s.heap.objs.size) hh (fun e=>absurd hlt (by rw[e];exact Nat.not_lt.mpr (BL _))) (AR (BY _)) hd hf rfl hps fun i s Q E h q=>jl h q) ⟨g1,Fb _ (k1 _ _ ho),Fb _ gP⟩ (BL _) (fun b hb=>?_) (fun b u e=>Fb _ (k1 b u e)) rfl rfl fun acc ha=>?_
  ·simp only[AN,Bt,or_false] at hb;rcases hb with rfl|rfl|rfl
   ·exact .inr (BL _)
   ·exact .inl rfl
   ·exact .inr (AH _)
  ·rw[hG (vs:=ps.map fun p=>(es.toList.getD p (0,.none)).2) ha (by rw[AI,hps.length_eq,BG]) (fun j v hq86=>by
    obtain⟨p,e,h1,h2,h3⟩:=hq86;rw[AW,h1,h3];show some (es.toList.getD p (0,.none)).2=_
    rw[Ba,BE,h2]; rfl)]
   refine told _ ((hps.map _).trans ?_);have:(List.range es.size).map (fun p=>(es.toList.getD p (0,.none)).2)=es.toList.map (·.2):=by
    refine Eb fun j=>?_;rw[AW,AW];by_cases hj:j<es.size
    ·rw[Dg hj];show some (es.toList.getD j (0,.none)).2=_;rw[Ba,BE,BV hj];rfl
    ·rw[Ci (by rw[BG];lia),BE,CQ (by lia)];rfl
   rw[this]
end
theorem Jy:splitId "set.__len__"=some ("set","__len__"):=by kernel_rfl
section
variable {prog:Program}{w:World}{A:Around}{E:Value->Shared->Prop}{s:Shared}{o:Obj}{D:Addr}
theorem sf{Q:Bool->Shared->Prop}(hT:s.TypeIs (.ref D) "set")(h:Q false s):wpAny (model prog w) A (Builtin.List.listLengthHint (.ref D)) Q E s:=by
 unfold Builtin.List.listLengthHint;refine EA (wpAny_specialOf hT F.slot_set_len.lookup ?_);dsimp only;rw[Jy];dsimp only;refine EA (wpAny_isInstance hT sub_set_self ?_);refine wpAny_ite ?_;rw[EE (show ¬(!true)=true from Bm)];refine wpAny_ite ?_;rw[EF]
 ·exact EA (wpAny_typeOf hT (EB h))
 ·kernel_rfl
theorem jv{ys:List Str}{Q:List Value->Shared->Prop}(hh:A.handled=none)(ho:s.heap.get? D=some o)(hS:HJ prog w (eI w) o ys)(hb:(ddS ys).length<scanBound)
  (hQ:∀s' vs,(∀b u,s.heap.get? b=some u->s'.heap.get? b=some u)->s.heap.objs.size<=s'.heap.objs.size->s'.gens=s.gens->s'.os=s.os->(vs.map strOf).Perm (ddS ys)->(∀v∈vs,∃x t,v=.str x t)->Q vs s'):wpAny (model prog w) A (collect (.ref D)) Q E s:=by
 have hex:=hS.1;have hT:∀h' tk d,(∀b u,s.heap.get? b=some u->h'.get? b=some u)->({s with heap:=h',toks:=tk,drawn:=d}:Shared).TypeIs (.ref D) "set":=fun h' tk d hk=>⟨o,hk _ _ ho,hex.1⟩
 unfold collect;refine EA (wpAny_runValue (codeAny_builtin F.entry_proto_collect ?_));rw[Around.under_plainId F.plain_proto_collect _];show wpAny _ A.in1 (newList [] >>= fun l=>again (.builtin "list.__iadd__" ⟨[l,.ref D],[]⟩)) _ _ s;refine EA (wpAny_newObj_type (EB ⟨plainId_quiet F.plain_list_iadd _,codeAny_builtin F.entry_list_iadd ?_⟩));rw[Around.under_plainId F.plain_list_iadd _];show wpAny _ A.in1 (Builtin.List.listExtendWith (.ref s.heap.objs.size) (.ref D) (.ref s.heap.objs.size)) _ _ _;unfold Builtin.List.listExtendWith;have k1:∀b u,s.heap.get? b=some u->(s.heap.push {cls:=.type "list",data:=.seq ([]:List Value).toArray}).get? b=some u:=fun b u e=>Fb _ e;refine EA (wpAny_typeOf (hT _ _ _ k1) ?_);have hSD:s.heap.objs.size≠D:=fun e=>absurd (EL ho) (by rw[e];exact Bl _);have h1:Builtin.List.listSameRef (.ref s.heap.objs.size) (.ref D)=false:=by simp[Builtin.List.listSameRef,hSD]
 have h2:(Value.type "set" == Value.type "list")=false:=by decide
 have h3:(Value.type "set" == Value.type "tuple")=false:=by decide
 simp only[h1,h2,h3,Bool.or_false,BF,if_false];generalize hH1:s.heap.push {cls:=.type "list",data:=.seq ([]:List Value).toArray}=h1' at k1 ⊢;have hS1:h1'.get? s.heap.objs.size=some {cls:=.type "list",data:=.seq ([]:List Value).toArray}:=by rw[<- hH1];exact Fc _ rfl
 have hz1:h1'.objs.size=s.heap.objs.size+1:=by rw[<- hH1,Fj]
 refine EA (oD (B:=A.in1) (s:={s with heap:=h1'}) hh (k1 _ _ ho) hS hb fun I n fp P St s1 hn W st0 hI hfp hk hg hos hacc=>?_);have hSf:s.heap.objs.size∉fp:=fun hm=>by
  rcases hfp _ hm with e|e
  ·exact hSD e
  ·rw[show({s with heap:=h1'}:Shared).heap.objs.size=s.heap.objs.size+1 from hz1] at e;exact absurd e (Nat.not_le.mpr (BY _))
 refine EA (EJ (sf ⟨o,hk _ _ (k1 _ _ ho),hex.1⟩ (wpAny_ite ?_)));rw[EF]
 ·have g1:=hk _ _ hS1;have g2:=Heap.get?_update_self (Obj.mapSeq (·.push Value.none)) g1 rfl;have g3:=Heap.get?_update_self (Obj.mapSeq (·.pop)) g2 rfl;refine EA (Fk (EA (show wpAny _ A.in1 (updateSeq s.heap.objs.size (·.push .none) >>= fun _=>updateSeq s.heap.objs.size (·.pop)) _ _ _ from EA (wpAny_updateSeq g1 rfl (wpAny_updateSeq g2 rfl ?_)))));refine EB ⟨plainId_quiet F.plain_extend_loop _,codeAny_extend_loopS W hn _ hSf _ n 0 _ _ _ rfl (Bi _) (W.frame 0 s1 _ s1.toks st0 (AH _) fun b hb u e=>?_) g3 (ItemsOf.nil P) fun s' acc c' hm hS' ha=>?_⟩
  ·have nb:s.heap.objs.size≠b:=fun q=>hSf (by rw[q];exact hb);exact(Heap.get?_update_other _ _ nb).trans ((Heap.get?_update_other _ _ nb).trans e)
  ·obtain⟨a1,a2⟩:=hacc acc ha;refine EA (wpAny_load hS' (EB (hQ s' acc.toList (fun b u e=>?_) (BA (EL hS')) ?_ ?_ a1 a2)))
   ·have hlt:b<s.heap.objs.size:=EL e;have nb:s.heap.objs.size≠b:=EZ (AR hlt);refine hm.heap b u (fun q=>?_) ((Heap.get?_update_other _ _ nb).trans ((Heap.get?_update_other _ _ nb).trans (hk b u (k1 b u e))));rcases AN.mp q with q|q
    ·exact nb q.symm
    ·rw[AM.mp q] at hlt;have:s.heap.objs.size+1<=I:=by rw[<- hz1];exact hI
     exact absurd hlt (Nat.not_lt.mpr (Nat.le_of_succ_le this))
   ·exact hm.gens.trans hg
   ·exact hm.os.trans hos
 ·kernel_rfl
end
section
variable {prog:Program}{w:World}{A:Around}{E:Value->Shared->Prop}{s:Shared}{o:Obj}{D:Addr}{ys:List Str}
theorem lR{Q:Value->Shared->Prop}(hh:A.handled=none)(ho:s.heap.get? D=some o)(hS:HJ prog w (eI w) o ys)(h64:(ddS ys).length<64)
  (hQ:∀s' l zs out e,(∀b u,s.heap.get? b=some u->s'.heap.get? b=some u)->s'.gens=s.gens->s'.os=s.os->zs.Perm (ddS ys)->sortedS zs=true->s.heap.objs.size<=l->s'.heap.get? l=some (seqObj "list" out e)->StrsAre out.toList zs->Q (.ref l) s') :
  wpAny (model prog w) A (call (.builtin "sorted") [.ref D]) Q E s:=by
 refine Calls.call_function_entry kind_sorted plain_sorted entry_sorted (args_sorted1 _) ?_;unfold Builtin.«sorted»;refine EA (m:=checkCount "sorted" 1 1 _) (EB (EA (jv hh ho hS (CN h64 (by decide)) fun s1 vs hk hle hg hos hp ha=>?_)));have hst:=strsAre_map vs ha;have hl:vs.length=(ddS ys).length:=by rw[<- hp.length_eq,AI]
 have hoL:(s1.heap.push (seqObj "list" vs.toArray 0)).get? s1.heap.objs.size=some (seqObj "list" vs.toArray 0):=Fc _ rfl;refine EA (wpAny_newList ?_);refine EA (EJ (Fi slot_list_sort ⟨_,hoL,rfl⟩ entry_list_sort (list_sort_treeK strKind_oneLt hoL hst.keysOf (fun v₁ v₂ rest e=>keyKind_strs (by rw[<- e];exact hst)) (by lia) fun st' a1 a2=>⟨_,rfl,?_⟩) (args_list_sort _)));obtain⟨ss',b1,b2,b3⟩:=sorted_out_str hst a1 a2;obtain⟨e,he⟩:=sortedHeap_at (out:=(arrOf st').map (·.2)) hoL;refine EB ⟨_,rfl,hQ _ _ ss' _ e (fun b u q=>?_) hg hos (b2.trans hp) b3 hle he b1⟩;have q1:=hk b u q;have lt1:=EL q1;exact(sortedHeap_old (AR lt1) (by rw[Fj];exact BS lt1)).trans (Fb _ q1)
end
section
variable {X:Cx}{x:Str}{p pos:Pos}{e:Expr}{t:Jn}
def qT (t:Jn):TE:=fun σ H Q=>t σ H fun ys H1=>(ddS ys).length<64/\∀l zs,zs.Perm (ddS ys)->sortedS zs=true->H1 l=none->Q (.ref l) (upd H1 l (.lst (zs.map V.str)))
theorem mI(hc:X.A.handled=none)(he:vg X e t)(hg:Gl X "sorted")(hm:X.mg "sorted"=none)(hv:bootBuiltins "sorted"=some (.builtin "sorted"))(hs:starEach [e] X.env=(false,eval e X.env)::starEach [] X.env:=by rfl):PE X (.Call (.Name "sorted" p) [e] [] pos) (qT t):=by
 intro pins s σ H Q I h;refine wpAny_Call_Name_kw (eF I hg hm hv ?_ (by decide) (by decide));refine PyProof.Rows.callWith_builtin1 ?_ hs rfl;rw[hs];refine Calls.spliced_cons (thn (he pins s σ H _ I h) fun v s1 z=>?_);obtain⟨D,o,ys,H1,rfl,I1,ho,hS,hb,h64,q⟩:=z;refine Calls.spliced_nil ?_;refine lR hc ho hS h64 fun s' l zs out ep hk hg' hos hp hso hle hl hst=>?_;have I2:Inv X pins σ (upd H1 l (.lst (zs.map V.str))) {s1 with heap:=s'.heap,toks:=s'.toks}:=I1.laid hk hle ⟨by rw[AI,hp.length_eq];have:=sizeLine_eq;lia,out.toList,ep,JJ hst,by rw[Array.toArray_toList];exact hl⟩;have e3:s'={s1 with heap:=s'.heap,toks:=s'.toks,drawn:=s'.drawn}:=by
  obtain⟨a1,a2,a3,a4,a5⟩:=s';cases hg';cases hos;rfl
 rw[e3];exact⟨.ref l,_,⟨I2.ok,I2.os,I2.bare,I2.base,I2.loc,I2.cell,I2.free,I2.FX,I2.pin,I2.hok,I2.len⟩,rfl,q l zs hp hso (I1.hok.fresh hle)⟩
end
abbrev NxS(n i:Nat)(P:Nat->List Str->Hp->Prop)(ys:List Str)(H:Hp):Prop:=∃m',m'<n-i/\(m'=n-(i+1)/\i+1<=n/\P (i+1) ys H)
theorem NxS.mk{n i:Nat}{P:Nat->List Str->Hp->Prop}{ys:List Str}{H:Hp}(hi:i<n)(h:P (i+1) ys H):NxS n i P ys H:=⟨n-(i+1),by lia,rfl,hi,h⟩
theorem vd{K:W.Frag}{a:Addr}{xs:List V}{k:Nat}{js:List Nat}{g:TG}{tc:TT}{te:TE}{σ:St}{H:Hp}{Q:List Str->Hp->Prop}(P:Nat->List Str->Hp->Prop)(h0:P 0 [] H)(hz:∀i ys H,i<=xs.length->P i ys H->ys.length<=i)(hn:xs.length<=4000)
  (hl:∀i ys H,i<=xs.length->P i ys H->SqL K H a xs)
  (hs:∀i x ys H,xs[i]?=some x->P i ys H->g x (List.replicate k none++bJ js σ) H fun σ2 H2=>tc σ2 H2 fun b H3=>if b=true then te σ2 H3 fun y H4=>∃z,y=.str z/\NxS xs.length i P (z::ys) H4 else NxS xs.length i P ys H3)
  (hd:∀ys H,P xs.length ys H->Q ys H):sD (Itl K a) k js g tc te σ H Q:=by
 refine⟨fun i m ys H=>m=xs.length-i/\i<=xs.length/\P i ys H,⟨_,rfl,Bi _,h0⟩,?_⟩;rintro i m ys H ⟨rfl,hi,p⟩;have q:=hl i ys H hi p;have ly:=hz i ys H hi p;by_cases hlt:i<xs.length
 ·refine .inr ⟨⟨xs,xs[i],q,by simp[hlt]⟩,by lia,fun x H' y=>?_⟩;obtain⟨e,y⟩:=y;subst e;exact hs i x ys _ (y xs q) p
 ·have e:i=xs.length:=by lia
  subst e;exact .inl ⟨⟨xs,q,AH _⟩,by lia,hd ys H p⟩
section
variable {prog:Program}{w:World}{A:Around}{E:Value->Shared->Prop}{s:Shared}
theorem jM{d:Addr}{Q:Value->Shared->Prop}(hT:s.TypeIs (.ref d) "dict")(hd:(d==sysModules)=false)
  (h:Q (.ref s.heap.objs.size) {s with heap:=s.heap.push {cls:=.type "dict_items",data:=.fields #[.ref d]}}):wpAny (model prog w) A (call (.builtin "dict.items") [.ref d]) Q E s:=by
 refine call_meetsIn F.slot_dict_items hT F.entry_dict_items (F.args_dict_items_1 _) (S:=fun _ R s=>s.TypeIs (.ref d) "dict"/\R (.ok (.ret (.ref s.heap.objs.size))) {s with heap:=s.heap.push {cls:=.type "dict_items",data:=.fields #[.ref d]}}) (.of_wp fun A R s hq87=>?_) ⟨hT,h⟩;obtain⟨hm,h⟩:=hq87;unfold Builtin.«dict.items»;refine EA ?_;unfold Builtin.Dict.noArgs;refine EA (wpAny_notOrdered_dict hm ?_);show wpAny _ _ (pure d) _ _ s;refine EB ?_;show wpAny _ _ (Builtin.Dict.showsAll d >>= _) _ _ s;unfold Builtin.Dict.showsAll;rw[EE (by rw[hd];decide)];refine EA (EB (EA (wpAny_newObj_type (EB ⟨_,rfl,h⟩))))
theorem jo{v d:Addr}{od:Obj}{es:Array DictEntry}{ep:Nat}{Q:Value->Shared->Prop}(hv:s.heap.IsItemsView v d)(hod:s.heap.get? d=some od)(hdd:od.data=.dict es ep)
  (hQ:Q (.ref s.heap.objs.size) {s with heap:=s.heap.push {cls:=.type "dict_itemiterator",data:=.fields #[.none,.bool false,.ref d,.int 0 0,.int es.size 0,.int ep 0,.none,.none]}}):wpAny (model prog w) A (pyIter (.ref v)) Q E s:=by
 obtain⟨ov,hov,hcv,hdv⟩:=id hv;refine wpAny_pyIter_slot hv.typeIs F.slot_dict_items_iter (Fi F.slot_dict_items_iter hv.typeIs F.entry_dict_items_iter ?_ (F.args_dict_items_iter_1 _));unfold Builtin.«dict_items.__iter__»;refine EA (EB (EA ?_));unfold Builtin.Dict_items.dictOf;refine EA (wpAny_field hov hdv (x:=.ref d) rfl (EB (EA ?_)));unfold Builtin.Dict_items.newIterator;refine EA (wpAny_dictEntries hod hdd (EA (wpAny_dictEpoch hod hdd ?_)));have hown:Builtin.Dict_items.ownsTuple "dict_itemiterator"=true:=by decide
 simp only[hown,if_true];refine wpAny_newObj_type (EB ⟨_,rfl,"dict_itemiterator",_,⟨_,Fc _ rfl,rfl⟩,F.slot_dict_itemiterator_next.lookup,?_⟩) (by simp only[sizeOk,Builtin.Dict_items.ownedTupleFields,Bb,AK,Bj,Cd,sizeLine_eq];lia);simpa [rawInt,Builtin.Dict_items.ownedTupleFields] using hQ
theorem jJ{it d:Addr}{i ep:Nat}{od:Obj}{es:Array DictEntry}{ok ov:Value}{Q:Option Value->Shared->Prop}(hit:IsItemIter s.heap it d i es.size ep ok ov)(hod:s.heap.get? d=some od)(hdd:od.data=.dict es ep)(hlt:i<es.size)
  (hQ:∀h',IsItemIterOut h' it d (i+1) es.size ep es[i].key es[i].val s.heap.objs.size->h'.get? s.heap.objs.size=some { cls:=.type "tuple",data:=.seq #[es[i].key,es[i].val] }->h'.objs.size=s.heap.objs.size+1 ->
   (∀b o,b≠it->s.heap.get? b=some o->h'.get? b=some o)->Q (some (.ref s.heap.objs.size)) { s with heap:=h' }):wpAny (model prog w) A (pyNext (.ref it)) Q E s:=by
 obtain⟨hp,g,dr,tk,os⟩:=s;have hT:Shared.TypeIs ⟨hp,g,dr,tk,os⟩ (.ref it) "dict_itemiterator":=⟨_,hit,rfl⟩
 unfold pyNext;refine EA (Fh (wpAny_callSpecial?_slot (name:=Str.ofString "__next__") hT F.slot_dict_itemiterator_next (Fi F.slot_dict_itemiterator_next hT F.entry_dict_itemiterator_next ?_ (F.args_dict_itemiterator_next_1 _))));refine EA (EB (EA (EA ?_)));(first|refine EA (wpAny_typeNameOfWhole_itemiter hT (EB ?_))|refine EA (wpAny_typeNameOf_itemiter hT (EB ?_)));refine EA (wpAny_fieldsOf hit rfl ?_);have hown:Builtin.Dict_items.ownsTuple "dict_itemiterator"=true:=by decide
 simp only[hown,if_true];show wpAny _ _ (if (Value.ref d==Value.none)=true then _ else _) _ _ _;rw[EE (show ¬((Value.ref d==Value.none)=true) by intro z;cases z)];refine EA (EB (EA (wpAny_dictEntries hod hdd ?_)));rw[EE (by simp)];refine EA (EB (EA (wpAny_dictEpoch hod hdd ?_)));rw[EE (by simp)];refine EB ?_;simp only[show ¬((i:Int)<0) by lia,if_false,Bu,BV hlt];refine EA ?_
 (first|refine EA (wpAny_typeNameOfWhole_itemiter hT (EB ?_))|refine EA (wpAny_typeNameOf_itemiter hT (EB ?_)));refine EA (wpAny_isOneOf_itemiter hT ?_)
 show wpAny _ _ (setField (.ref it) 3 (rawInt ((i:Int)+1)) >>= _) _ _ ⟨hp,g,dr,tk,os⟩;refine EA (wpAny_setField_rec hit (by simp) fun h₁ he₁ hs₁=>?_)
 replace hs₁:Heap.SameBut it hp h₁:=hs₁
 replace he₁:IsItemIter h₁ it d (i+1) es.size ep ok ov:=by unfold IsItemIter;rw[show((i+1:Nat):Int)=(i:Int)+1 by lia];simpa [rawInt] using he₁
 have hT₁:Shared.TypeIs ⟨h₁,g,dr,tk,os⟩ (.ref it) "dict_itemiterator":=⟨_,he₁,rfl⟩
 refine EA (EJ (EA (wpAny_isOneOf_itemiter hT₁ (EA (wpAny_isOneOf_itemiter hT₁ ?_)))));show wpAny _ _ (Builtin.Dict_items.pairFromOwner (.ref it) 6 es[i].key es[i].val) _ _ ⟨h₁,g,dr,tk,os⟩;unfold Builtin.Dict_items.pairFromOwner;refine EA (wpAny_newTuple ?_);have he₂:IsItemIter (h₁.push {cls:=.type "tuple",data:=.seq #[es[i].key,es[i].val]}) it d (i+1) es.size ep ok ov:=Fb _ he₁;generalize hh₂:h₁.push {cls:=.type "tuple",data:=.seq #[es[i].key,es[i].val]}=h₂ at he₂;have z₁:h₁.objs.size=hp.objs.size:=hs₁.1;have il:it<hp.objs.size:=EL hit;have t₂:h₂.get? hp.objs.size=some {cls:=.type "tuple",data:=.seq #[es[i].key,es[i].val]}:=by rw[<- hh₂,<- z₁];exact Fc _ rfl
 have z₂:h₂.objs.size=hp.objs.size+1:=by rw[<- hh₂,Fj,z₁]
 have k₂:∀b o,b≠it->hp.get? b=some o->h₂.get? b=some o:=fun b o hb e=>by rw[<- hh₂];exact Fb _ (hs₁.extBut b o hb e)
 show wpAny _ _ (Builtin.Dict_items.ownedTupleIsFree (.ref it) >>= _) _ _ ⟨h₂,g,dr,tk,os⟩;rw[z₁];clear hh₂ he₁ hs₁ hT₁ z₁ h₁;refine EA ?_;unfold Builtin.Dict_items.ownedTupleIsFree;refine EA (wpAny_field he₂ rfl (x:=.none) rfl (EB ?_));simp only[if_true];refine EA (wpAny_field he₂ rfl (x:=ok) rfl (EA (wpAny_field he₂ rfl (x:=ov) rfl (EA (wpAny_setField_rec he₂ (by simp) fun h₃ e₃ s₃=>?_)))))
 replace s₃:Heap.SameBut it h₂ h₃:=s₃
 replace e₃:IsItemIter h₃ it d (i+1) es.size ep es[i].key ov:=e₃
 refine EA (wpAny_setField_rec e₃ (by simp) fun h₄ e₄ s₄=>?_);replace s₄:Heap.SameBut it h₃ h₄:=s₄
 replace e₄:IsItemIter h₄ it d (i+1) es.size ep es[i].key es[i].val:=e₄
 refine EA (wpAny_setField_rec e₄ (by simp) fun h₅ e₅ s₅=>?_);replace s₅:Heap.SameBut it h₄ h₅:=s₅
 replace e₅:IsItemIterOut h₅ it d (i+1) es.size ep es[i].key es[i].val hp.objs.size:=e₅
 refine EA (wpAny_setField_rec e₅ (by simp) fun h₆ e₆ s₆=>?_);replace s₆:Heap.SameBut it h₅ h₆:=s₆
 replace e₆:IsItemIterOut h₆ it d (i+1) es.size ep es[i].key es[i].val hp.objs.size:=e₆
 have go:∀b o,b≠it->h₂.get? b=some o->h₆.get? b=some o:=fun b o hb e=>s₆.extBut b o hb (s₅.extBut b o hb (s₄.extBut b o hb (s₃.extBut b o hb e)));refine EA (wpAny_letGo (EB (EB ⟨_,rfl,EB (hQ h₆ e₆ (go _ _ (Cm il) t₂) ?_ fun b o hb e=>go b o hb (k₂ b o hb e))⟩)));show h₆.objs.size=hp.objs.size+1;rw[s₆.1,s₅.1,s₄.1,s₃.1,z₂]
theorem ma{it d:Addr}{i ep:Nat}{od:Obj}{es:Array DictEntry}{ok ov:Value}{Q:Option Value->Shared->Prop}(hh:A.handled=none)(hit:IsItemIter s.heap it d i es.size ep ok ov)(hod:s.heap.get? d=some od)(hdd:od.data=.dict es ep)(hge:es.size<=i)
  (hQ:∀h',Heap.ExtBut it s.heap h'->Q none {s with heap:=h'}):wpAny (model prog w) A (pyNext (.ref it)) Q E s:=by
 have hT:s.TypeIs (.ref it) "dict_itemiterator":=⟨_,hit,rfl⟩
 unfold pyNext;refine EA (Fh (wpAny_callSpecial?_slot (name:=Str.ofString "__next__") hT F.slot_dict_itemiterator_next (Fi F.slot_dict_itemiterator_next hT F.entry_dict_itemiterator_next ?_ (F.args_dict_itemiterator_next_1 _))));refine EA (EB (EA (EA ?_)));(first|refine EA (wpAny_typeNameOfWhole_itemiter hT (EB ?_))|refine EA (wpAny_typeNameOf_itemiter hT (EB ?_)));refine EA (wpAny_fieldsOf hit rfl ?_);have hown:Builtin.Dict_items.ownsTuple "dict_itemiterator"=true:=by decide
 simp only[hown,if_true];show wpAny _ _ (if (Value.ref d==Value.none)=true then _ else _) _ _ s;rw[EE (show ¬((Value.ref d==Value.none)=true) by intro z;cases z)];refine EA (EB (EA (wpAny_dictEntries hod hdd ?_)));rw[EE (by simp)];refine EA (EB (EA (wpAny_dictEpoch hod hdd ?_)));rw[EE (by simp)];refine EB ?_;simp only[show ¬((i:Int)<0) by lia,if_false,Bu,CQ hge];refine EA ?_
 (first|refine EA (wpAny_typeNameOfWhole_itemiter hT (EB ?_))|refine EA (wpAny_typeNameOf_itemiter hT (EB ?_)));show wpAny _ _ (setField (.ref it) 2 .none >>= _) _ _ s
 refine EA (wpAny_setField hit rfl (by simp) ?_);show wpAny _ _ (newExc (.type "StopIteration") [] >>= _) _ _ _;refine EA ?_;simp only[newExc,newTuple];refine EA (wpAny_newObj_type ?_ (by size_fits));refine EA (m:=firstArgMember _ _) (wpAny_of_eq (a:=Value.none) (by first|rfl|(simp only[firstArgMember];rfl)) ?_);refine wpAny_newObj_type ?_ (by size_fits);simp only[raiseNew];refine EA (wpAny_handled ?_);rw[show A.in1.handled=none from hh];refine EA (EB (wpAny_throw ?_));refine EA (wpAny_isInstance (T:="StopIteration") (b:=true) ⟨_,Fc _ rfl,rfl⟩ isSubtype_stop ?_);exact EB (hQ _ (((Heap.SameBut.update ..).extBut.push _).push _))
theorem Hx:entryFor table "dict_itemiterator.__iter__"=some Builtin.«dict_keyiterator.__iter__»:=by exact entryFor_alias (id':="dict_keyiterator.__iter__") (by kernel_rfl) rfl (by decide +kernel) (by kernel_rfl)
theorem fC{it d:Addr}{i n ep:Nat}{ok ov:Value}{Q:Value->Shared->Prop}(hit:IsItemIter s.heap it d i n ep ok ov)(h:Q (.ref it) s):wpAny (model prog w) A (pyIter (.ref it)) Q E s:=by
 have hT:s.TypeIs (.ref it) "dict_itemiterator":=⟨_,hit,rfl⟩
 refine wpAny_pyIter_slot hT F.slot_dict_itemiterator_iter (Fi F.slot_dict_itemiterator_iter hT Hx ?_ (F.args_dict_itemiterator_iter_1 _));show wpAny _ _ (ret (.ref it)) _ _ s;exact EB ⟨_,rfl,"dict_itemiterator",_,hT,F.slot_dict_itemiterator_next.lookup,h⟩
end
def ItP (a:Addr)(o:Obj)(kvs:List (List Key×V)):It:=
 ⟨fun i H=>H a=some (.frz o (.dT kvs))/\i<kvs.length,fun i H x H'=>∃p b e,kvs[i]?=some e/\H p=none/\x=.ref p/\H b=some (.tup (e.1.map kV))/\H'=upd H p (.tup [.ref b,e.2]),fun i H=>H a=some (.frz o (.dT kvs))/\kvs.length<=i⟩
theorem jG{P:Program}{w:World}{K:W.Frag}{elts:List Expr}{x1}{pos:Pos}(a it:Addr)(o:Obj)(kvs:List (List Key×V)):Turn P w K (.Tuple elts x1 pos) (ItP a o kvs) [it] it (fun i h=>∃es ep ok ov,o.data=.dict es ep/\es.size=kvs.length/\IsItemIter h it a i es.size ep ok ov) where
 mem:=by simp
 obj:=fun i h st b hb=>by
  have e:b=it:=by simpa using hb
  subst e;obtain⟨es,ep,ok,ov,_,_,st⟩:=st;exact⟨_,st,fun v z=>by cases z⟩
 keep:=fun i h h' st k=>by
  obtain⟨es,ep,ok,ov,e1,e2,st⟩:=st;exact⟨es,ep,ok,ov,e1,e2,k it (by simp) _ st⟩
 item:=by
  intro X hP hw hK hc i pins s σ H E I hf st hg;subst hP hw hK;obtain⟨es,ep,ok,ov,hd,hn,st⟩:=st;obtain⟨ha,hi⟩:=hg;obtain⟨hoa,hz,hm,xs,kt,o',es',ep',ho',hc',hd',he',_⟩:=I.hok a _ ha;rw[hoa] at ho';cases ho';rw[hd] at hd';cases hd';have hi':i<es.size:=by lia
  have fi:=hf it (by simp);obtain⟨q,eq,e1,e2,e3⟩:=KT.at kt (AL hi);have ek:es[i].key=.ref q.2.1/\es[i].val=q.2.2:=by
   have h1:es.toList[i]?=some es[i]:=by simp[hi']
   rw[he',AW,eq] at h1;have h2:=EM h1;rw[<- h2];exact⟨rfl,rfl⟩
  have hit:it<s.heap.objs.size:=EL st;refine jJ st hoa hd hi' fun h₁ io ht₁ hz₁ hk₁=>⟨_,rfl,wpAny_letOwnedTupleGo_items io fun h₂ he₂ hs₂=>?_⟩
  have kk:∀b o,b≠it->s.heap.get? b=some o->h₂.get? b=some o:=fun b o b1 q=>hs₂.extBut b o b1 (hk₁ b o b1 q)
  have I1:Inv X pins σ H { s with heap:=h₂,toks:=s.toks }:=I.JQ ⟨fun b o q n _=>kk b o (fun z=>n (z ▸ fi)) q,fun b o q n=>⟨o.slots,kk b o (fun z=>n (z ▸ fi)) q⟩,fun b o q=>by
   by_cases z1:b=it
   ·subst z1;exact⟨_,he₂⟩
   ·exact⟨o,kk b o z1 q⟩⟩
  have hn':=I.hok.fresh (AH s.heap.objs.size);have ht₂:h₂.get? s.heap.objs.size=some {cls:=.type "tuple",data:=.seq #[es[i].key,es[i].val]}:=(hs₂.2 _ (Cm hit)).trans ht₁;rw[ek.1,ek.2] at ht₂;have I2:Inv X pins σ (upd H s.heap.objs.size (.tup [.ref q.2.1,kvs[i].2])) {s with heap:=h₂,toks:=s.toks}:=I1.KP (I.Ju _ (AH _)) ⟨by show 2<=sizeLine;decide,[.ref q.2.1,q.2.2],.cons rfl (.cons e3 .nil),_,ht₂,rfl,_,rfl⟩;refine⟨.ref s.heap.objs.size,_,I2,rfl,⟨_,q.2.1,kvs[i],AL hi,hn',rfl,e2,rfl⟩,⟨es,ep,_,_,hd,hn,he₂⟩,fun b hb=>?_⟩;have e:b=it:=by simpa using hb
  subst e;rw[ai (AR hit)];exact fi.1
 done:=by
  intro X hP hw hK hc i pins s σ H E I hf st hg;subst hP hw hK;obtain⟨es,ep,ok,ov,hd,hn,st⟩:=st;obtain⟨ha,hi⟩:=hg;obtain⟨hoa,_⟩:=I.hok a _ ha;obtain⟨f0,f1,f2,f3,f4,f5⟩:=hf it (by simp);exact ma (I.ok.hd hc) st hoa hd (by lia) fun h' eb=>⟨rfl,I.turned (t':=s.toks) (fun b o hb e=>eb b o hb e) f0 f1 f3 f4 f5⟩
 self:=fun _ _ _ _ _ st h=>by
  obtain⟨es,ep,ok,ov,_,_,st⟩:=st;exact fC st h
section
variable {X:Cx}
def uf (tl:TE):TI:=fun σ H R=>tl σ H fun x H1=>∃a kvs,x=.ref a/\H1 a=some (.dT kvs)/\∀o,R (ItP a o kvs) (upd H1 a (.frz o (.dT kvs)))
theorem ji{elts:List Expr}{x1}{tpos apos cpos:Pos}{l:Expr}{tl:TE}(hl:PE X l tl)(hbase:attributeBase l "items" X.env (eval l X.env)=eval l X.env:=by rfl)(hline:(apos.endLine==cpos.line)=true:=by rfl):PI X (.Tuple elts x1 tpos) (.Call (.Attribute l "items" apos) [] [] cpos) (uf tl):=by
 intro pins s σ H R I h;refine wpAny_Call_method0_late hbase hline (thn (hl pins s σ H _ I h) fun v s1 hq88=>?_);obtain⟨x,H1,I1,r1,q1⟩:=hq88;obtain⟨a,kvs,e,hd,q⟩:=q1;subst e;cases r1;obtain⟨t1,t2,hm⟩:=nR I1 (.inr ⟨kvs,.inl hd⟩);refine⟨"dict","dict.items",F.plainAttrs_dict,F.slot_dict_items,F.type_dict_items,t1,t2,Calls.callWith_builtin rfl (PySem.evalArgs_none (jM t1 hm ?_))⟩;obtain⟨hz,_,xs,kt,o,es,ep,ho,hc,hdd,he,_⟩:=I1.hok a _ hd;refine jo ⟨_,Fc _ rfl,rfl,rfl⟩ (Fb _ ho) hdd ?_;have I2:=I1.freeze hd ho (fun _ z=>by cases z) (fun _ _ z=>by cases z) (fun _ z=>by cases z) (fun _ z=>by cases z);have hn:es.size=kvs.length:=by
  have h1:es.toList.length=xs.length:=by rw[he,AI]
  rw[Br] at h1;rw[h1];exact(Paired.length kt).symm
 refine⟨_,[_],_,_,upd H1 a (.frz o (.dT kvs)),rfl,I2.kept (t':=s1.toks) fun b o e=>Fb _ (Fb _ e),jG a _ o kvs,⟨es,ep,_,_,hdd,hn,Fc _ rfl⟩,fun b hb=>?_,q o⟩;have e:b=(s1.heap.push {cls:=.type "dict_items",data:=.fields #[.ref a]}).objs.size:=by simpa using hb
 have hle:s1.heap.objs.size<=b:=by rw[e,Fj];exact BL _
 exact I2.JA hle (I2.hok.fresh hle)
end
theorem lW{a:Addr}{o:Obj}{kvs:List (List Key×V)}{g:TG}{tb:TS}{D:Ends}{σ:St}{H:Hp}(Pv:Nat->St->Hp->Prop)(h0:Pv 0 σ H)(hl:∀i σ H,i<=kvs.length->Pv i σ H->H a=some (.frz o (.dT kvs)))
  (hs:∀i e p b σ H,kvs[i]?=some e->H b=some (.tup (e.1.map kV))->H p=none->Pv i σ H->g (.ref p) σ (upd H p (.tup [.ref b,e.2])) fun σ2 H2=>tb {D with nx:=Pv (i+1),ct:=Pv (i+1),bk:=D.nx} σ2 H2)(hd:∀σ H,Pv kvs.length σ H->D.nx σ H) :
  ∃W:Nat->Nat->St->Hp->Prop,(∃m,W 0 m σ H)/\∀i m σ H,W i m σ H ->
   ((ItP a o kvs).stop i H/\D.nx σ H)\/((ItP a o kvs).go i H/\∃N:St->Hp->Prop,(∀σ' H',N σ' H'->∃m',m'<m/\W (i+1) m' σ' H')/\∀x H',(ItP a o kvs).yld i H x H'->g x σ H' fun σ2 H2=>tb {D with nx:=N,ct:=N,bk:=D.nx} σ2 H2):=by
 refine⟨fun i m σ H=>m=kvs.length-i/\i<=kvs.length/\Pv i σ H,⟨kvs.length,by simp,Bi _,h0⟩,?_⟩;rintro i m σ H ⟨rfl,hi,p⟩;have q:=hl i σ H hi p;by_cases hlt:i<kvs.length
 ·refine .inr ⟨⟨q,hlt⟩,Pv (i+1),fun σ' H' p'=>⟨kvs.length-(i+1),by lia,rfl,hlt,p'⟩,fun x H' y=>?_⟩;obtain⟨c,b,e,h1,h2,rfl,h3,rfl⟩:=y;exact hs i e c b σ _ h1 h3 h2 p
 ·have e:i=kvs.length:=by lia
  subst e;exact .inl ⟨⟨q,AH _⟩,hd σ H p⟩
theorem yp{a:Addr}{o:Obj}{kvs:List (List Key×V)}{k:Nat}{js:List Nat}{g:TG}{tc:TT}{te:TE}{σ:St}{H:Hp}{Q:VK}(P:Nat->List V->Hp->Prop)(h0:P 0 [] H)(hz:∀i ys H,i<=kvs.length->P i ys H->ys.length<=i)(hn:kvs.length<=sizeLine)
  (hl:∀i ys H,i<=kvs.length->P i ys H->H a=some (.frz o (.dT kvs)))
  (hs:∀i e ys H p b,kvs[i]?=some e->P i ys H->H p=none->H b=some (.tup (e.1.map kV))->g (.ref p) (List.replicate k none++bJ js σ) (upd H p (.tup [.ref b,e.2])) fun σ2 H2=>tc σ2 H2 fun b H3=>if b=true then te σ2 H3 fun y H4=>Nx kvs.length i P (ys++[y]) H4 else Nx kvs.length i P ys H3)
  (hd:∀ys H,P kvs.length ys H->∀p,H p=none->Q (.ref p) (upd H p (.lst ys))) :
  fh (ItP a o kvs) k js g tc te σ H Q:=
 dv P h0 hz hn (fun i ys H hi p=>⟨hl i ys H (BA hi) p,hi⟩) (fun ys H p=>⟨hl _ ys H (AH _) p,AH _⟩)
  (fun i ys H v H' hi p y=>by obtain⟨q,b,e,h1,h2,rfl,h3,rfl⟩:=y;exact hs i e ys H q b h1 p h2 h3) hd
section
variable {X:Cx}{k v:Expr}{pos:Pos}{tk tv:TE}
def uG (tk tv:TE):TE:=fun σ H Q=>∀p,H p=none->tk σ (upd H p (.dT [])) fun y H1=>tv σ H1 fun x H2=>∃ks b,H2 p=some (.dT [])/\y=.ref b/\H2 b=some (.tup (ks.map kV))/\Q (.ref p) (upd H2 p (.dT [(ks,x)]))
theorem mT(hu:X.A.units+1<cLine)(hk:PE X k tk)(hv:PE X v tv):PE X (.Dict [some k] [v] pos) (uG tk tv):=by
 intro pins s σ H Q I h;have I1:Inv X pins σ (upd H s.heap.objs.size (.dT [])) {s with heap:=s.heap.push {cls:=.type "dict",data:=.dict #[]},toks:=s.toks}:=I.laid (a:=s.heap.objs.size) (o:=.dT []) (t':=s.toks) (fun _ _ q=>Fb _ q) (AH _) (lg s.heap I.big);refine wpAny_Dict_any rfl rfl (by simp) (by show 1<=15;decide) (pairTrees_cons_walk (thn (hk pins _ σ _ _ I1 (h _ (I.hok.fresh (AH _)))) fun kv s1 hq89=>?_));obtain⟨y,H1,I2,ry,q1⟩:=hq89;refine thn (hv pins s1 σ H1 _ I2 q1) fun vv s2 ⟨x,H2,I3,rx,ks,b,e,ey,eb,q2⟩=>pairTrees_nil_walk ?_;subst ey;cases (show kv=Value.ref b from ry);obtain⟨z,hd,xs,rel,dd⟩:=vF I3.hok e;cases rel;unfold storeAll;rw[DQ];refine EA (EA (wpAny_dictSet_heap (hsz:=Bi _) (knd:=tupleKind (aF X.prog X.w)) (Nat.lt_of_succ_lt hu) (ff I3.hok eb) dd fun h' dd' hs=>EB ?_));show wpAny _ _ (storeAll s.heap.objs.size []) _ _ _;unfold storeAll;rw[List.forIn_nil];refine EB ⟨.ref s.heap.objs.size,_,?_,rfl,q2⟩;obtain⟨q,es,ep,hq,h2,h3,h4,_,h5⟩:=dd';refine cu I3 (by rw[e];exact True.intro) hs ⟨q,hq⟩ ⟨by show 1<=sizeLine;decide,hd,_,.cons ⟨rfl,?_,rx⟩ .nil,q,es,ep,hq,h2,h3,h4,h5⟩;rw[ai (bD eb e (fun z=>nomatch z))];exact eb
theorem Kx:bootBuiltins "any"=some (.builtin "any"):=by decide +kernel
def yg (K:W.Frag):List V->Hp->VK->Prop:=fun xs H Q=>∃(p:Addr)(bs:List Bool),xs=[.ref p]/\SqL K H p (bs.map V.bl)/\Q (.bl (bs.any id)) H
theorem rn(hc:X.calm=true):cq X (.builtin "any") (yg X.K):=by
 intro pins s σ H xs us Q I r h;obtain⟨p,bs,rfl,hq,q⟩:=h;obtain⟨u,rfl,rx⟩:=dq r;cases rx;obtain⟨its,rv,pl,hz⟩:=I.list hq;have hh:X.A.in1.handled=none:=I.ok.hd hc;have e:=boolsOf rv;subst e;have hp:p<s.heap.objs.size:=by obtain⟨o,n,e,_⟩:=pl;exact EL e
 refine call_any_walk (wpAny_pyIter_list pl.isList ⟨s.heap.objs.size,_,_,_,_,_,fun i=>bs.getD i false,rfl,Walks.list hh s.heap.objs.size p (AR hp) _,⟨⟨_,Fc _ rfl,rfl,rfl⟩,pl.isList.push _⟩,?_,fun h' tk hk=>?_⟩)
 ·intro i v s' Q' E' hv q';have hv':(bs.map Value.bool)[i]?=some v:=by simpa using hv
  rw[AW] at hv';cases eb:bs[i]? with
  |none=>rw[eb] at hv';cases hv'
  |some b=>
   rw[eb] at hv';cases hv';refine wpAny_truthy_bool ?_;have q2:Q' (bs.getD i false) s':=q';rw[Ba,eb] at q2;exact q2
 ·have e:(List.range (bs.map Value.bool).toArray.size).any (fun i=>bs.getD i false)=bs.any id:=by
   rw[Fe,BO,BO];constructor
   ·rintro⟨i,hi,h⟩;have hi':i<bs.length:=by simpa using BC.mp hi
    rw[Ba,AL hi'] at h;exact⟨_,Bq hi',h⟩
   ·rintro⟨b,hb,h⟩;obtain⟨i,hi,rfl⟩:=Cf.mp hb;refine⟨i,BC.mpr (by simpa using hi),?_⟩;rw[Ba,AL hi];exact h
  rw[e];refine⟨.bl _,H,?_,rfl,q⟩;have I1:Inv X pins σ H {s with heap:=s.heap.push {cls:=.type "list_iterator",data:=.fields #[.ref p,.int 0 0]},toks:=s.toks}:=I.kept fun b o e=>Fb _ e;refine I1.turned (it:=s.heap.objs.size) (fun b o hb e=>hk b o (by simpa using hb) e) (I.hok.fresh (AH _)) (Cm I.lt) (.inr (Heap.get?_none_of_le I.sz)) (fun x c e z=>?_) fun p hp z=>?_
  ·obtain⟨v,o,ho,_⟩:=I.cell x c e;rw[z] at ho;exact absurd (EL ho) (Bl _)
  ·have:=(I.pin p hp).1;rw[z] at this;exact absurd (EL this) (Bl _)
end
end L2
namespace SH
open PySem PyProof.Rows
def LtK (prog:Program)(w:World)(κ:KeyKind)(kd:SortKind)(s:Shared):Prop:=∀(A:Around)(E:Value->Shared->Prop)(x y:Value)(a b:κ.α)(Q:Bool->Shared->Prop),κ.keyOf x=some a->κ.keyOf y=some b->Q (κ.blt a b) s->wpAny (model prog w) A (keyLt' kd x y) Q E s
structure SB(κ:KeyKind)(kd:SortKind)(a₀:Array Keyed)(st:SortSt):Prop where
 perm:(arrOf st).Perm a₀
 kind:kindOf st=kd
 failed:failedOf st=none
section
variable {κ:KeyKind}{kd:SortKind}{a₀:Array Keyed}{st:SortSt}
theorem SB.size(h:SB κ kd a₀ st):(arrOf st).size=a₀.size:=h.perm.size_eq
theorem SB.at(h:SB κ kd a₀ st)(h0:KeysOf κ a₀){i:Nat}(hi:i<a₀.size):∃p,(arrOf st)[i]?=some p/\∃a,κ.keyOf p.1=some a:=by
 have hi':i<(arrOf st).size:=by rw[h.size];exact hi
 exact⟨(arrOf st)[i],BV hi',h0 _ ((CU.mp h.perm).mem_iff.mp (by simp))⟩
end
theorem je{prog:Program}{w:World}{A:Around}{E:Value->Shared->Prop}{s:Shared}{st:SortSt}{arr:Array Keyed}{i:Nat}{p:Keyed}{Q:Keyed->SortSt->Prop}(e:arr[i]?=some p)(h:Q p st):wpS (model prog w) A E s (elem' arr i) Q st:=by
 rw[elem'_eq,e];exact ED h
theorem bP{prog:Program}{w:World}{A:Around}{E:Value->Shared->Prop}{s:Shared}{st:SortSt}{α:Type}{c:Prop} [Decidable c]{m n:StateT SortSt Sem α}{Q:α->SortSt->Prop}(h1:c->wpS (model prog w) A E s m Q st)(h2:¬c->wpS (model prog w) A E s n Q st):wpS (model prog w) A E s (if c then m else n) Q st:=by
 by_cases h:c
 ·rw[EF h];exact h1 h
 ·rw[EE h];exact h2 h
structure Frm(κ:KeyKind)(kd:SortKind)(a₀:Array Keyed)(st0:SortSt)(lo hi:Nat)(st:SortSt):Prop where
 sb:SB κ kd a₀ st
 pend:pendingOf st=pendingOf st0
 out:∀k,k<lo\/hi<=k->(arrOf st)[k]?=(arrOf st0)[k]?
section
variable {κ:KeyKind}{kd:SortKind}{a₀:Array Keyed}{st0 st:SortSt}{lo hi:Nat}
theorem Frm.refl(h:SB κ kd a₀ st):Frm κ kd a₀ st lo hi st:=⟨h,rfl,fun _ _=>rfl⟩
theorem Frm.put(h:Frm κ kd a₀ st0 lo hi st){xs:Array Keyed}(p:xs.Perm (arrOf st))(o:∀k,k<lo\/hi<=k->xs[k]?=(arrOf st)[k]?):Frm κ kd a₀ st0 lo hi (setArr st xs):=⟨⟨p.trans h.sb.perm,h.sb.kind,h.sb.failed⟩,h.pend,fun k hk=>(o k hk).trans (h.out k hk)⟩
theorem Frm.mirror(h:Frm κ kd a₀ st0 lo hi st){i j:Nat}(h1:lo<=i)(h2:j<=hi)(h3:hi<=a₀.size):Frm κ kd a₀ st0 lo hi (setArr st (mirror (arrOf st) i j ((j-i)/2))):=h.put (mirror_perm _ _ _ _) fun k hk=>by
 rw[getElem?_mirror_all (by rw[h.sb.size];lia),EE (by lia)]
theorem Frm.bubble(h:Frm κ kd a₀ st0 lo hi st){src d:Nat}(h1:lo<=src-d)(h2:src<hi)(h3:hi<=a₀.size)(h4:d<=src):Frm κ kd a₀ st0 lo hi (setArr st (bubble (arrOf st) src d)):=h.put (bubble_perm _ _ _) fun k hk=>by
 rw[getElem?_bubble (by rw[h.sb.size];lia) d h4,EE (by lia),EE (by lia)]
end
def Up (κ:KeyKind)(xs:Array Keyed)(lo n:Nat):Prop:=∀i j,i<=j->j<n->κ.kle (KK κ xs (lo+i)) (KK κ xs (lo+j))
def Dn (κ:KeyKind)(xs:Array Keyed)(lo n:Nat):Prop:=∀i j,i<=j->j<n->κ.kle (KK κ xs (lo+j)) (KK κ xs (lo+i))
theorem Up.more{κ:KeyKind}{xs:Array Keyed}{lo n:Nat}(h:Up κ xs lo n)(h1:1<=n)(hl:κ.kle (KK κ xs (lo+n-1)) (KK κ xs (lo+n))):Up κ xs lo (n+1):=fun i j hij hj=>by
 by_cases c:j<n
 ·exact h i j hij c
 ·have e:j=n:=by lia
  subst e;by_cases d:i=j
  ·subst d;exact ET _
  ·refine KeyOrd.kle_trans (h i (j-1) (by lia) (by lia)) ?_;rw[show lo+(j-1)=lo+j-1 by lia];exact hl
theorem Dn.more{κ:KeyKind}{xs:Array Keyed}{lo n:Nat}(h:Dn κ xs lo n)(h1:1<=n)(hl:κ.kle (KK κ xs (lo+n)) (KK κ xs (lo+n-1))):Dn κ xs lo (n+1):=fun i j hij hj=>by
 by_cases c:j<n
 ·exact h i j hij c
 ·have e:j=n:=by lia
  subst e;by_cases d:i=j
  ·subst d;exact ET _
  ·refine KeyOrd.kle_trans ?_ (h i (j-1) (by lia) (by lia));rw[show lo+(j-1)=lo+j-1 by lia];exact hl
section
variable {prog:Program}{w:World}{A:Around}{E:Value->Shared->Prop}{s:Shared}{κ:KeyKind}{kd:SortKind}{st:SortSt}{a₀:Array Keyed}
theorem dQ{i j:Nat}{Q:Option Bool->SortSt->Prop}(hO:LtK prog w κ kd s)(hB:SB κ kd a₀ st)(h0:KeysOf κ a₀)(hi:i<a₀.size)(hj:j<a₀.size)(h:Q (some (κ.blt (KK κ (arrOf st) i) (KK κ (arrOf st) j))) st):wpS (model prog w) A E s (ltAt' i j) Q st:=by
 obtain⟨⟨x,p⟩,e1,a,ha⟩:=hB.at h0 hi;obtain⟨⟨y,q⟩,e2,b,hb⟩:=hB.at h0 hj;have ka:KK κ (arrOf st) i=a:=by unfold KK;rw[e1];simp[ha]
 have kb:KK κ (arrOf st) j=b:=by unfold KK;rw[e2];simp[hb]
 rw[ka,kb] at h;rw[ltAt'_eq];refine EC (wpS_get ?_);refine EC (je e1 (EC (je e2 ?_)));rw[lt'_eq];refine EC (wpS_get ?_);rw[hB.kind];exact EC (wpS_lift (Fh (hO A _ x y a b _ ha hb ⟨rfl,ED h⟩)))
theorem gR{i j:Nat}{Q:Unit->SortSt->Prop}(h:∀st',st'=setArr st (mirror (arrOf st) i j ((j-i)/2))->Q () st'):wpS (model prog w) A E s (reverseSlice' i j) Q st:=by
 rw[reverseSlice'_eq];exact wpS_modify (h _ rfl)
def Lk:Nat->Nat->StateT SortSt Sem (Option Nat):=sortPriv% PySem.Builtin.countRun
def Kh:Nat->Nat->Nat->StateT SortSt Sem Bool:=sortPriv% PySem.Builtin.binarySort
theorem mj{lo nrem:Nat}{Q:Option Nat->SortSt->Prop}(hO:LtK prog w κ kd s)(h0:KeysOf κ a₀)(hn:lo+nrem<=a₀.size)(h1:1<=nrem)(hB:SB κ kd a₀ st)
  (h:∀m st',Frm κ kd a₀ st lo (lo+nrem) st'->1<=m->m<=nrem->Up κ (arrOf st') lo m->Q (some m) st'):wpS (model prog w) A E s (Lk lo nrem) Q st:=by
 have fin:∀st1,Frm κ kd a₀ st lo (lo+nrem) st1->∀n,1<=n->n<=nrem->Dn κ (arrOf st1) lo n->Up κ (arrOf (setArr st1 (mirror (arrOf st1) lo (lo+n) ((lo+n-lo)/2)))) lo n:=fun st1 F n n1 n2 hd i j hij hj=>by
  have hz:lo+n<=(arrOf st1).size:=by rw[F.sb.size];lia
  show κ.kle (KK κ (mirror (arrOf st1) lo (lo+n) ((lo+n-lo)/2)) (lo+i)) (KK κ (mirror (arrOf st1) lo (lo+n) ((lo+n-lo)/2)) (lo+j));rw[KK_mirror hz,KK_mirror hz,EF (by lia),EF (by lia)];have:=hd (n-1-j) (n-1-i) (by lia) (by lia);rw[show lo+(n-1-j)=lo+(lo+n)-1-(lo+j) by lia,show lo+(n-1-i)=lo+(lo+n)-1-(lo+i) by lia] at this;exact this
 have init:Up κ (arrOf st) lo 1:=fun i j hij hj=>by
  have:i=j:=by lia
  subst this;exact ET _
 refine EC (wpS_mono (wpS_forRange (I:=fun x c st'=>st'=st/\c=(none,x)/\Up κ (arrOf st) lo x) (Q:=fun c st'=>st'=st/\∃n,c=(none,n)/\1<=n/\n<=nrem/\Up κ (arrOf st) lo n/\(n=nrem\/κ.klt (KK κ (arrOf st) (lo+n)) (KK κ (arrOf st) (lo+n-1)))) ?step ?fin ⟨rfl,rfl,init⟩) ?post)
 case fin=>
  rintro c st' ⟨rfl,rfl,u⟩;rw[show max 1 nrem=nrem by lia] at u ⊢;exact⟨rfl,nrem,rfl,h1,AH _,u,.inl rfl⟩
 case step=>
  rintro x c st' hx1 hx2 ⟨rfl,rfl,u⟩;refine EC (dQ (i:=lo+x) (j:=lo+x-1) hO hB h0 (by lia) (by lia) ?_);cases hl:κ.blt (KK κ (arrOf st') (lo+x)) (KK κ (arrOf st') (lo+x-1)) with
  |true=>
   exact ED ⟨rfl,x,rfl,hx1,by lia,u,.inr hl⟩
  |false=>
   exact ED ⟨rfl,rfl,u.more hx1 hl⟩
 case post=>
  rintro c st' ⟨rfl,n,rfl,n1,n2,u,hor⟩;refine bP (fun e=>ED (h n st' (.refl hB) n1 n2 u)) fun e=>?_;have hne:n≠nrem:=fun z=>e (by show((n:Nat)==nrem)=true;rw[z];exact beq_self_eq_true _);have hlt:κ.klt (KK κ (arrOf st') (lo+n)) (KK κ (arrOf st') (lo+n-1)):=hor.resolve_left hne;apply bP
  case' h1=>
   intro hgt;have hgt':n>1:=hgt;refine EC (dQ (i:=lo) (j:=lo+n-1) hO hB h0 (by lia) (by lia) ?_);cases hrose:κ.blt (KK κ (arrOf st') lo) (KK κ (arrOf st') (lo+n-1))
   case true=>exact ED (h n st' (.refl hB) n1 n2 u)
   have hall:∀k,lo<=k->k<lo+n->KK κ (arrOf st') k=KK κ (arrOf st') (lo+n-1):=fun k k1 k2=>by
    have a1:=u 0 (k-lo) (by lia) (by lia);have a2:=u (k-lo) (n-1) (by lia) (by lia);rw[show lo+(k-lo)=k by lia] at a1 a2;rw[show lo+(n-1)=lo+n-1 by lia] at a2;exact KeyOrd.kle_antisymm a2 (KeyOrd.kle_trans hrose a1)
   refine EC (gR (i:=lo) (j:=lo+n) fun st1 hst=>?_);have hz:lo+n<=(arrOf st').size:=by rw[hB.size];lia
   have F1:Frm κ kd a₀ st' lo (lo+nrem) st1:=by rw[hst];exact(Frm.refl hB).mirror (AH _) (by lia) hn
   have D1:Dn κ (arrOf st1) lo (n+1):=by
    rw[hst];have e0:∀k,KK κ (arrOf (setArr st' (mirror (arrOf st') lo (lo+n) ((lo+n-lo)/2)))) k=KK κ (arrOf st') k:=KK_mirror_equal hz hall;have d0:Dn κ (arrOf (setArr st' (mirror (arrOf st') lo (lo+n) ((lo+n-lo)/2)))) lo n:=fun i j hij hj=>by
     rw[e0,e0,hall (lo+i) (by lia) (by lia),hall (lo+j) (by lia) (by lia)];exact ET _
    refine d0.more n1 ?_;rw[e0,e0];exact EU hlt
  case' h2=>
   intro hgt;have hn1:n=1:=by
    have:¬n>1:=hgt;lia
   obtain⟨st1,e1⟩:∃st1,st1=st':=⟨_,rfl⟩
   have F1:Frm κ kd a₀ st' lo (lo+nrem) st1:=by rw[e1];exact .refl hB
   have D1:Dn κ (arrOf st1) lo (n+1):=by
    rw[e1];have d0:Dn κ (arrOf st') lo n:=fun i j hij hj=>by
     have:i=j:=by lia
     subst this;exact ET _
    exact d0.more n1 (EU hlt)
   rw[<- e1]
  all_goals (
   clear hlt hor u;refine EC (wpS_lift (Fk ⟨rfl,?_⟩))
   refine EC (wpS_mono (wpS_forRange (I:=fun x c st2=>∃neq,c=(none,x,neq)/\Frm κ kd a₀ st' lo (lo+nrem) st2/\Dn κ (arrOf st2) lo x/\neq+1<=x/\∀k,lo+x - (neq+1)<=k->k < lo+x->KK κ (arrOf st2) k=KK κ (arrOf st2) (lo+x - 1))
    (Q:=fun c st2=>∃m neq,c=(none,m,neq)/\Frm κ kd a₀ st' lo (lo+nrem) st2/\n+1<=m/\m<=nrem/\Dn κ (arrOf st2) lo m/\neq+1<=m/\∀k,lo+m - (neq+1)<=k->k < lo+m->KK κ (arrOf st2) k=KK κ (arrOf st2) (lo+m - 1)) (fun x c st2 hx1 hx2 z=>?_) (fun c st2 z=>?_) ⟨0,rfl,F1,D1,by lia,fun k k1 k2=>by congr 1; lia⟩) fun c st2 z=>?_)
   ·obtain⟨neq,rfl,F2,D2,q1,q2⟩:=z;have hz:lo+x<=(arrOf st2).size:=by rw[F2.sb.size];lia
    refine EC (dQ (i:=lo+x) (j:=lo+x-1) hO F2.sb h0 (by lia) (by lia) ?_);cases hl:κ.blt (KK κ (arrOf st2) (lo+x)) (KK κ (arrOf st2) (lo+x-1)) with
    |true=>
     refine bP (fun _=>bP (fun hq=>?_) fun hq=>?_) fun z=>absurd rfl z
     ·refine EC (gR (i:=lo+x-(neq+1)) (j:=lo+x) fun st3 hst=>ED ?_);have e0:∀k,KK κ (arrOf st3) k=KK κ (arrOf st2) k:=by rw[hst];exact KK_mirror_equal hz q2
      have d0:Dn κ (arrOf st3) lo x:=fun i j hij hj=>by rw[e0,e0];exact D2 i j hij hj
      exact⟨0,rfl,by rw[hst];exact F2.mirror (by lia) (by lia) hn,d0.more (by lia) (by rw[e0,e0];exact EU hl),by lia,fun k k1 k2=>by congr 1;lia⟩
     ·exact ED ⟨0,rfl,F2,D2.more (by lia) (EU hl),by lia,fun k k1 k2=>by congr 1;lia⟩
    |false=>
     refine EC (dQ (i:=lo+x-1) (j:=lo+x) hO F2.sb h0 (by lia) (by lia) ?_);cases hg:κ.blt (KK κ (arrOf st2) (lo+x-1)) (KK κ (arrOf st2) (lo+x)) with
     |true=>exact ED ⟨x,neq,rfl,F2,hx1,by lia,D2,q1,q2⟩
     |false=>
      have heq:KK κ (arrOf st2) (lo+x)=KK κ (arrOf st2) (lo+x-1):=KeyOrd.kle_antisymm hg hl;refine ED ⟨neq+1,rfl,F2,D2.more (by lia) (by rw[heq];exact ET _),by lia,fun k k1 k2=>?_⟩;rw[show lo+(x+1)-1=lo+x by lia];by_cases c:k=lo+x
      ·rw[c]
      ·rw[heq];exact q2 k (by lia) (by lia)
   ·obtain⟨neq,rfl,F2,D2,q1,q2⟩:=z;rw[show max (n+1) nrem=nrem by lia] at D2 q1 q2 ⊢;exact⟨nrem,neq,rfl,F2,by lia,AH _,D2,q1,q2⟩
   ·obtain⟨m,neq,rfl,F2,m1,m2,D2,q1,q2⟩:=z;have hz:lo+m<=(arrOf st2).size:=by rw[F2.sb.size];lia
    apply bP
    case' h1=>
     intro hq;refine EC (gR (i:=lo+m-(neq+1)) (j:=lo+m) fun st3 hst=>?_);have e0:∀k,KK κ (arrOf st3) k=KK κ (arrOf st2) k:=by rw[hst];exact KK_mirror_equal hz q2
     have D3:Dn κ (arrOf st3) lo m:=fun i j hij hj=>by rw[e0,e0];exact D2 i j hij hj
     have F3:Frm κ kd a₀ st' lo (lo+nrem) st3:=by rw[hst];exact F2.mirror (by lia) (by lia) hn
     clear hst e0
    case' h2=>
     intro hq;obtain⟨st3,e3⟩:∃st3,st3=st2:=⟨_,rfl⟩
     have D3:Dn κ (arrOf st3) lo m:=by rw[e3];exact D2
     have F3:Frm κ kd a₀ st' lo (lo+nrem) st3:=by rw[e3];exact F2
     rw[<- e3];clear e3
    all_goals (
     refine EC (gR (i:=lo) (j:=lo+m) fun st4 hst=>?_);have U4:Up κ (arrOf st4) lo m:=by rw[hst];exact fin st3 F3 m (by lia) m2 D3
     have F4:Frm κ kd a₀ st' lo (lo+nrem) st4:=by rw[hst];exact F3.mirror (AH _) (by lia) hn
     refine EC (wpS_mono (wpS_forRange (I:=fun x c st5=>st5=st4/\c=(none,x)/\Up κ (arrOf st4) lo x) (Q:=fun c st5=>st5=st4/\∃n,c=(none,n)/\1<=n/\n<=nrem/\Up κ (arrOf st4) lo n) (fun x c st5 hx1 hx2 z=>?_) (fun c st5 z=>?_) ⟨rfl,rfl,U4⟩) fun c st5 z=>?_)
     ·obtain⟨rfl,rfl,u⟩:=z;have hx1':m<=x:=hx1;have hx2':x<nrem:=hx2;refine EC (dQ (i:=lo+x) (j:=lo+x-1) hO F4.sb h0 (by lia) (by lia) ?_);cases hl:κ.blt (KK κ (arrOf st5) (lo+x)) (KK κ (arrOf st5) (lo+x-1)) with
      |true=>exact ED ⟨rfl,x,rfl,by lia,by lia,u⟩
      |false=>exact ED ⟨rfl,rfl,u.more (by lia) hl⟩
     ·obtain⟨rfl,rfl,u⟩:=z;rw[show max m nrem=nrem by lia] at u ⊢;exact⟨rfl,nrem,rfl,h1,AH _,u⟩
     ·obtain⟨rfl,n',rfl,b1,b2,u⟩:=z
      exact ED (h n' st5 F4 b1 b2 u)))
theorem ju{lo n ok:Nat}{Q:Bool->SortSt->Prop}(hO:LtK prog w κ kd s)(h0:KeysOf κ a₀)(hn:lo+n<=a₀.size)(hok:ok<=n)(hB:SB κ kd a₀ st)(hs:Up κ (arrOf st) lo ok)
  (h:∀st',Frm κ kd a₀ st lo (lo+n) st'->Up κ (arrOf st') lo n->Q true st'):wpS (model prog w) A E s (Kh lo n ok) Q st:=by
 refine EC (wpS_mono (wpS_forRange (I:=fun k c st'=>c=(none,())/\Frm κ kd a₀ st lo (lo+n) st'/\Up κ (arrOf st') lo (min k n)) (Q:=fun c st'=>c=(none,())/\Frm κ kd a₀ st lo (lo+n) st'/\Up κ (arrOf st') lo n) (fun k c st1 hk1 hk2 z=>?_) (fun c st' z=>?_) ⟨rfl,.refl hB,?_⟩) fun c st' z=>?_)
 rotate_left
 ·obtain⟨hc,F,u⟩:=z;rw[show min (max (max ok 1) n) n=n by lia] at u;exact⟨hc,F,u⟩
 ·intro i j hij hj;by_cases c:ok=0
  ·have:i=j:=by lia
   subst this;exact ET _
  ·exact hs i j hij (by lia)
 ·obtain⟨rfl,F,u⟩:=z;exact ED (h st' F u)
 obtain⟨rfl,F1,u⟩:=z;rw[show min k n=k by lia] at u;have hk:lo+k<a₀.size:=by lia
 refine EC (wpS_mono (wpS_forRange (I:=fun x c st2=>st2=st1/\∃l r,c=(none,l,r)/\l<=r/\r<=k/\r - l<=k - x/\(∀i,i < l->κ.kle (KK κ (arrOf st1) (lo+i)) (KK κ (arrOf st1) (lo+k)))/\(∀i,r<=i->i < k->κ.klt (KK κ (arrOf st1) (lo+k)) (KK κ (arrOf st1) (lo+i))))
  (Q:=fun c st2=>st2=st1/\∃l r,c=(none,l,r)/\l<=k/\(∀i,i < l->κ.kle (KK κ (arrOf st1) (lo+i)) (KK κ (arrOf st1) (lo+k)))/\(∀i,l<=i->i < k->κ.klt (KK κ (arrOf st1) (lo+k)) (KK κ (arrOf st1) (lo+i)))) (fun x c st2 hx1 hx2 z=>?_) (fun c st2 z=>?_) ⟨rfl,0,k,rfl,Bi _,AH _,by lia,fun i hi=>by lia,fun i h1 h2=>by lia⟩) fun c st2 z=>?_)
 ·obtain⟨rfl,l,r,rfl,b1,b2,b3,b4,b5⟩:=z;refine bP (fun hge=>?_) fun hge=>?_
  ·have hge':l≥r:=hge;have:l=r:=by lia
   subst this;exact ED ⟨rfl,l,l,rfl,b2,b4,b5⟩
  have hge':¬l≥r:=hge;refine EC (dQ (i:=lo+k) (j:=lo+(l+r)/2) hO F1.sb h0 hk (by lia) ?_);cases hl:κ.blt (KK κ (arrOf st2) (lo+k)) (KK κ (arrOf st2) (lo+(l+r)/2)) with
  |true=>exact ED ⟨rfl,l,(l+r)/2,rfl,by lia,by lia,by lia,b4,fun i h1 h2=>KeyOrd.klt_of_klt_of_kle hl (u _ _ h1 h2)⟩
  |false=>exact ED ⟨rfl,(l+r)/2+1,r,rfl,by lia,by lia,by lia,fun i h1=>KeyOrd.kle_trans (u i ((l+r)/2) (by lia) (by lia)) hl,b5⟩
 ·obtain⟨rfl,l,r,rfl,b1,b2,b3,b4,b5⟩:=z;have b3':r-l<=k-max 0 k:=b3;have:l=r:=by lia
  subst this;exact⟨rfl,l,l,rfl,b2,b4,b5⟩
 ·obtain⟨rfl,l,r,rfl,b1,b4,b5⟩:=z;have hz:lo+k<(arrOf st2).size:=by rw[F1.sb.size];exact hk
  refine EC (wpS_modify (ED ⟨rfl,F1.bubble (src:=lo+k) (d:=lo+k-(lo+l)) (by lia) (by lia) hn (by lia),?_⟩));rw[show min (k+1) n=k+1 by lia];intro i j hij hj;show κ.kle (KK κ (bubble (arrOf st2) (lo+k) (lo+k-(lo+l))) (lo+i)) (KK κ (bubble (arrOf st2) (lo+k) (lo+k-(lo+l))) (lo+j));rw[KK_bubble hz (by lia),KK_bubble hz (by lia),show lo+k-(lo+k-(lo+l))=lo+l by lia];by_cases c1:lo+j=lo+l
  ·rw[EF c1];by_cases c2:lo+i=lo+l
   ·rw[EF c2];exact ET _
   ·rw[EE c2,EE (by lia)];exact b4 i (by lia)
  ·rw[EE c1];by_cases c3:lo+l<lo+j/\lo+j<=lo+k
   ·rw[EF c3,show lo+j-1=lo+(j-1) by lia];by_cases c2:lo+i=lo+l
    ·rw[EF c2];exact EU (b5 _ (by lia) (by lia))
    ·rw[EE c2];by_cases c4:lo+l<lo+i/\lo+i<=lo+k
     ·rw[EF c4,show lo+i-1=lo+(i-1) by lia];exact u _ _ (by lia) (by lia)
     ·rw[EE c4];exact u _ _ (by lia) (by lia)
   ·rw[EE c3,EE (by lia),EE (by lia)];exact u _ _ (by lia) (by lia)
theorem uA{n:Nat}(h:n<64)(h1:1<=n):minRun' n n 0=n:=by
 obtain⟨f,rfl⟩:∃f,n=f+1:=⟨n-1,by lia⟩
 rw[minRun'_succ,EF h]
theorem jN{Q:Unit->SortSt->Prop}(hO:LtK prog w κ kd s)(h0:KeysOf κ a₀)(hB:SB κ kd a₀ st)(hp:pendingOf st=#[])(h1:1<=a₀.size)(h64:a₀.size<64)
  (h:∀st',SB κ kd a₀ st'->Up κ (arrOf st') 0 a₀.size->Q () st'):wpS (model prog w) A E s sortRuns' Q st:=by
 refine EC (wpS_get ?_);have hsz:(arrOf st).size=a₀.size:=hB.size;have hmr:minRun' (arrOf st).size (arrOf st).size 0=a₀.size:=by rw[hsz];exact uA h64 h1
 refine EC (wpS_mono (wpS_forRange (I:=fun x c st'=>(x=0/\c=(none,0)/\SB κ kd a₀ st'/\pendingOf st'=#[])\/(c=(none,a₀.size)/\SB κ kd a₀ st'/\(pendingOf st').size=1/\Up κ (arrOf st') 0 a₀.size)) (Q:=fun c st'=>c.1=none/\SB κ kd a₀ st'/\(pendingOf st').size=1/\Up κ (arrOf st') 0 a₀.size) (fun x c st1 hx1 hx2 z=>?_) (fun c st' z=>?_) (.inl ⟨rfl,rfl,hB,hp⟩)) fun c st' z=>?_)
 rotate_left
 ·rcases z with ⟨z,_⟩|⟨rfl,z⟩
  ·have z':max 0 (arrOf st).size=0:=z;lia
  ·exact⟨rfl,z⟩
 ·obtain⟨c0,lo⟩:=c;obtain⟨e,B,l,u⟩:=z;cases e;refine EC (wpS_mono (wpS_forRange (I:=fun x c st2=>c=(none,())/\st2=st') (Q:=fun c st2=>c=(none,())/\st2=st') (fun x c st2 hx1 hx2 z=>?_) (fun c st2 z=>z) ⟨rfl,rfl⟩) fun c st2 z=>?_)
  ·obtain⟨rfl,rfl⟩:=z;refine EC (wpS_get ?_);exact bP (fun _=>ED ⟨rfl,rfl⟩) fun e=>absurd (show(pendingOf st2).size<=1 from Df l) e
  ·obtain⟨rfl,rfl⟩:=z;exact ED (h st2 B u)
 rcases z with ⟨rfl,rfl,B,p0⟩|⟨rfl,B,l,u⟩
 ·refine bP (fun e=>absurd (show 0≥(arrOf st).size from e) (by lia)) fun e=>?_;refine EC (mj (lo:=0) (nrem:=(arrOf st).size-0) hO h0 (by lia) (by lia) B fun m st2 F2 m1 m2 U2=>?_)
  have lst:∀st3 (t:Nat×Nat×Nat),SB κ kd a₀ st3->pendingOf st3=#[]->Up κ (arrOf st3) 0 a₀.size->SB κ kd a₀ (setPending st3 ((pendingOf st3).push t))/\(pendingOf (setPending st3 ((pendingOf st3).push t))).size=1/\Up κ (arrOf (setPending st3 ((pendingOf st3).push t))) 0 a₀.size:=fun st3 t B3 p3 u3=>⟨⟨B3.perm,B3.kind,B3.failed⟩,by
   show((pendingOf st3).push t).size=1
   rw[p3];rfl,u3⟩
  apply bP
  case' h1=>
   intro hm;refine EC (wpS_lift (Fk ⟨rfl,?_⟩));refine EC (ju (lo:=0) (n:=min ((arrOf st).size-0) (minRun' (arrOf st).size (arrOf st).size 0)) (ok:=m) hO h0 (by rw[hmr];lia) (by rw[hmr];lia) F2.sb U2 fun st3 F3 U3=>?_);refine bP (fun z=>absurd z (by decide)) fun _=>?_;have B3:=F3.sb;have P3:pendingOf st3=#[]:=by rw[F3.pend,F2.pend];exact p0
   have en:min ((arrOf st).size-0) (minRun' (arrOf st).size (arrOf st).size 0)=a₀.size:=by rw[hmr];lia
   rw[en] at U3;clear F3;obtain⟨n,hn⟩:∃n,n=min ((arrOf st).size-0) (minRun' (arrOf st).size (arrOf st).size 0):=⟨_,rfl⟩
   have hn':n=a₀.size:=hn.trans en
  case' h2=>
   intro hm;have hm':¬m<minRun' (arrOf st).size (arrOf st).size 0:=hm;rw[hmr] at hm';obtain⟨st3,e3⟩:∃st3,st3=st2:=⟨_,rfl⟩
   have B3:SB κ kd a₀ st3:=by rw[e3];exact F2.sb
   have P3:pendingOf st3=#[]:=by rw[e3,F2.pend];exact p0
   have em:m=a₀.size:=by lia
   have U3:Up κ (arrOf st3) 0 a₀.size:=by rw[e3,<- em];exact U2
   rw[<- e3];clear e3;obtain⟨n,hn⟩:∃n,n=m:=⟨_,rfl⟩
   have hn':n=a₀.size:=hn.trans em
  all_goals (
   refine EC (wpS_get ?_);cases eb:(pendingOf st3).back? with
   |some t=>rw[P3] at eb;cases eb
   |none=>
    subst hn
    exact EC (wpS_modify (ED (.inr ⟨congrArg (Prod.mk (none:Option Unit)) ((Cg _).trans hn'),lst st3 _ B3 P3 U3⟩))))
 ·refine bP (fun e=>ED ⟨rfl,B,l,u⟩) fun e=>absurd (show a₀.size≥(arrOf st).size from Df hsz) e
end
end SH
namespace SH
open PySem PySem.Spec PyProof.Rows SeqAt
def TupAt(h:Heap)(v:Value)(ns:List Int):Prop:=∃t o us e,v=.ref t/\h.get? t=some o/\o.cls=.type "tuple"/\o.data=.seq us.toArray e/\IntsAre us ns
section
variable {prog:Program}{w:World}{A:Around}{E:Value->Shared->Prop}{s:Shared}
theorem oO(b:Bool)(x y:Value):keyLt' (tuples' b) x y=(do
  let xs <- Builtin.List.listItems x
  let ys <- Builtin.List.listItems y
  for ((p,q),i) in (xs.toList.zip ys.toList).zipIdx do
   if !(<- eqBool p q) then return <- oneLt' (b&&i==0) p q
  return decide (xs.size < ys.size)):=rfl
theorem oW{b:Bool}{n m:Int}{t u:Tok}{Q:Bool->Shared->Prop}(h:Q (decide (n<m)) s):wpAny (model prog w) A (oneLt' b (.int n t) (.int m u)) Q E s:=by
 cases b with
 |true=>exact oneLt_int h
 |false=>
  rw[oneLt'_eq];simp only[BF,if_false];refine EA (HT.Iy _ _ _ _ _ _ _ _ _ _ ?_);exact wpAny_truthy_bool h
theorem rK{x y:Value}{ns ms:List Int}(hx:TupAt s.heap x ns)(hy:TupAt s.heap y ms)(hl:ns.length=ms.length){b:Bool}{Q:Bool->Shared->Prop}(h:Q (decide (ns<ms)) s):wpAny (model prog w) A (keyLt' (tuples' b) x y) Q E s:=by
 obtain⟨p,o,us,e,rfl,ho,_,hd,iu⟩:=hx;obtain⟨q,o2,vs,e2,rfl,ho2,_,hd2,iv⟩:=hy;rw[oO];refine EA (listItems_at ho hd (EA (listItems_at ho2 hd2 ?_)));have ls:us.length=vs.length:=by rw[iu.length,iv.length,hl]
 refine EA (EI (wpAny_forIn_list (β:=Option Bool×Unit) _ (fun rest c s'=>c.1=none/\s'=s/\∃k ns' ms' us' vs',rest=(us'.zip vs').zipIdx k/\IntsAre us' ns'/\IntsAre vs' ms'/\ns'.length=ms'.length/\decide (ns<ms)=decide (ns'<ms')) (fun c s'=>s'=s/\(c.1=some (decide (ns<ms))\/(c.1=none/\decide (ns<ms)=false))) (fun z rest c s' hI=>?_) (fun c s' hI=>?_) _ _ ⟨rfl,rfl,0,ns,ms,us,vs,by simp,iu,iv,hl,rfl⟩) (fun c s' hI=>?_) fun _ _ e=>e)
 ·obtain⟨c1,rfl,k,ns',ms',us',vs',er,iu',iv',hl',ed⟩:=hI;cases iu' with
  |nil=>rw[List.zip_nil_left,List.zipIdx_nil] at er;cases er
  |@cons n t us2 ns2 iu2=>
   cases iv' with
   |nil=>rw[List.zip_nil_right,List.zipIdx_nil] at er;cases er
   |@cons m u vs2 ms2 iv2=>
    rw[Ed,Ee] at er;obtain⟨rfl,rfl⟩:=List.cons.inj er;refine EA (wpAny_eqBool_int ?_);by_cases q:n=m
    ·subst q;rw[beq_self_eq_true];refine EB ⟨rfl,rfl,k+1,ns2,ms2,us2,vs2,rfl,iu2,iv2,Nat.succ.inj hl',ed.trans ?_⟩;rw[decide_eq_decide,List.cons_lt_cons_iff];exact⟨fun z=>z.elim (fun z=>absurd z (Int.lt_irrefl _)) And.right,fun z=>.inr ⟨rfl,z⟩⟩
    ·rw[beq_eq_false_iff_ne.mpr q];refine EA (oW (EB ⟨rfl,.inl ?_⟩));rw[ed];refine congrArg some (decide_eq_decide.mpr ?_);rw[List.cons_lt_cons_iff];exact⟨fun z=>.inl z,fun z=>z.elim id fun z=>absurd z.1 q⟩
 ·obtain⟨c1,rfl,k,ns',ms',us',vs',er,iu',iv',hl',ed⟩:=hI;refine⟨rfl,.inr ⟨c1,ed.trans ?_⟩⟩;cases iu' with
  |nil=>
   cases ms' with
   |nil=>rfl
   |cons a b=>cases hl'
  |cons n t iu2=>
   cases iv' with
   |nil=>cases hl'
   |cons m u iv2=>rw[Ed,Ee] at er;cases er
 ·obtain⟨rfl,hc⟩:=hI;obtain⟨c1,c2⟩:=c;rcases hc with hc|⟨hc,ed⟩
  ·have hc:c1=_:=hc;subst hc;exact EB h
  ·have hc:c1=_:=hc;subst hc;refine EB ?_;rw[ed] at h;rw[show decide (us.toArray.size<vs.toArray.size)=false from EH (by rw[Bb,Bb];lia)];exact h
theorem qG(v:Value):firstOfTuple' v=(do
  if (<- typeOf v) != .type "tuple" then return none
  return (<- Builtin.List.listItems v)[0]?):=rfl
theorem GW:∀(vs:List Value),(∀v∈vs,∃ns,TupAt s.heap v ns/\ns≠[])->∀{Q:List (Option Value)->Shared->Prop},(∀us ns,IntsAre us ns->us.length=vs.length->Q (us.map some) s)->wpAny (model prog w) A (vs.mapM firstOfTuple') Q E s
 |[],_,Q,h=>by rw[List.mapM_nil];exact EB (h [] [] .nil rfl)
 |v::vs,hv,Q,h=>by
  obtain⟨ns,⟨t,o,us,e,rfl,ho,hc,hd,iu⟩,hn⟩:=hv _ AS;rw[List.mapM_cons,qG];cases iu with
  |nil=>exact absurd rfl hn
  |@cons n u us' ns' iu'=>
   refine EA (EA (wpAny_typeOf ⟨o,ho,hc⟩ ?_));rw[EE (by decide)];refine EA (listItems_at ho hd (EB (EA (GW vs (fun v hm=>hv v (AY _ hm)) fun us2 ns2 i2 l2=>EB ?_))));exact h (.int n u::us2) (n::ns2) (.cons _ _ i2) (by rw[Bj,Bj,l2])
theorem oR{vs:List Value}(hv:∀v∈vs,∃ns,TupAt s.heap v ns/\ns≠[])(h0:vs≠[]){Q:SortKind->Shared->Prop}(h:Q (tuples' true) s):wpAny (model prog w) A (keyKind' vs.toArray) Q E s:=by
 rw[keyKind'_eq,List.mapM_toArray,map_eq_pure_bind];refine EA (EA (GW vs hv fun us ns iu hl=>EB ?_));rw[EF (by simp)];refine EA (Fk ?_);have e1:(us.map some).toArray.filterMap id=us.toArray:=by simp
 rw[e1,oneTypeOnly'_eq,List.mapM_toArray,mapM_typeOf_ints iu];simp only[map_pure,pure_bind];cases iu with
 |nil=>exact absurd (Bv.mp hl.symm) h0
 |@cons n u us' ns' iu'=>
  rw[show(List.map (fun _=>Value.type "int") (Value.int n u::us')).toArray[0]?=some (Value.type "int") by simp];dsimp only;rw[EF (by simp)];exact EA (EB (EB h))
end
theorem TupAt.eq{h:Heap}{v:Value}{a b:List Int}(x:TupAt h v a)(y:TupAt h v b):a=b:=by
 obtain⟨t,o,us,e,rfl,ho,_,hd,iu⟩:=x;obtain⟨t2,o2,us2,e2,q,ho2,_,hd2,iu2⟩:=y;cases q;rw[ho] at ho2;cases ho2;rw[hd] at hd2;injection hd2 with q _;have q:us=us2:=List.toArray_inj q;subst q;rw[<- iu.nums,<- iu2.nums]
noncomputable def cc(h:Heap)(L:Nat):KeyKind where
 α:=List Int
 blt:=fun a b=>decide (a<b)
 irrefl:=fun a=>EH (List.lt_irrefl a)
 trans:=fun a b c h1 h2=>EG (List.lt_trans (EK h1) (EK h2))
 negTrans:=fun a b c h1=>by
  by_cases q:a<b
  ·exact .inl (EG q)
  ·refine .inr (EG ?_);have h1:=EK h1;have q:b<=a:=List.not_lt.mp q;exact List.lt_of_le_of_lt q h1
 total:=fun a b h1 h2=>DZ (List.not_lt.mp (of_decide_eq_false h2)) (List.not_lt.mp (of_decide_eq_false h1))
 keyOf:=fun v=>by
  classical
  exact if q:∃ns,TupAt h v ns/\ns.length=L then some q.choose else none
 dflt:=[]
theorem lK{h:Heap}{L:Nat}{v:Value}{a:List Int}(e:(cc h L).keyOf v=some a):TupAt h v a/\a.length=L:=by
 unfold cc at e;dsimp only at e;split at e
 ·rename_i q;have:=q.choose_spec;rw[EM e] at this;exact this
 ·cases e
theorem gY{h:Heap}{L:Nat}{v:Value}{a:List Int}(x:TupAt h v a)(l:a.length=L):(cc h L).keyOf v=some a:=by
 unfold cc;dsimp only;split
 ·rename_i q;rw[(q.choose_spec.1).eq x]
 ·rename_i q;exact absurd ⟨a,x,l⟩ q
section
variable {prog:Program}{w:World}{A:Around}{E:Value->Shared->Prop}{s:Shared}
theorem rh{L:Nat}:LtK prog w (cc s.heap L) (tuples' true) s:=fun A E x y a b Q ha hb q=>by
 obtain⟨x1,x2⟩:=lK ha;obtain⟨y1,y2⟩:=lK hb;exact rK x1 y1 (x2.trans y2.symm) q
theorem gU{L:Nat}(hL:1<=L){a:Addr}{vs:List Value}{n:Nat}{P:PySem.Fin->Shared->Prop}(ho:s.heap.get? a=some (seqObj "list" vs.toArray n))(hv:∀v∈vs,∃ns,TupAt s.heap v ns/\ns.length=L)(h64:vs.length<64)
  (h:∀xs:Array Keyed,xs.Perm (pairsOf vs)->(∀(i j:Nat)(p q:Keyed),i<=j->xs[i]?=some p->xs[j]?=some q->∀a b,TupAt s.heap p.1 a->TupAt s.heap q.1 b->¬b<a)->P (.done (.ret .none)) {s with heap:=sortedHeap s.heap a vs (xs.map (·.2))}):wpAny (model prog w) A (Builtin.«list.sort» ⟨[.ref a],[]⟩) P E s:=by
 rw[list_sort_plain];have ha:a<s.heap.objs.size:=EL ho;have hz:vs.length<=sizeLine:=by rw[sizeLine_eq];lia
 refine EA (listItems_at ho rfl (EA (listUpdate_at ho rfl ?_)));obtain⟨e1,ho1⟩:∃e1,(s.heap.update a (Obj.mapSeq fun _=>#[])).get? a=some (seqObj "list" #[] e1):=⟨_,get?_update_seq ho (fun _=>#[])⟩
 refine EA (seqEpoch_at ho1 rfl (EA (wpAny_newTuple (EA (wpAny_newList (EJ ?_))) (by show vs.toArray.size<=sizeLine;rw[Bb];exact hz))));have oth:∀b o,b≠a->s.heap.get? b=some o->(((s.heap.update a (Obj.mapSeq fun _=>#[])).push (seqObj "tuple" vs.toArray 0)).push (seqObj "list" #[] 0)).get? b=some o:=fun b o hne hb=>by
  have hlt:=EL hb;rw[Heap.get?_push_ne _ _ _ (by rw[size_push',Heap.size_update];exact AR (BS hlt)),Heap.get?_push_ne _ _ _ (by rw[Heap.size_update];exact AR hlt),Heap.get?_update_ne _ _ _ _ hne];exact hb
 have ho6:(((s.heap.update a (Obj.mapSeq fun _=>#[])).push (seqObj "tuple" vs.toArray 0)).push (seqObj "list" #[] 0)).get? a=some (seqObj "list" #[] e1):=by rw[Heap.get?_push_ne _ _ _ (by rw[size_push',Heap.size_update];exact AR (BS ha)),Heap.get?_push_ne _ _ _ (by rw[Heap.size_update];exact AR ha)];exact ho1
 show wpAny (model prog w) A _ P E {s with heap:=((s.heap.update a (Obj.mapSeq fun _=>#[])).push (seqObj "tuple" vs.toArray 0)).push (seqObj "list" #[] 0)};dsimp only;generalize eh:((s.heap.update a (Obj.mapSeq fun _=>#[])).push (seqObj "tuple" vs.toArray 0)).push (seqObj "list" #[] 0)=h6 at oth ho6 ⊢;have up:∀v ns,TupAt s.heap v ns->TupAt h6 v ns:=fun v ns x=>by
  obtain⟨t,o,us,e,rfl,hto,hc,hd,iu⟩:=x;refine⟨t,o,us,e,rfl,oth t o (fun q=>?_) hto,hc,hd,iu⟩;rw[q,ho] at hto;cases hto;exact absurd (show Value.type "list"=Value.type "tuple" from hc) (by decide)
 have hv6:∀v∈vs,∃ns,TupAt h6 v ns/\ns.length=L:=fun v hm=>(hv v hm).elim fun ns z=>⟨ns,up v ns z.1,z.2⟩
 have hk:KeysOf (cc h6 L) (pairsOf vs):=fun p hp=>by
  rw[pairsOf_toList] at hp;obtain⟨_,hm⟩:=mem_zip_self hp;obtain⟨ns,z1,z2⟩:=hv6 _ hm;exact⟨ns,gY z1 z2⟩
 have hsz:vs.toArray.size=vs.length:=by simp
 by_cases h2:vs.toArray.size<2
 ·rw[EF h2,EF h2];refine EA (EB ?_);rw[StateT.run_pure];refine EA (EB ?_);dsimp only;refine EA (seqEpoch_at ho6 rfl (EA (listUpdate_at ho6 rfl ?_ (hsz2:=by rw[Array.size_map];show(pairsOf vs).size<=_;rw[pairsOf_size];exact Ea hz))));simp only[bne_self_eq_false,BF,if_false];have:=h (pairsOf vs) (Array.Perm.refl _) fun i j p q hij e1 e2 a b x y=>by
   have l1:=(Dh.mp e1).1;have l2:=(Dh.mp e2).1;rw[pairsOf_size] at l1 l2;have:i=j:=by lia
   subst this;rw[e1] at e2;cases e2;rw[x.eq y];exact List.lt_irrefl _
  refine EB ?_;unfold sortedHeap at this;rw[eh] at this;exact this
 ·rw[EE h2,EE h2];refine EA (oR (s:={s with heap:=h6}) (fun v hm=>(hv6 v hm).elim fun ns z=>⟨ns,z.1,fun q=>by rw[q] at z;exact absurd z.2 (by intro q;have:0=L:=q;lia)⟩) (fun q=>by rw[q] at h2;exact h2 (by decide)) ?_);refine EA (EI (jN (κ:=cc h6 L) (kd:=tuples' true) (rh (s:={s with heap:=h6})) (a₀:=pairsOf vs) (st:=SortSt.mk' (tuples' true) (vs.toArray.zip vs.toArray) #[] 7 none) (Q:=fun _ st'=>SB (cc h6 L) (tuples' true) (pairsOf vs) st'/\Up (cc h6 L) (arrOf st') 0 (pairsOf vs).size) hk ⟨Array.Perm.refl _,rfl,rfl⟩ rfl (by rw[pairsOf_size];lia) (by rw[pairsOf_size];exact h64) fun st' a1 a2=>⟨a1,a2⟩) ?_ fun _ _ e=>e);rintro⟨⟨⟩,st'⟩ s' ⟨rfl,hp,hs⟩;dsimp only;refine EA (seqEpoch_at ho6 rfl (EA (listUpdate_at ho6 rfl ?_ (hsz2:=by refine AX (Df ((Array.size_map ..).trans (hp.perm.size_eq.trans (pairsOf_size _)))) (Ea hz)))));rw[hp.failed];simp only[bne_self_eq_false,BF,if_false];have:=h (arrOf st') hp.perm fun i j p q hij e1 e2 a b x y=>by
   have l2:=(Dh.mp e2).1;rw[hp.size] at l2;have u:=hs i j hij l2;rw[Cg,Cg] at u;have la:a.length=L:=by
    have hm:p∈(pairsOf vs).toList:=(CU.mp hp.perm).mem_iff.mp (by rw[DG];exact Array.mem_of_getElem? e1);rw[pairsOf_toList] at hm;obtain⟨ns,z1,z2⟩:=hv _ (mem_zip_self hm).2;rw[x.eq z1];exact z2
   have lb:b.length=L:=by
    have hm:q∈(pairsOf vs).toList:=(CU.mp hp.perm).mem_iff.mp (by rw[DG];exact Array.mem_of_getElem? e2);rw[pairsOf_toList] at hm;obtain⟨ns,z1,z2⟩:=hv _ (mem_zip_self hm).2;rw[y.eq z1];exact z2
   unfold KK at u;rw[e1,e2] at u;dsimp only at u;rw[gY (up _ _ x) la,gY (up _ _ y) lb] at u;exact of_decide_eq_false u
  refine EB ?_;unfold sortedHeap at this;rw[eh] at this;exact this
end
end SH
namespace L2
open PySem PySem.Spec PyProof.Rows
open PySem.AutoSeq1 (wpAny_loadPart')
open PySem.MeetsSeq PySem.SeqAt
section
variable {X:Cx}{pins:List (Addr×Obj)}{σ:St}{H:Hp}{s:Shared}
theorem fW{K:W.Frag}:∀{xs:List V}{ds:List PyData},DatAll K H xs ds->xs.length=ds.length
 |_,_,.nil=>rfl
 |_,_,.cons _ r=>by rw[Bj,Bj,fW r]
theorem hZ{K:W.Frag}:∀{xs:List V}{ds:List PyData}{i:Nat}{x:V}{d:PyData},DatAll K H xs ds->xs[i]?=some x->ds[i]?=some d->Gh K H x d
 |_,_,i,x,d,.nil,h,_=>by cases h
 |_,_,0,x,d,.cons a _,h,k=>by cases h;cases k;exact a
 |_,_,i+1,x,d,.cons _ r,h,k=>hZ (i:=i) r h k
theorem Hu:∀{ds:List PyData}{i:Nat}{d:PyData},PyData.canLayAll0 ds=true->ds[i]?=some d->d.canLay0=true
 |[],i,d,_,h=>by cases h
 |a::r,0,d,l,h=>by cases h;exact(Di.mp l).1
 |a::r,i+1,d,l,h=>Hu (i:=i) (Di.mp l).2 h
end
end L2
namespace SH
open PySem PySem.Spec PyProof.Rows SeqAt
section
variable {prog:Program}{w:World}{A:Around}{E:Value->Shared->Prop}{s:Shared}
theorem HW{L:Nat}(hL:1<=L){l:Addr}{vs:List Value}{Q:Value->Shared->Prop}(hl:s.heap.IsList l vs.toArray)(hv:∀v∈vs,∃ns,TupAt s.heap v ns/\ns.length=L)(h64:vs.length<64)
  (h:∀out:List Value,out.Perm vs->out.Pairwise (fun x y=>∀a b,TupAt s.heap x a->TupAt s.heap y b->¬b<a)->Q (.ref (s.heap.objs.size+1)) {s with heap:=sortedAll s.heap vs out.toArray}):wpAny (model prog w) A (call (.builtin "sorted") [.ref l]) Q E s:=by
 have hz:vs.length<=sizeLine:=by rw[sizeLine_eq];lia
 refine Calls.call_function_entry kind_sorted plain_sorted entry_sorted (args_sorted1 _) ?_;unfold Builtin.«sorted»;refine EA (m:=checkCount "sorted" 1 1 _) (EB (EA (collect_list hl (EA (wpAny_newList ?_ (by show vs.toArray.size<=sizeLine;rw[Bb];exact hz))) (by first|(show vs.toArray.size<=sizeLine;rw[Bb];exact hz)|skip))));have hsz:((s.heap.push (seqObj "list" #[] 0)).update s.heap.objs.size (Obj.mapSeq (·++vs.toArray))).objs.size=s.heap.objs.size+1:=by rw[Heap.size_update,size_push']
 have old:∀b o,s.heap.get? b=some o->(((s.heap.push (seqObj "list" #[] 0)).update s.heap.objs.size (Obj.mapSeq (·++vs.toArray))).push (seqObj "list" vs.toArray 0)).get? b=some o:=fun b o hb=>by
  have hlt:=EL hb;rw[Heap.get?_push_ne _ _ _ (by rw[hsz];exact AR (BS hlt)),Heap.get?_update_ne _ _ _ _ (AR hlt),Heap.get?_push_ne _ _ _ (AR hlt)];exact hb
 have up:∀v ns,TupAt s.heap v ns->TupAt (((s.heap.push (seqObj "list" #[] 0)).update s.heap.objs.size (Obj.mapSeq (·++vs.toArray))).push (seqObj "list" vs.toArray 0)) v ns:=fun v ns hq90=>by obtain⟨t,o,us,e,h1,h2,h3⟩:=hq90;exact⟨t,o,us,e,h1,old t o h2,h3⟩
 have hoL:(((s.heap.push (seqObj "list" #[] 0)).update s.heap.objs.size (Obj.mapSeq (·++vs.toArray))).push (seqObj "list" vs.toArray 0)).get? (s.heap.objs.size+1)=some (seqObj "list" vs.toArray 0):=by rw[<- hsz];exact Fc _ rfl
 show wpAny _ _ _ _ _ {s with heap:=((s.heap.push (seqObj "list" #[] 0)).update s.heap.objs.size (Obj.mapSeq (·++vs.toArray))).push (seqObj "list" vs.toArray 0)};rw[hsz];refine EA (EJ (Fi slot_list_sort ⟨_,hoL,rfl⟩ entry_list_sort (gU hL hoL (fun v hm=>(hv v hm).elim fun ns z=>⟨ns,up v ns z.1,z.2⟩) h64 fun xs a1 a2=>⟨_,rfl,?_⟩) (args_list_sort _)));have same:∀p∈xs.toList,p.1=p.2:=fun p hp=>by
  have hm:=(CU.mp a1).mem_iff.mp hp;rw[pairsOf_toList] at hm;exact(mem_zip_self hm).1
 have e2:(pairsOf vs).toList.map (·.2)=vs:=by rw[pairsOf_toList,List.map_snd_zip (AH _)]
 have p1:(xs.toList.map (·.2)).Perm vs:=by
  have:=(CU.mp a1).map (·.2);rw[e2] at this;exact this
 have p2:(xs.toList.map (·.2)).Pairwise (fun x y=>∀a b,TupAt s.heap x a->TupAt s.heap y b->¬b<a):=by
  refine List.pairwise_iff_getElem.mpr fun i j hi hj hij a b x y=>?_;rw[AI] at hi hj;rw[Ef] at x y;rw[<- same _ (Bq hi)] at x;rw[<- same _ (Bq hj)] at y;exact a2 i j _ _ (BA hij) (by rw[<- BE];exact AL hi) (by rw[<- BE];exact AL hj) a b (up _ _ x) (up _ _ y)
 have:=h (xs.toList.map (·.2)) p1 p2;refine EB ⟨_,rfl,?_⟩;rw[show(xs.toList.map (·.2)).toArray=xs.map (·.2) by rw[<- Array.toList_map,Array.toArray_toList]] at this;exact this
end
end SH
namespace L2
open PySem PySem.Spec PyProof.Rows
section
variable {X:Cx}
def xb (L:Nat)(K:W.Frag):List V->Hp->VK->Prop:=fun xs H Q=>∃p,∃ks:List Addr,xs=[.ref p]/\SqL K H p (ks.map V.ref)/\ks.length<64/\(∀k∈ks,∃ns:List Int,SqT K H k (ns.map V.int)/\ns.length=L)/\∀l,∀ks':List Addr,ks'.Perm ks->ks'.Pairwise (fun a b=>∀ns ms:List Int,SqT K H a (ns.map V.int)->SqT K H b (ms.map V.int)->¬ms<ns)->H l=none->Q (.ref l) (upd H l (.lst (ks'.map V.ref)))
theorem oG{ks:List Addr}{out:List Value}(p:out.Perm (ks.map Value.ref)):∃ks':List Addr,ks'.Perm ks/\out=ks'.map Value.ref:=by
 have hf:∀v∈out,Value.ref (match v with|.ref a=>a|_=>0)=v:=fun v hv=>by
  obtain⟨a,_,rfl⟩:=AJ.mp (p.mem_iff.mp hv);rfl
 refine⟨out.map fun v=>match v with|.ref a=>a|_=>0,?_,?_⟩
 ·have:=p.map fun v=>match v with|.ref a=>a|_=>0;rw[Bn] at this;rw[show((fun v:Value=>match v with|.ref a=>a|_=>0) ∘ Value.ref)=id from rfl,List.map_id] at this;exact this
 ·rw[Bn]
  conv=>lhs;rw[<- List.map_id out]
  exact Bz fun v hv=>(hf v hv).symm
theorem Gw:∀(ks:List Addr),Vals (ks.map V.ref) (ks.map Value.ref)
 |[]=>.nil
 |_::ks=>.cons rfl (Gw ks)
theorem mJ{L:Nat}(hL:1<=L):cq X (.builtin "sorted") (xb L X.K):=by
 intro pins s σ H xs us Q I r h;obtain⟨p,ks,rfl,hq,h64,hk,q⟩:=h;obtain⟨u,rfl,rx⟩:=dq r;cases rx;obtain⟨its,rv,pl,hz⟩:=I.list hq;have ei:its=ks.map Value.ref:=iJ id rv;subst ei;have tp:∀k ns,SqT X.K H k (List.map V.int ns)->SH.TupAt s.heap (.ref k) ns:=fun k ns z=>by
  obtain⟨ts,rt,⟨o,ho,hc,n,hd⟩,_⟩:=I.tuple z;exact⟨k,o,ts,n,rfl,ho,hc,hd,mr rt⟩
 refine SH.HW hL pl.isList (fun v hm=>?_) (by rw[AI];exact h64) fun out a1 a2=>?_
 ·obtain⟨k,hk',rfl⟩:=AJ.mp hm;obtain⟨ns,z1,z2⟩:=hk k hk';exact⟨ns,tp k ns z1,z2⟩
 obtain⟨ks',b1,rfl⟩:=oG a1;obtain⟨e,he⟩:=sortedAll_at s.heap (ks.map Value.ref) (ks'.map Value.ref).toArray;refine⟨.ref (s.heap.objs.size+1),_,I.laid (t':=s.toks) (o:=.lst (ks'.map V.ref)) (fun _ _=>sortedAll_old) (BL _) ?_,rfl,q _ ks' b1 ?_ (I.hok.fresh (BL _))⟩
 ·refine⟨?_,ks'.map Value.ref,e,Gw ks',he⟩;rw[AI,b1.length_eq,sizeLine_eq];lia
 ·rw[CD] at a2;exact a2.imp fun {a b} z ns ms x y=>z ns ms (tp a ns x) (tp b ms y)
end
section
variable {prog:Program}{w:World}{A:Around}
theorem ni(hh:A.handled=none)(I d:Addr)(hne:d≠I){od:Obj}{es:Array DictEntry}{ep:Nat}(hdd:od.data=.dict es ep) :
  Walks prog w A I [I,d] [I] es.size (fun i v=>∃h:i<es.size,v=es[i].key) (fun i h=>h.IsKeyIter I d i es.size ep/\h.get? d=some od) where
 sub:=fun b hb=>by simp at hb;simp[hb]
 frame:=fun _ _ _ st hk=>⟨st.1.at fun o e=>hk I (by simp) o e,hk d (by simp) _ st.2⟩
 item:=fun i s Q E hi st hQ=>kq st.1 st.2 hdd hi fun h' st' sb=>hQ _ h' s.toks ⟨hi,rfl⟩ ⟨st',(sb.2 d hne).trans st.2⟩ fun b o hb e=>(sb.2 b fun z=>hb (by simp[z])).trans e
 done:=fun s Q E st hQ=>mP hh st.1 st.2 hdd (AH _) fun h' eb=>hQ h' s.toks fun b o hb e=>eb b o (fun z=>hb (by simp[z])) e
 self:=fun _ _ _ _ st hQ=>wpAny_pyIter_keyiter st.1 hQ
theorem tK{d:Addr}{od:Obj}{es:Array DictEntry}{ep:Nat}(lo:(d==sysModules)=false)(hc:od.ExactDict)(hdd:od.data=.dict es ep):W.KdlSrc prog w "dict" d d es.size (fun i v=>∃h:i<es.size,v=es[i].key) (fun h=>h.get? d=some od) where
 type:=fun _ hm=>⟨od,hm,hc.1⟩
 there:=fun _ hm=>⟨EL hm,EL hm⟩
 keep:=fun _ _ hm hk=>hk d (.inl rfl) _ hm
 notList:=by decide
 notTuple:=by decide
 hint:=fun _ _ _ _ hm hq=>W.kdl_hint_dict ⟨od,hm,hc.1⟩ hq
 iter:=fun _ s hh hm=>⟨_,_,(fun _ _ hq=>gJ lo hm hc hdd hq),ni hh s.heap.objs.size d (AR (EL hm)) hdd,⟨⟨_,Fc _ rfl,rfl,rfl⟩,Fb _ hm⟩⟩
end
section
variable {X:Cx}
def Lx:List V->Hp->VK->Prop:=fun xs H Q=>∃p kvs,xs=[.ref p]/\Rd H p (.dT kvs)/\∀l us,H l=none->Paired (fun v (k:List Key)=>∃b,v=V.ref b/\H b=some (.tup (k.map kV))) us (kvs.map (·.1))->Q (.ref l) (upd H l (.lst us))
theorem qf{H:Hp}:∀{kvs:List (List Key×V)}{xs:List (List Key×Addr×Value)},KT H kvs xs->Paired (fun v (k:List Key)=>∃b,v=V.ref b/\H b=some (.tup (k.map kV))) (xs.map fun q=>V.ref q.2.1) (kvs.map (·.1))
 |_,_,.nil=>.nil
 |_,_,.cons h r=>.cons ⟨_,rfl,h.2.1⟩ (qf r)
theorem ny(hc:X.calm=true):cq X (.type "list") Lx:=by
 intro pins s σ H xs us Q I r h;obtain⟨p,kvs,rfl,hd,q⟩:=h;obtain⟨u,rfl,rx⟩:=dq r;cases rx;obtain⟨hz,lo,xs,kt,o,es,ep,ho,hx,hdd,hes,_⟩:=(show Fz X.prog X.w H s.heap p (.dT kvs) from qC I.hok hd)
 have el:es.size=kvs.length:=by
  rw[<- Br,hes,AI];exact(Paired.length kt).symm
 refine W.kdl_call (tK lo hx hdd) (I.ok.hd hc) ho (by rw[el];exact hz) fun h' tk acc' c' kp e ha=>?_;have e1:(xs.map fun q=>V.ref q.2.1).length=acc'.toList.length:=by
  have e0:acc'.toList.length=es.size:=(Br (xs:=acc')).trans ha.1;rw[e0,el,AI];exact(Paired.length kt).symm
 have vv:Vals (xs.map fun q=>V.ref q.2.1) acc'.toList:=by
  refine Jp _ _ e1 fun j y u h1 h2=>?_;rw[AW] at h1;obtain⟨q',hq,rfl⟩:=BH.mp h1;obtain⟨hj,rfl⟩:=ha.2 j u (by rw[<- BE];exact h2);have:es.toList[j]?=some (entryOfKey (tupleKind (aF X.prog X.w)) q'):=by rw[hes,AW,hq];rfl
  rw[BE,BV hj] at this;rw[EM this];rfl
 exact⟨.ref _,_,I.laid (t':=tk) (o:=.lst (xs.map fun q=>V.ref q.2.1)) kp (AH _) ⟨by rw[AI,<- Paired.length kt];exact hz,acc'.toList,c',vv,e⟩,rfl,q _ _ (I.hok.fresh (AH _)) (qf kt)⟩
end
section
variable {prog:Program}{w:World}
abbrev tkd(prog:Program)(w:World):=tupleKind (aF prog w)
inductive FJ(prog:Program)(w:World)(h:Heap):List (List Key)->List Value->Prop
 |nil:FJ prog w h [] []
 |cons {k:List Key}{b:Addr}{ks:List (List Key)}{vs:List Value}:(tkd prog w).is h k b->FJ prog w h ks vs->FJ prog w h (k::ks) (.ref b::vs)
def HL (prog:Program)(w:World)(h:Heap)(ks:List (List Key))(a:Addr):Prop:=∃o its n,h.get? a=some o/\o.cls=.type "tuple"/\o.data=.seq its n/\FJ prog w h ks its.toList
theorem FJ.one{h:Heap}{vs:List Value}{x:List (List Key)}(p:FJ prog w h x vs):∀{y:List (List Key)},FJ prog w h y vs->x=y:=by
 induction p with
 |nil=>intro y q;cases q;rfl
 |cons a _ ih=>
  intro y q;cases q with
  |cons b t=>rw[(tkd prog w).inj a b,ih t]
theorem HL.ty{s:Shared}{ks:List (List Key)}{a:Addr}(x:HL prog w s.heap ks a):s.TypeIs (.ref a) "tuple":=by
 obtain⟨o,_,_,e,c,_⟩:=x;exact⟨o,e,c⟩
theorem HL.one{h:Heap}{a:Addr}{x y:List (List Key)}(p:HL prog w h x a)(q:HL prog w h y a):x=y:=by
 obtain⟨o,its,n,e,_,d,i⟩:=p;obtain⟨o',its',n',e',_,d',i'⟩:=q;rw[e] at e';cases e';rw[d] at d';cases d';exact i.one i'
theorem FJ.kp{h h':Heap}{d:Addr}{o:Obj}{es ep}(e:h.get? d=some o)(c:o.data=.dict es ep)(sb:Heap.SameBut d h h'){x:List (List Key)}{vs:List Value}(p:FJ prog w h x vs):FJ prog w h' x vs:=by
 induction p with
 |nil=>exact .nil
 |cons a _ ih=>exact .cons ((tkd prog w).keeps a e c sb) ih
theorem HL.kp{h h':Heap}{ks:List (List Key)}{a d:Addr}{o:Obj}{es ep}(x:HL prog w h ks a)(e:h.get? d=some o)(c:o.data=.dict es ep)(sb:Heap.SameBut d h h'):HL prog w h' ks a:=by
 obtain⟨o',its,n,e',c',d',i⟩:=x;have ne:a≠d:=fun z=>by
  subst z;rw[e] at e';cases e';rw[c] at d';exact nomatch d'
 exact⟨o',its,n,(sb.2 a ne).trans e',c',d',i.kp e c sb⟩
variable {A:Around}{E:Value->Shared->Prop}{s:Shared}
def kB (ks:List (List Key)):Nat:=(ks.map fun k=>k.length+1).sum+1
def tm (w:World)(prog:Program)(ks:List (List Key)):Int:=reduceHash (Builtin.Tuple.tupleHashOf (ks.map (tkd prog w).hash))
theorem oY{ks:List (List Key)}{a:Addr}{Q:Int->Shared->Prop}(hu:A.units+1<cLine)(x:HL prog w s.heap ks a)(g:Q (tm w prog ks) {s with toks:=s.toks+kB ks}):wpAny (model prog w) A (pyHash (.ref a)) Q E s:=by
 have tT:=x.ty;obtain⟨o,its,n,e,_,d,i⟩:=x;unfold pyHash
 (first|unfold pyHashByItsType|skip)
 (first|refine EA (wpAny_cRoomFor_or (.inr (by lia)) ?_)|skip)
 refine EA (wpAny_specialOf tT PySem.F.slot_tuple_hash.lookup ?_);show wpAny _ _ (if (some (Value.builtin "tuple.__hash__")==some Value.none)=true then _ else _) Q E s;rw[EE (by rw[beq_builtin_none];exact Bm)];refine EA (wpAny_specialOf tT PySem.F.slot_tuple_hash.lookup ?_);show wpAny _ _ (callSpecialIfBoundUnlessNone? (.ref a) "__hash__" _ >>= _) Q E s;refine EA (wpAny_callSpecialIfBoundUnlessNone?_slot tT PySem.F.slot_tuple_hash (Fi PySem.F.slot_tuple_hash tT PySem.F.entry_tuple_hash ?_ (PySem.F.args_tuple_hash_1 _)));show wpAny _ _ (Builtin.Tuple.tupleItemsOf (.ref a) >>= _) _ _ s;refine EA (wpAny_tupleItemsOf e d ?_);refine EA ?_;rw[<- Eg];refine wpAny_forIn_list _ (fun rest (b:Array Int) s'=>∃done left,ks=done++left/\FJ prog w s.heap left rest/\b.toList=done.map (tkd prog w).hash/\s'={s with toks:=s.toks+(done.map fun k=>k.length+1).sum}) _ ?_ ?_ _ _ ⟨[],ks,rfl,i,rfl,rfl⟩
 ·rintro x rest b s' ⟨done,left,rfl,hl,hb,rfl⟩;cases hl with
  |@cons k c ks' _ h1 hl'=>
   refine EA ((tkd prog w).pyHash (s:={s with toks:=_}) (tupleKind_room_in1 hu) h1 ?_)
   first
    |exact EB ⟨done++[k],ks',by simp,hl',by simp[hb],by simp[Dj];rfl⟩
    |exact EA (EB (EB ⟨done++[k],ks',by simp,hl',by simp[hb],by simp[Dj];rfl⟩))
 ·rintro b s' ⟨done,left,rfl,hl,hb,rfl⟩;cases hl;rw[Bp] at g;show wpAny _ _ (retInt (Builtin.Tuple.tupleHashOf b.toList)) _ _ _;rw[hb];refine wpAny_ret_mkInt ?_;show wpAny _ _ (if (decide (-(2:Int)^63<=Builtin.Tuple.tupleHashOf (done.map (tkd prog w).hash))&&decide (Builtin.Tuple.tupleHashOf (done.map (tkd prog w).hash)<2^63))=true then _ else _) Q E _;unfold tm reduceHash at g;by_cases hr:(decide (-(2:Int)^63<=Builtin.Tuple.tupleHashOf (done.map (tkd prog w).hash))&&decide (Builtin.Tuple.tupleHashOf (done.map (tkd prog w).hash)<2^63))=true
  ·rw[EF hr];rw[EF hr] at g;exact EB (by simpa [Dj,kB] using g)
  ·rw[EE hr];rw[EE hr] at g;exact EA (Fk (EB (by simpa [Dj,kB] using g)))
theorem iP{x y:List (List Key)}{a b:Addr}{R:Fin->Shared->Prop}(hu:A.units<cLine)(hx:HL prog w s.heap x a)(hy:HL prog w s.heap y b)(g:R (.done (.ret (.bool (decide (x=y))))) s):wpAny (model prog w) A (Builtin.«tuple.__eq__» ⟨[.ref a,.ref b],[]⟩) R E s:=by
 have tb:=hy.ty;obtain⟨oa,xs,na,ea,_,da,ia⟩:=hx;obtain⟨ob,ys,nb,eb,_,db,ib⟩:=hy;show wpAny _ _ (isInstance (.ref b) (.type "tuple") >>= _) _ _ s;refine EA (wpAny_isInstance tb isSubtype_tuple_tuple ?_);simp only[CF,BF,if_false];refine EA (wpAny_tupleItemsOf ea da ?_);refine EA (wpAny_tupleItemsOf eb db ?_);refine EA ?_;refine wpAny_forIn_list _ (fun rest r s'=>r.1=none/\s'=s/\∃x' y' xs' ys',rest=List.zip xs' ys'/\FJ prog w s.heap x' xs'/\FJ prog w s.heap y' ys'/\decide (x'=y')=decide (x=y)/\(xs'.length==ys'.length)=(xs.size==ys.size)) _ ?_ ?_ _ _ ⟨rfl,rfl,x,y,xs.toList,ys.toList,rfl,ia,ib,rfl,by simp⟩
 ·rintro⟨u,v⟩ rest r s' ⟨er,rfl,x',y',xs',ys',ez,px,py,dec,len⟩;cases px with
  |nil=>simp at ez
  |@cons k1 c1 x2 xs2 h1 px2=>
   cases py with
   |nil=>simp at ez
   |@cons k2 c2 y2 ys2 h2 py2=>
    simp only[Ed,List.cons.injEq,Prod.mk.injEq] at ez;obtain⟨⟨rfl,rfl⟩,rfl⟩:=ez;refine EA ((tkd prog w).eqBool hu h1 h2 ?_);by_cases hk:k1=k2
    ·subst hk;rw[EG rfl];simp only[CF,BF,if_false];refine EB ⟨rfl,rfl,x2,y2,xs2,ys2,rfl,px2,py2,?_,by simpa using len⟩;rw[<- dec];by_cases xy:x2=y2
     ·simp[xy]
     ·simp[xy]
    ·rw[EH hk];simp only[Bool.not_false,if_true];have ef:decide (x=y)=false:=by rw[<- dec];simp[hk]
     rw[ef] at g;exact EA (EB (EB (EB g)))
 ·rintro⟨r1,r2⟩ s' ⟨er,rfl,x',y',xs',ys',ez,px,py,dec,len⟩;simp only at er;subst er;refine EB ?_;have fin:(xs.size==ys.size)=decide (x=y):=by
   rw[<- dec,<- len];cases px with
   |nil=>
    cases py with
    |nil=>simp
    |cons _ _=>simp
   |cons _ _=>
    cases py with
    |nil=>simp
    |cons _ _=>simp at ez
  show R (.done (.ret (.bool (xs.size==ys.size)))) s';rw[fin];exact g
theorem tO{x y:List (List Key)}{a b:Addr}{Q:Bool->Shared->Prop}(hu:A.units+1<cLine)(hx:HL prog w s.heap x a)(hy:HL prog w s.heap y b)(g:Q (decide (x=y)) s):wpAny (model prog w) A (eqBool (.ref a) (.ref b)) Q E s:=by
 unfold eqBool
 try with_reducible refine EJ ?_
 show wpAny _ _ (if (Value.ref a==Value.ref b)=true then _ else _) Q E s;by_cases ab:(Value.ref a==Value.ref b)=true
 ·rw[EF ab];have e:a=b:=by have:=eq_of_beq ab;injection this
  subst e;obtain rfl:=hx.one hy;exact EA (Fk (EB (by simpa using g)))
 ·rw[EE ab];exact EA (wpAny_richCompare_same_room (op:=.Eq) hx.ty hy.ty PySem.F.slot_tuple_eq (Fi PySem.F.slot_tuple_eq hx.ty PySem.F.entry_tuple_eq (iP hu hx hy ⟨_,rfl,(fun e=>nomatch e),wpAny_truthy_bool g⟩) (PySem.F.args_tuple_eq_2 _ _)) (by lia))
theorem pq(m:Nat){ks:List Key}{a:Addr}{Q:Bool->Shared->Prop}(x:(tkd prog w).is s.heap ks a)(g:Q true s):wpAny (model prog w) A (eqIsQuiet (m+1) (.ref a)) Q E s:=by
 have tT:=IsTupleKey.typeIs x;obtain⟨o,its,n,e,_,d,i⟩:=x;unfold eqIsQuiet;refine EA (wpAny_specialOf tT PySem.F.slot_tuple_eq.lookup ?_);show wpAny _ _ (isInstance (.ref a) (.type "tuple") >>= _) _ _ s;refine EA (wpAny_isInstance tT isSubtype_tuple_tuple ?_);simp only[CF,BF,if_false];refine EA (wpAny_seqItems e d ?_);refine EA ?_;show wpAny _ _ (forIn its _ _) _ _ s;rw[<- Eg];refine wpAny_forIn_list _ (fun rest r s'=>r.1=none/\s'=s/\∀v∈rest,carriedByValue v=true) _ ?_ ?_ _ _ ⟨rfl,rfl,i.byValue⟩
 ·rintro v rest r s' ⟨er,rfl,al⟩;rw[eqIsQuiet_byValue _ (al v AS)];refine EA (EB ?_);simp only[CF,BF,if_false];exact EB ⟨rfl,rfl,fun u hu'=>al u (AY _ hu')⟩
 ·rintro⟨r1,r2⟩ s' ⟨er,rfl,_⟩;simp only at er;subst er;exact EB g
theorem ml{ks:List (List Key)}{a:Addr}{Q:Bool->Shared->Prop}(x:HL prog w s.heap ks a)(g:Q true s):wpAny (model prog w) A (eqIsQuiet 8 (.ref a)) Q E s:=by
 have tT:=x.ty;obtain⟨o,its,n,e,_,d,i⟩:=x;unfold eqIsQuiet;refine EA (wpAny_specialOf tT PySem.F.slot_tuple_eq.lookup ?_);show wpAny _ _ (isInstance (.ref a) (.type "tuple") >>= _) _ _ s;refine EA (wpAny_isInstance tT isSubtype_tuple_tuple ?_);simp only[CF,BF,if_false];refine EA (wpAny_seqItems e d ?_);refine EA ?_;show wpAny _ _ (forIn its _ _) _ _ s;rw[<- Eg];refine wpAny_forIn_list _ (fun rest r s'=>r.1=none/\s'=s/\∃l,FJ prog w s.heap l rest) _ ?_ ?_ _ _ ⟨rfl,rfl,ks,i⟩
 ·rintro v rest r s' ⟨er,rfl,l,al⟩;cases al with
  |cons h1 t=>
   refine EA (pq 6 h1 ?_);simp only[CF,BF,if_false];exact EB ⟨rfl,rfl,_,t⟩
 ·rintro⟨r1,r2⟩ s' ⟨er,rfl,_⟩;simp only at er;subst er;exact EB g
end
def bI (prog:Program)(w:World):HeapKind prog w (List (List Key)) where
 is:=HL prog w
 hash:=tm w prog
 draws:=kB
 room:=fun A=>A.units+1<cLine
 inj:=fun hx hy=>hx.one hy
 keeps:=fun x ho hd hs=>x.kp ho hd hs
 pyHash:=fun hu hk h=>oY hu hk h
 eqBool:=fun hu hx hy h=>tO hu hx hy h
 quiet:=fun hk h=>ml hk h
abbrev DK:=List (List Key)
def GO (H:Hp)(b:Addr)(ks:DK):Prop:=∃rs:List Addr,H b=some (.tup (rs.map V.ref))/\Paired (fun r (k:List Key)=>H r=some (.tup (k.map kV))) rs ks
theorem GO.keeps{H H':Hp}{b:Addr}{ks:DK}(t:GO H b ks)(ht:∀b ys,H b=some (.tup ys)->H' b=some (.tup ys)):GO H' b ks:=by
 obtain⟨rs,e,p⟩:=t;exact⟨rs,ht _ _ e,Paired.GQ p fun _ _ z=>ht _ _ z⟩
abbrev KU(H:Hp):List (DK×V)->List (DK×Addr×Value)->Prop:=Paired fun(p:DK×V) (q:DK×Addr×Value)=>p.1=q.1/\GO H q.2.1 p.1/\RelV p.2 q.2.2
theorem KU.keeps{H H':Hp}{kvs:List (DK×V)}{xs:List (DK×Addr×Value)}(r:KU H kvs xs)(ht:∀b ys,H b=some (.tup ys)->H' b=some (.tup ys)):KU H' kvs xs:=Paired.GQ r fun _ _ z=>⟨z.1,z.2.1.keeps ht,z.2.2⟩
theorem KU.val{H:Hp}{kvs:List (DK×V)}{xs:List (DK×Addr×Value)}(r:KU H kvs xs)(k:DK):HK (cb kvs k) ((atKey xs k).map (·.2)):=by
 induction r with
 |nil=>exact True.intro
 |@cons p q ps qs h t ih=>
  by_cases e:p.1=k
  ·have b:atKey (q::qs) k=some q.2:=by simp[atKey,BB,h.1.symm.trans e]
   rw[bH e,b];exact h.2.2
  ·have e2:¬q.1=k:=fun z=>e (h.1.trans z);have b:atKey (q::qs) k=atKey qs k:=by simp[atKey,BB,e2]
   rw[bE e,b];exact ih
theorem KU.Kr{H:Hp}{kvs:List (DK×V)}{xs:List (DK×Addr×Value)}(r:KU H kvs xs)(k:DK){y:V}{u:Value}(ry:RelV y u):KU H (kvs.map fun kv=>if kv.1=k then (kv.1,y) else kv) (xs.map (putAt k u)):=by
 induction r with
 |nil=>exact .nil
 |@cons p q ps qs h t ih=>
  refine .cons ?_ ih;unfold putAt;dsimp only;by_cases e:p.1=k
  ·rw[EF e,EF (h.1.symm.trans e)];exact⟨h.1,h.2.1,ry⟩
  ·rw[EE e,EE fun z=>e (h.1.trans z)];exact h
theorem KU.put{H:Hp}{kvs:List (DK×V)}{xs:List (DK×Addr×Value)}(r:KU H kvs xs)(k:DK){b:Addr}{y:V}{u:Value}(hb:GO H b k)(ry:RelV y u):KU H (cY kvs k y) (storedH xs k b u):=by
 have e:(kvs.any fun kv=>decide (kv.1=k))=(atKey xs k).isSome:=by rw[eQ,(r.val k).Gr,DR]
 unfold cY storedH;rw[e];by_cases q:(atKey xs k).isSome=true
 ·rw[EF q,EF q];exact r.Kr k ry
 ·rw[EE q,EE q];exact Paired.snoc r ⟨rfl,hb,ry⟩
section
variable (P:Program)(w:World)
def qD (xs:List (DK×Addr×Value))(a:Addr):HO:=.ext fun h=>∃o es ep,h.get? a=some o/\o.ExactDict/\o.data=.dict es ep/\es.toList=xs.map (entryOfKey (bI P w))
structure DUx(H:Hp)(a:Addr)(kvs:List (DK×V))(xs:List (DK×Addr×Value)):Prop where
 sys:(a==sysModules)=false
 few:kvs.length<=sizeLine
 ku:KU H kvs xs
 nd:(xs.map (·.1)).Nodup
def DU (H:Hp)(a:Addr)(kvs:List (DK×V)):Prop:=∃xs,DUx H a kvs xs/\H a=some (qD P w xs a)
def DUf (o:Obj)(H:Hp)(a:Addr)(kvs:List (DK×V)):Prop:=∃xs,DUx H a kvs xs/\H a=some (.frz o (qD P w xs a))
def RU (H:Hp)(a:Addr)(kvs:List (DK×V)):Prop:=∃xs,DUx H a kvs xs/\Rd H a (qD P w xs a)
end
section
variable {P:Program}{w:World}{H:Hp}{h:Heap}{a:Addr}
theorem DU.rd{kvs:List (DK×V)}(d:DU P w H a kvs):RU P w H a kvs:=let ⟨xs,x,e⟩:=d;⟨xs,x,.inl e⟩
theorem DUf.rd{o:Obj}{kvs:List (DK×V)}(d:DUf P w o H a kvs):RU P w H a kvs:=let ⟨xs,x,e⟩:=d;⟨xs,x,.inr ⟨o,e⟩⟩
theorem cW{ks:DK}(ok:HOk P w H h)(t:GO H a ks):HL P w h ks a:=by
 obtain⟨rs,e,p⟩:=t;obtain⟨_,its,r,o,h1,h2,n,h3⟩:=(show Fz P w H h a (.tup (rs.map V.ref)) from ok a _ e)
 refine⟨o,its.toArray,n,h1,h2,h3,?_⟩;have all:∀{rs:List Addr}{ks:DK}{its:List Value},Paired (fun r (k:List Key)=>H r=some (.tup (k.map kV))) rs ks->Vals (rs.map V.ref) its->FJ P w h ks its:=by
  intro rs ks its p;induction p generalizing its with
  |nil=>intro r;cases r;exact .nil
  |@cons r k rs ks q t ih=>
   intro v;cases v with
   |@cons _ b _ bs r1 r2=>
    cases (show b=Value.ref r from r1);exact .cons (ff ok q) (ih r2)
 simpa using all p r
theorem uR{kvs:List (DK×V)}(ok:HOk P w H h)(d:RU P w H a kvs):∃xs,DUx H a kvs xs/\h.DictOfH (bI P w) a xs:=by
 obtain⟨xs,x,e⟩:=d;obtain⟨⟨o,es,ep,h1,h2,h3,h4⟩,_⟩:=qC ok e;refine⟨xs,x,o,es,ep,h1,h2,h3,h4,?_,x.nd⟩;have all:∀{l:List (DK×V)}{m:List (DK×Addr×Value)},KU H l m->∀x∈m,(bI P w).is h x.1 x.2.1:=by
  intro l m q;induction q with
  |nil=>intro x hx;exact nomatch hx
  |@cons p q ps qs hq t ih=>
   intro x hx;rcases AN.mp hx with e|hx
   ·subst e;exact cW ok (by rw[<- hq.1];exact hq.2.1)
   ·exact ih x hx
 exact all x.ku
theorem mV{xs:List (DK×Addr×Value)}(d:h.DictOfH (bI P w) a xs):Fz P w H h a (qD P w xs a):=by
 obtain⟨o,es,ep,h1,h2,h3,h4,_⟩:=d;refine⟨⟨o,es,ep,h1,h2,h3,h4⟩,⟨o,h1⟩,fun g1 g2 p st=>?_⟩;obtain⟨o,es,ep,h1,r⟩:=p;exact⟨o,es,ep,st _ h1,r⟩
end
section
variable {X:Cx}{pins:List (Addr×Obj)}{σ:St}{H:Hp}{s:Shared}{a b:Addr}{v d:V}{r:Value}{kvs:List (DK×V)}{k:DK}{A:Around}{E:Value->Shared->Prop}
theorem pG{Q:Value->Shared->Prop}(hu:A.units+2<cLine)(I:Inv X pins σ H s)(g:RU X.prog X.w H a kvs)(t:GO H b k)(l:cb kvs k=some v)(h:∀w' s',Inv X pins σ H s'->RelV v w'->Q w' s'):wpAny (model X.prog X.w) A (getItem (.ref a) (.ref b)) Q E s:=by
 obtain⟨xs,x,dd⟩:=uR I.hok g;obtain⟨w',hw,rw'⟩:=HK.some_of (v:=v) (o:=(atKey xs k).map (·.2)) (by rw[<- l];exact x.ku.val k);obtain⟨p,hp,hp2⟩:=BH.mp hw;refine wpAny_getItem_heap (knd:=bI X.prog X.w) hu (cW I.hok t) dd hp ?_;rw[hp2];exact h w' _ (I.tok _) rw'
theorem vq{Q:Value->Shared->Prop}(hu:A.units+2<cLine)(I:Inv X pins σ H s)(g:RU X.prog X.w H a kvs)(t:GO H b k)(rd:RelV d r)(h:∀w' s',Inv X pins σ H s'->RelV ((cb kvs k).getD d) w'->Q w' s'):wpAny (model X.prog X.w) A (call (.builtin "dict.get") [.ref a,.ref b,r]) Q E s:=by
 obtain⟨xs,x,dd⟩:=uR I.hok g;exact call_meetsIn PySem.F.slot_dict_get dd.typeIs PySem.F.entry_dict_get (PySem.F.args_dict_get_3 _ _ _) (meetsH_dict_get_default (bI X.prog X.w) a b x.sys r) ⟨hu,k,xs,cW I.hok t,dd,h _ _ (I.tok _) ((x.ku.val k).getD rd)⟩
theorem mM{Q:Unit->Shared->Prop}(hu:A.units+2<cLine)(I:Inv X pins σ H s)(g:DU X.prog X.w H a kvs)(t:GO H b k)(l:kvs.length<sizeLine)(rv:RelV v r)(h:∀u s',DU X.prog X.w (upd H a u) a (cY kvs k v)->Inv X pins σ (upd H a u) s'->Q () s'):wpAny (model X.prog X.w) A (setItem (.ref a) (.ref b) r) Q E s:=by
 obtain⟨_,_,e⟩:=id g;obtain⟨xs,x,dd⟩:=uR I.hok g.rd;have hz:xs.length<=sizeLine:=by rw[<- Paired.length x.ku];exact x.few
 refine wpAny_setItem_heap (knd:=bI X.prog X.w) (hsz:=hz) hu (cW I.hok t) dd fun h' dd' hs=>h (qD X.prog X.w (storedH xs k b r) a) _ ⟨_,⟨x.sys,?_,(x.ku.put k t rv).keeps fun c ys ec=>?_,?_⟩,ae⟩ ?_
 ·have:=cj kvs k v;lia
 ·rw[ai (bD ec e (fun z=>nomatch z))];exact ec
 ·obtain⟨_,_,_,_,_,_,_,_,h5⟩:=dd';exact h5
 ·exact cu I (by rw[e];exact True.intro) hs (let ⟨q,_,_,hq,_⟩:=dd';⟨q,hq⟩) (mV dd')
theorem nV(I:Inv X pins σ H s)(g:RU X.prog X.w H a kvs):s.TypeIs (.ref a) "dict"/\∀b,Value.ref a=.ref b->∃ob,s.heap.get? b=some ob/\ob.dict=none:=by
 obtain⟨xs,x,dd⟩:=uR I.hok g;refine⟨dd.typeIs,fun b q=>?_⟩;cases q;obtain⟨ob,_,_,h1,h2,_⟩:=dd;exact⟨ob,h1,h2.2.1⟩
end
section
variable {X:Cx}{o i e f value:Expr}{pos pos' apos cpos:Pos}{td ty tx tv:TE}
def ve (P:Program)(w:World)(td ty:TE):TE:=fun σ H Q=>td σ H fun x H1=>ty σ H1 fun y H2=>∃a b kvs k v,x=.ref a/\y=.ref b/\RU P w H2 a kvs/\GO H2 b k/\cb kvs k=some v/\Q v H2
def si (P:Program)(w:World)(td ty tx:TE):TE:=fun σ H Q=>td σ H fun x H1=>∃a kvs,x=.ref a/\RU P w H1 a kvs/\ty σ H1 fun y H2=>tx σ H2 fun z H3=>∃b kvs k,y=.ref b/\RU P w H3 a kvs/\GO H3 b k/\Q ((cb kvs k).getD z) H3
def vG (P:Program)(w:World)(td ty tv:TE):TS:=fun D σ H=>tv σ H fun v H1=>td σ H1 fun x H2=>ty σ H2 fun y H3=>∃a b kvs k,x=.ref a/\y=.ref b/\DU P w H3 a kvs/\GO H3 b k/\kvs.length<sizeLine/\∀u,DU P w (upd H3 a u) a (cY kvs k v)->D.nx σ (upd H3 a u)
theorem uB(hu:X.A.units+2<cLine)(ho:PE X o td)(hi:PE X i ty)(hs:xi i):PE X (.Subscript o i pos) (ve X.prog X.w td ty):=by
 intro pins s σ H Q I h;refine pP PySem.F.slot_dict_getitem.lookup hs (thn (ho pins s σ H _ I h) fun u s1 hq91=>?_);obtain⟨x,H1,I1,rx,q1⟩:=hq91;refine thn (hi pins s1 σ H1 _ I1 q1) fun iv s2 ⟨y,H2,I2,ry,a,b,kvs,k,v,ex,ey,g,t,l,q2⟩=>?_;subst ex ey;obtain rfl:u=Value.ref a:=rx;obtain rfl:iv=Value.ref b:=ry;exact⟨(nV I2 g).1,pG hu I2 g t l fun w' s3 I3 rw'=>⟨v,H2,I3,rw',q2⟩⟩
theorem qH(hu:X.A.units+2<cLine)(ho:PE X o td)(he:PE X e ty)(hf:PE X f tx)(m:M2 X o "get" apos e f cpos):PE X (.Call (.Attribute o "get" apos) [e,f] [] cpos) (si X.prog X.w td ty tx):=by
 intro pins s σ H Q I h;refine wpAny_Call_method m.base m.few m.line PySem.F.plainAttrs_dict PySem.F.slot_dict_get PySem.F.type_dict_get (thn (ho pins s σ H _ I h) fun u s1 hq92=>?_);obtain⟨x,H1,I1,rx,a,kv0,ex,d,q1⟩:=hq92;subst ex;obtain rfl:u=Value.ref a:=rx;obtain⟨t1,t2⟩:=nV I1 d;refine⟨t1,t2,?_⟩;rw[m.trees];refine Calls.callWith_builtin rfl (Calls.evalArgs_plain (Calls.spliced_cons (thn (he pins s1 σ H1 _ I1 q1) fun iv s2 hq93=>?_)));obtain⟨y,H2,I2,ry,q2⟩:=hq93;refine Calls.spliced_cons (thn (hf pins s2 σ H2 _ I2 q2) fun fv s3 ⟨z,H3,I3,rz,b,kvs,k,ey,g,t,q3⟩=>Calls.spliced_nil ?_);subst ey;obtain rfl:iv=Value.ref b:=ry;exact vq hu I3 g t rz fun w' s4 I4 rw'=>⟨_,H3,I4,rw',q3⟩
theorem tQ(hu:X.A.units+2<cLine)(ho:PE X o td)(hi:PE X i ty)(hv:PE X value tv)(hs:swapsWith value (some (.Subscript o i pos')) pos.line X.env=pure false):PS X (.Assign [.Subscript o i pos'] value pos) (vG X.prog X.w td ty tv):=by
 intro pins s σ H D I h;refine wpAny_Assign_Subscript (thn (hv pins s σ H _ I h) fun r s1 hq94=>?_) hs;obtain⟨v,H1,I1,rv,q1⟩:=hq94;refine thn (ho pins s1 σ H1 _ I1 q1) fun u s2 ⟨x,H2,I2,rx,q2⟩=>thn (hi pins s2 σ H2 _ I2 q2) fun iv s3 ⟨y,H3,I3,ry,a,b,kvs,k,ex,ey,g,t,l,q3⟩=>?_;subst ex ey;obtain rfl:u=Value.ref a:=rx;obtain rfl:iv=Value.ref b:=ry;exact mM hu I3 g t l rv fun o s4 d I4=>⟨σ,_,I4,q3 o d⟩
theorem pj{P:Program}{w:World}{H:Hp}{a:Addr}(hb:sysModules<a):DUx H a [] []:=⟨beq_eq_false_iff_ne.mpr (EZ (AR hb)),Bi _,.nil,DS⟩
def uW (P:Program)(w:World):TE:=fun _ H Q=>∀p u,H p=none->DU P w (upd H p u) p []->Q (.ref p) (upd H p u)
theorem Kf:PE X (.Dict [] [] pos) (uW X.prog X.w):=fun pins s σ H Q I h=>
 wpAny_Dict_empty ⟨.ref s.heap.objs.size,_,I.laid (a:=s.heap.objs.size) (o:=qD X.prog X.w [] s.heap.objs.size) (t':=s.toks) (fun _ _ q=>Fb _ q) (AH _) (mV (Heap.DictOfH.new _)),rfl,h _ _ (I.hok.fresh (AH _)) ⟨[],pj (P:=X.prog) (w:=X.w) I.big,ae⟩⟩
def qi (P:Program)(w:World)(tk tv:TE):TE:=fun σ H Q=>∀p u,H p=none->DU P w (upd H p u) p []->tk σ (upd H p u) fun y H1=>tv σ H1 fun x H2=>∃ks b,DU P w H2 p []/\y=.ref b/\GO H2 b ks/\∀u,DU P w (upd H2 p u) p [(ks,x)]->Q (.ref p) (upd H2 p u)
theorem mR{k v:Expr}{tk tv:TE}(hu:X.A.units+2<cLine)(hk:PE X k tk)(hv:PE X v tv):PE X (.Dict [some k] [v] pos) (qi X.prog X.w tk tv):=by
 intro pins s σ H Q I h;have I1:Inv X pins σ (upd H s.heap.objs.size (qD X.prog X.w [] s.heap.objs.size)) {s with heap:=s.heap.push {cls:=.type "dict",data:=.dict #[]},toks:=s.toks}:=I.laid (a:=s.heap.objs.size) (t':=s.toks) (fun _ _ q=>Fb _ q) (AH _) (mV (Heap.DictOfH.new _));refine wpAny_Dict_any rfl rfl (by simp) (by show 1<=15;decide) (pairTrees_cons_walk (thn (hk pins _ σ _ _ I1 (h _ _ (I.hok.fresh (AH _)) ⟨[],pj (P:=X.prog) (w:=X.w) I.big,ae⟩)) fun kv s1 hq95=>?_));obtain⟨y,H1,I2,ry,q1⟩:=hq95;refine thn (hv pins s1 σ H1 _ I2 q1) fun vv s2 ⟨x,H2,I3,rx,ks,b,g,ey,t,q2⟩=>pairTrees_nil_walk ?_;subst ey;cases (show kv=Value.ref b from ry);obtain⟨_,_,e⟩:=id g;obtain⟨xs,y,dd⟩:=uR I3.hok g.rd;obtain⟨hs0,_,rel,_⟩:=y;cases rel;unfold storeAll;rw[DQ];refine EA (EA (wpAny_dictSet_heap (hsz:=Bi _) (knd:=bI X.prog X.w) (show X.A.units+1<cLine by lia) (cW I3.hok t) dd fun h' dd' hs=>EB ?_));show wpAny _ _ (storeAll s.heap.objs.size []) _ _ _;unfold storeAll;rw[List.forIn_nil];refine EB ⟨.ref s.heap.objs.size,_,cu I3 (by rw[e];exact True.intro) hs (let ⟨q,_,_,hq,_⟩:=dd';⟨q,hq⟩) (mV dd'),rfl,q2 _ ⟨_,⟨hs0,by show 1<=sizeLine;decide,.cons ⟨rfl,t.keeps fun c ys ec=>?_,rx⟩ .nil,by simp⟩,ae⟩⟩;rw[ai (bD ec e (fun z=>nomatch z))];exact ec
end
section
variable {prog:Program}{w:World}{κ:Type} [DecidableEq κ] {knd:HeapKind prog w κ}{A:Around}{E:Value->Shared->Prop}{s:Shared}{d a:Addr}{k:κ}{xs:List (κ×Addr×Value)}
theorem qe{α β:Type}(f:α->β):∀(l:List α)(j:Nat),(l.eraseIdx j).map f=(l.map f).eraseIdx j
 |[],_=>rfl
 |_::_,0=>rfl
 |_::l,j+1=>congrArg (_::·) (qe f l j)
theorem iD{Q:Option DictEntry->Shared->Prop}(hu:knd.room A)(key:knd.is s.heap k a)(m:s.heap.DictOfH knd d xs)(z:xs.length<=sizeLine)(q0:(∀(j:Nat)(p:Addr×Value),xs[j]?≠some (k,p))->Q none {s with toks:=s.toks+knd.draws k})
  (q1:∀(j:Nat)(p:Addr×Value),xs[j]?=some (k,p)->∀h',h'.DictOfH knd d (xs.eraseIdx j)->Heap.SameBut d s.heap h'->Q (some (entryOfKey knd (k,p))) {s with heap:=h',toks:=s.toks+knd.draws k}):wpAny (model prog w) A (Builtin.Dict.takeOut d (.ref a)) Q E s:=by
 obtain⟨o,es,ep,ho,hc,hd,he,his,hn⟩:=m;unfold Builtin.Dict.takeOut
 try with_reducible refine EJ ?_
 refine EA (knd.pyHash hu key (EA (wpAny_dictFind_heap (s:={s with toks:=s.toks+knd.draws k}) hu key ho hd he his hn ?_ ?_)))
 ·exact fun no=>EB (q0 no)
 ·intro j p hj;refine EA (wpAny_dictEntries (s:={s with toks:=s.toks+knd.draws k}) ho hd ?_);rw[entry_at he j,hj];refine EA (wpAny_updateDictKeys (hz:=by have e:=size_of_entries he;lia) (s:={s with toks:=s.toks+knd.draws k}) ho hd (EB (q1 j p hj _ ⟨_,_,ep+1,Heap.get?_update_self _ ho (Obj.isFreed_of_dict (Obj.data_mapDictKeys hd _)),hc.mapDictKeys _,Obj.data_mapDictKeys hd _,?_,?_,?_⟩ (Heap.SameBut.update ..))))
  ·have hl:j<es.size:=by
    rw[size_of_entries he];exact(Bc.mp hj).1
   simp only[Array.eraseIdxIfInBounds,hl,dite_true,Array.toList_eraseIdx,he];exact(qe _ _ _).symm
  ·exact fun x hx=>knd.keeps (his x (List.mem_of_mem_eraseIdx hx)) ho hd (Heap.SameBut.update ..)
  ·rw[qe];exact hn.sublist (List.eraseIdx_sublist _ _)
theorem nk(hd:(d==sysModules) = false)(dflt:Value):MeetsIn prog w (Builtin.«dict.pop» ⟨[.ref d, .ref a, dflt], []⟩) (fun A R s=> knd.room A.in1 /\ ∃ k xs, knd.is s.heap k a /\ s.heap.DictOfH knd d xs /\ xs.length <= sizeLine /\
      ((∀ (j : Nat) (p : Addr × Value), xs[j]? ≠ some (k, p)) -> ∀ t, R (.ok (.ret dflt)) { s with toks := t }) /\ ∀ (j : Nat) (p : Addr × Value), xs[j]? = some (k, p) -> ∀ h' t, h'.DictOfH knd d (xs.eraseIdx j) -> Heap.SameBut d s.heap h' -> R (.ok (.ret p.2)) { s with heap := h', toks := t }) :=
  .of_wp fun A R s ⟨hu, k, xs, key, m, z, q0, q1⟩=> by
    unfold Builtin.«dict.pop»;refine EA ?_;unfold Builtin.Dict.keyAndDefault;refine EA (wpAny_notOrdered_dict m.typeIs ?_);show wpAny _ _ (pure (d, Value.ref a, some dflt)) _ _ s;refine EB ?_;have kp:(keyPart (Value.ref a)).isSome = false := rfl;simp only [kp, BF, if_false];have tail:∀ s':Shared, (∃ t, s' = {s with toks := t}) -> (∀ (j:Nat) (p:Addr × Value), xs[j]? ≠ some (k, p)) -> wpAny (model prog w) A.in1 (do Builtin.Dict.missedRemoval d (.ref a);rule "dict.pop.default";ret dflt) (fun f s=> ∃ v, f = .done (.ret v) /\ R (.ok (.ret v)) s) (fun e s=> R (.error e) s) s' := fun s' ⟨t, e⟩ no=> by
      subst e;exact EA (wpAny_missedRemoval_other hd (EA (Fk (EB ⟨dflt, rfl, q0 no t⟩))))
    obtain ⟨o, es, ep, ho, hc, hdd, he, his, hn⟩ := id m;refine EA (wpAny_dictEntries ho hdd (EA (EB ?_)));by_cases em:es.isEmpty = true
    · rw [EF em]
      have e0:xs = [] := by
        have := size_of_entries he;rw [Array.isEmpty_iff_size_eq_zero] at em;exact Bv.mp (by lia)
      subst e0;refine EA (Fk (EA (EB ?_)));simp only [Option.isNone_none, if_true];exact tail _ ⟨_, rfl⟩ fun j p=> by simp
    · rw [EE em]
      refine EA (iD hu key m z (fun no=> ?_) fun j p hj h' m' sb=> ?_)
      · simp only [Option.isNone_none, if_true]
        exact tail _ ⟨_, rfl⟩ no
      · simp only [Option.isNone_some, BF, if_false]
        exact EA (wpAny_letGo (EB ⟨p.2, rfl, q1 j p hj h' _ m' sb⟩))
end
theorem KU.drop{H:Hp}{k:DK}{p:Addr×Value}:∀{kvs:List (DK×V)}{xs:List (DK×Addr×Value)}{j:Nat},KU H kvs xs->(xs.map (·.1)).Nodup->xs[j]?=some (k,p)->KU H (bo kvs k) (xs.eraseIdx j)/\∃v,cb kvs k=some v/\RelV v p.2
 |_,_,_,.nil,_,e=>by simp at e
 |_,_,0,@Paired.cons _ _ _ a b as bs h t,nd,e=>by
  have e1:b=(k,p):=by simpa using e
  subst e1;have ka:a.1=k:=h.1;rw[ph ka,bH ka,Ie]
  ·exact⟨t,_,rfl,h.2.2⟩
  ·intro m;have eq:as.map (·.1)=bs.map (·.1):=by
    clear nd e m;induction t with
    |nil=>rfl
    |cons h _ ih=>rw[AQ,AQ,h.1,ih]
   rw[eq] at m;exact(BK.mp nd).1 m
 |_,_,j+1,@Paired.cons _ _ _ a b as bs h t,nd,e=>by
  have nd':=BK.mp nd;have e':bs[j]?=some (k,p):=by simpa using e
  have ne:¬ a.1=k:=fun z=>nd'.1 (by
   show b.1∈_;rw[<- h.1,z]
   exact AJ.mpr ⟨_,Bg e',rfl⟩)
  obtain⟨r,v,ev,rv⟩:=KU.drop t nd'.2 e';rw[iR ne,bE ne];exact⟨.cons h r,v,ev,rv⟩
section
variable {X:Cx}{pins:List (Addr×Obj)}{σ:St}{H:Hp}{s:Shared}{a b:Addr}{r:Value}{kvs:List (DK×V)}{k:DK}{A:Around}{E:Value->Shared->Prop}
theorem wW{Q:Value->Shared->Prop}(hu:A.units+2<cLine)(I:Inv X pins σ H s)(g:DU X.prog X.w H a kvs)(t:GO H b k)(h0:cb kvs k=none->∀s',Inv X pins σ H s'->Q r s')
  (h1:∀v u w' s',cb kvs k=some v->DU X.prog X.w (upd H a u) a (bo kvs k)->Inv X pins σ (upd H a u) s'->RelV v w'->Q w' s'):wpAny (model X.prog X.w) A (call (.builtin "dict.pop") [.ref a,.ref b,r]) Q E s:=by
 obtain⟨_,_,e⟩:=id g;obtain⟨xs,x,dd⟩:=uR I.hok g.rd;have hz:xs.length<=sizeLine:=by rw[<- Paired.length x.ku];exact x.few
 refine call_meetsIn PySem.F.slot_dict_pop dd.typeIs PySem.F.entry_dict_pop (PySem.F.args_dict_pop_3 _ _ _) (nk (knd:=bI X.prog X.w) x.sys r) ⟨hu,k,xs,cW I.hok t,dd,hz,fun no tk=>h0 ?_ _ (I.tok _),fun j p hj h' tk dd' sb=>?_⟩
 ·have q:=x.ku.val k;rw[atKey_none_of_get no] at q;cases l:cb kvs k with
  |none=>rfl
  |some v=>rw[l] at q;exact q.elim
 ·obtain⟨ku,v,ev,rv⟩:=x.ku.drop x.nd hj;refine h1 v (qD X.prog X.w (xs.eraseIdx j) a) p.2 _ ev ⟨_,⟨x.sys,AX (kI kvs k) x.few,ku.keeps fun c ys ec=>?_,by obtain⟨_,_,_,_,_,_,_,_,h5⟩:=dd';exact h5⟩,ae⟩ (cu I (by rw[e];exact True.intro) sb (let ⟨q,_,_,hq,_⟩:=dd';⟨q,hq⟩) (mV dd')) rv;rw[ai (bD ec e (fun z=>nomatch z))];exact ec
end
section
variable {X:Cx}{o e f:Expr}{apos cpos:Pos}{td ty tx:TE}
def sC (P:Program)(w:World)(td ty tx:TE):TE:=fun σ H Q=>td σ H fun x H1=>∃a kvs,x=.ref a/\RU P w H1 a kvs/\ty σ H1 fun y H2=>tx σ H2 fun z H3=>∃b kvs k,y=.ref b/\DU P w H3 a kvs/\GO H3 b k/\(cb kvs k=none->Q z H3)/\∀v u,cb kvs k=some v->DU P w (upd H3 a u) a (bo kvs k)->Q v (upd H3 a u)
theorem qw(hu:X.A.units+2<cLine)(ho:PE X o td)(he:PE X e ty)(hf:PE X f tx)(m:M2 X o "pop" apos e f cpos):PE X (.Call (.Attribute o "pop" apos) [e,f] [] cpos) (sC X.prog X.w td ty tx):=by
 intro pins s σ H Q I h;refine wpAny_Call_method m.base m.few m.line PySem.F.plainAttrs_dict PySem.F.slot_dict_pop PySem.F.type_dict_pop (thn (ho pins s σ H _ I h) fun u s1 hq96=>?_);obtain⟨x,H1,I1,rx,a,kv0,ex,d,q1⟩:=hq96;subst ex;obtain rfl:u=Value.ref a:=rx;obtain⟨t1,t2⟩:=nV I1 d;refine⟨t1,t2,?_⟩;rw[m.trees];refine Calls.callWith_builtin rfl (Calls.evalArgs_plain (Calls.spliced_cons (thn (he pins s1 σ H1 _ I1 q1) fun iv s2 hq97=>?_)));obtain⟨y,H2,I2,ry,q2⟩:=hq97;refine Calls.spliced_cons (thn (hf pins s2 σ H2 _ I2 q2) fun fv s3 ⟨z,H3,I3,rz,b,kvs,k,ey,g,t,q3,q4⟩=>Calls.spliced_nil ?_);subst ey;obtain rfl:iv=Value.ref b:=ry;exact wW hu I3 g t (fun l s4 I4=>⟨_,H3,I4,rz,q3 l⟩) fun v u w' s4 l d I4 rw'=>⟨v,_,I4,rw',q4 v u l d⟩
end
section
variable (P:Program)(w:World)
def ItU (a:Addr)(o:Obj)(kvs:List (DK×V)):It:=
 ⟨fun i H=>DUf P w o H a kvs/\i<kvs.length,fun i H x H'=>H'=H/\∃b p,kvs[i]?=some p/\x=.ref b/\GO H b p.1,fun i H=>DUf P w o H a kvs/\kvs.length<=i⟩
end
theorem KU.at{H:Hp}:∀{kvs:List (DK×V)}{xs:List (DK×Addr×Value)}{i:Nat}{p:DK×V},KU H kvs xs->kvs[i]?=some p->∃q,xs[i]?=some q/\p.1=q.1/\GO H q.2.1 p.1/\RelV p.2 q.2.2
 |_,_,_,_,.nil,h=>by simp at h
 |_,_,0,_,.cons r _,h=>by simp at h;subst h;exact⟨_,rfl,r⟩
 |_,_,i+1,p,.cons _ t,h=>by
  obtain⟨q,e,r⟩:=KU.at (i:=i) (p:=p) t (by simpa using h);exact⟨q,by simpa using e,r⟩
theorem mE{P:Program}{w:World}{K:W.Frag}{tg:Expr}(a it:Addr)(o:Obj)(kvs:List (DK×V)):Turn P w K tg (ItU P w a o kvs) [it] it (fun i h=>∃es ep,o.data=.dict es ep/\es.size=kvs.length/\h.IsKeyIter it a i es.size ep) where
 mem:=by simp
 obj:=fun i h st b hb=>by
  have e:b=it:=by simpa using hb
  subst e;obtain⟨es,ep,_,_,o',e,c,d⟩:=st;exact⟨o',e,fun v z=>by rw[d] at z;cases z⟩
 keep:=fun i h h' st k=>by
  obtain⟨es,ep,e1,e2,st⟩:=st;exact⟨es,ep,e1,e2,st.at fun o e=>k it (by simp) o e⟩
 item:=by
  intro X hP hw hK hc i pins s σ H E I hf st hg;subst hP hw hK;obtain⟨es,ep,hd,hn,st⟩:=st;obtain⟨⟨xs,x,ha⟩,hi⟩:=hg;obtain⟨hoa,⟨o',es',ep',ho',hc',hd',he'⟩,_⟩:=I.hok a _ ha;rw[hoa] at ho';cases ho';rw[hd] at hd';cases hd';have hi':i<es.size:=by lia
  obtain⟨f0,f1,f2,f3,f4,f5⟩:=hf it (by simp);refine kq st hoa hd hi' fun h' st' sb=>?_;have I1:Inv X pins σ H {s with heap:=h'}:=I.turned (t':=s.toks) (fun b o hb e=>(sb.2 b hb).trans e) f0 f1 f3 f4 f5;obtain⟨q,eq,e1,e2,e3⟩:=KU.at x.ku (AL hi);have ek:es[i].key=.ref q.2.1:=by
   have h1:es.toList[i]?=some es[i]:=by simp[hi']
   rw[he',AW,eq] at h1;have h2:=EM h1;rw[<- h2];rfl
  obtain⟨oi,e,c,d⟩:=id st';rw[ek];exact⟨_,rfl,mQ (s:={s with heap:=h'}) e c d (by decide) ⟨.ref q.2.1,H,I1,rfl,⟨rfl,q.2.1,kvs[i],AL hi,rfl,e2⟩,⟨es,ep,hd,hn,st'⟩,fun b hb=>(hf b hb).1⟩⟩
 done:=by
  intro X hP hw hK hc i pins s σ H E I hf st hg;subst hP hw hK;obtain⟨es,ep,hd,hn,st⟩:=st;obtain⟨⟨xs,x,ha⟩,hi⟩:=hg;obtain⟨hoa,_⟩:=I.hok a _ ha;obtain⟨f0,f1,f2,f3,f4,f5⟩:=hf it (by simp);exact mP (I.ok.hd hc) st hoa hd (by lia) fun h' eb=>⟨rfl,I.turned (t':=s.toks) (fun b o hb e=>eb b o hb e) f0 f1 f3 f4 f5⟩
 self:=fun _ _ _ _ _ st h=>by
  obtain⟨es,ep,_,_,st⟩:=st;exact wpAny_pyIter_keyiter st h
section
variable {X:Cx}{tg:Expr}
def sN (P:Program)(w:World)(tl:TE):TI:=fun σ H R=>tl σ H fun x H1=>∃a kvs,x=.ref a/\((DU P w H1 a kvs/\∀o u,DUf P w o (upd H1 a u) a kvs->R (ItU P w a o kvs) (upd H1 a u))\/∃o,DUf P w o H1 a kvs/\R (ItU P w a o kvs) H1)
theorem se{l:Expr}{tl:TE}(hl:PE X l tl):PI X tg l (sN X.prog X.w tl):=by
 intro pins s σ H R I h;refine thn (hl pins s σ H _ I h) fun v s1 hq98=>?_;obtain⟨x,H1,I1,r1,q1⟩:=hq98;obtain⟨a,kvs,e,q⟩:=q1;subst e;cases r1;have go:∀{H2:Hp}{o:Obj},Inv X pins σ H2 s1->DUf X.prog X.w o H2 a kvs->R (ItU X.prog X.w a o kvs) H2->∀{E},(wq X) (pyIter (.ref a)) (PIE X pins σ tg R) E s1:=by
  intro H2 o I2 d q E;obtain⟨xs,y,ha⟩:=id d;obtain⟨hoa,⟨o',es,ep,ho',hc,hdd,he⟩,_⟩:=I2.hok a _ ha;rw[hoa] at ho';cases ho';refine gJ y.sys hoa hc hdd ?_;have hn:es.size=kvs.length:=by
   have h1:es.toList.length=xs.length:=by rw[he,AI]
   rw[Br] at h1;rw[h1];exact(Paired.length y.ku).symm
  refine⟨s1.heap.objs.size,[s1.heap.objs.size],_,_,H2,rfl,I2.kept (t':=s1.toks) fun b o e=>Fb _ e,mE a _ o kvs,⟨es,ep,hdd,hn,_,Fc _ rfl,rfl,rfl⟩,fun b hb=>?_,q⟩;have e:b=s1.heap.objs.size:=by simpa using hb
  subst e;exact I2.JA (AH _) (I2.hok.fresh (AH _))
 rcases q with ⟨d,q⟩|⟨o,d,q⟩
 ·obtain⟨xs,y,ha⟩:=id d;obtain⟨⟨o,es,ep,ho,_⟩,_⟩:=I1.hok a _ ha;have I2:=I1.freeze ha ho (fun _ z=>by cases z) (fun _ _ z=>by cases z) (fun _ z=>by cases z) (fun _ z=>by cases z);have df:DUf X.prog X.w o (upd H1 a (.frz o (qD X.prog X.w xs a))) a kvs:=⟨xs,⟨y.sys,y.few,y.ku.keeps fun c ys ec=>by rw[ai (bD ec ha (fun z=>nomatch z))];exact ec,y.nd⟩,ae⟩
  exact go I2 df (q o _ df)
 ·exact go I1 d q
end
theorem xC{P:Program}{w:World}{a:Addr}{o:Obj}{kvs:List (DK×V)}{k:Nat}{js:List Nat}{g:TG}{tc:TT}{te:TE}{σ:St}{H:Hp}{Q:VK}(N:Nat->List V->Hp->Prop)(h0:N 0 [] H)(hz:∀i ys H,i<=kvs.length->N i ys H->ys.length<=i)(hn:kvs.length<=sizeLine)
  (hl:∀i ys H,i<=kvs.length->N i ys H->DUf P w o H a kvs)
  (hs:∀i p b ys H,kvs[i]?=some p->GO H b p.1->N i ys H->g (.ref b) (List.replicate k none++bJ js σ) H fun σ2 H2=>tc σ2 H2 fun b H3=>if b=true then te σ2 H3 fun y H4=>Nx kvs.length i N (ys++[y]) H4 else Nx kvs.length i N ys H3)
  (hd:∀ys H,N kvs.length ys H->∀p,H p=none->Q (.ref p) (upd H p (.lst ys))):fh (ItU P w a o kvs) k js g tc te σ H Q:=
 dv N h0 hz hn (fun i ys H hi p=>⟨hl i ys H (BA hi) p,hi⟩) (fun ys H p=>⟨hl _ ys H (AH _) p,AH _⟩)
  (fun i ys H x H' hi p y=>by
   obtain⟨e,b,q,h1,h2,h3⟩:=y;subst e h2
   exact hs i q b ys _ h1 h3 p) hd
theorem ou{P:Program}{w:World}{a:Addr}{o:Obj}{kvs:List (DK×V)}{g:TG}{tb:TS}{D:Ends}{σ:St}{H:Hp}(Pv:Nat->St->Hp->Prop)(h0:Pv 0 σ H)(hl:∀i σ H,i<=kvs.length->Pv i σ H->DUf P w o H a kvs)
  (hs:∀i p b σ H,kvs[i]?=some p->GO H b p.1->Pv i σ H->g (.ref b) σ H fun σ2 H2=>tb {D with nx:=Pv (i+1),ct:=Pv (i+1),bk:=D.nx} σ2 H2)(hd:∀σ H,Pv kvs.length σ H->D.nx σ H) :
  ∃W:Nat->Nat->St->Hp->Prop,(∃m,W 0 m σ H)/\∀i m σ H,W i m σ H ->
   ((ItU P w a o kvs).stop i H/\D.nx σ H)\/((ItU P w a o kvs).go i H/\∃N:St->Hp->Prop,(∀σ' H',N σ' H'->∃m',m'<m/\W (i+1) m' σ' H')/\∀x H',(ItU P w a o kvs).yld i H x H'->g x σ H' fun σ2 H2=>tb {D with nx:=N,ct:=N,bk:=D.nx} σ2 H2):=by
 refine⟨fun i m σ H=>m=kvs.length-i/\i<=kvs.length/\Pv i σ H,⟨kvs.length,rfl,Bi _,h0⟩,?_⟩;rintro i m σ H ⟨rfl,hi,p⟩;have q:=hl i σ H hi p;by_cases hlt:i<kvs.length
 ·refine .inr ⟨⟨q,hlt⟩,Pv (i+1),fun σ' H' p'=>⟨kvs.length-(i+1),by lia,rfl,hlt,p'⟩,fun x H' y=>?_⟩;obtain⟨e,b,pp,h1,h2,h3⟩:=y;subst e h2;exact hs i pp b σ _ h1 h3 p
 ·have e:i=kvs.length:=by lia
  subst e;exact .inl ⟨⟨q,AH _⟩,hd σ H p⟩
end L2
namespace KM
def tup (k:Nat):Nat->List (List Nat)
 |0=>[[]]
 |n+1=>(List.range k).flatMap fun i=>(tup k n).map (i::·)
def bA (ws:List (List Nat))(t:List Nat):List Nat:=(t.map fun i=>ws.getD i []).flatten
theorem bz(ws:List (List Nat))(i:Nat)(t:List Nat):bA ws (i::t)=ws.getD i []++bA ws t:=rfl
def S (L:Nat)(ws:List (List Nat)):Nat:=((List.range ws.length).map fun i=>2^(L-(ws.getD i []).length)).sum
def UD (ws:List (List Nat)):Prop:=∀s t:List Nat,(∀i∈s,i<ws.length)->(∀i∈t,i<ws.length)->bA ws s=bA ws t->s=t
structure Io(ws:List (List Nat))(Q:List Nat->Prop):Prop where
 first:∀i j x,i<ws.length->j<ws.length->i≠j->ws.getD i []=ws.getD j []++x->Q x
 within:∀n x y,n<ws.length->Q x->x=ws.getD n []++y->Q y
 beyond:∀n x y,n<ws.length->Q x->ws.getD n []=x++y->Q y
 none:¬Q []
theorem HU:∀{a b c d:List Nat},a++b=c++d->(∃x,a=c++x/\x++b=d)\/(∃x,c=a++x/\b=x++d)
 |a,b,[],d,h=>.inl ⟨a,rfl,h⟩
 |[],b,e::c,d,h=>.inr ⟨e::c,rfl,h⟩
 |f::a,b,e::c,d,h=>by
  injection h with h1 h2;subst h1;rcases HU h2 with ⟨x,h3,h4⟩|⟨x,h3,h4⟩
  ·exact .inl ⟨x,by rw[h3];rfl,h4⟩
  ·exact .inr ⟨x,by rw[h3];rfl,h4⟩
theorem su{ws:List (List Nat)}{Q:List Nat->Prop}(C:Io ws Q):∀(k:Nat)(s t:List Nat)(x:List Nat),s.length+t.length<=k->(∀i∈s,i<ws.length)->(∀i∈t,i<ws.length)->Q x->x++bA ws s≠bA ws t:=by
 intro k;induction k with
 |zero=>
  intro s t x hk _ _ hx h;have hs:s=[]:=Bv.mp (by lia);have ht:t=[]:=Bv.mp (by lia);subst hs ht;have:x=[]:=by simpa [bA] using h
  subst this;exact C.none hx
 |succ k ih=>
  intro s t x hk hs ht hx h;cases t with
  |nil=>
   have:x=[]:=by
    have h':x++bA ws s=[]:=h;exact(Eh.mp h').1
   subst this;exact C.none hx
  |cons n t=>
   have hn:=ht n AS;have ht':∀i∈t,i<ws.length:=fun i hi=>ht i (AY _ hi);rw[bz] at h;rw[Bj] at hk;rcases HU h with ⟨y,h1,h2⟩|⟨y,h1,h2⟩
   ·exact ih s t y (by lia) hs ht' (C.within n x y hn hx h1) h2
   ·exact ih t s y (by lia) ht' hs (C.beyond n x y hn hx h1) h2.symm
theorem Io.ud{ws:List (List Nat)}{Q:List Nat->Prop}(C:Io ws Q)(hne:∀i,i<ws.length->ws.getD i []≠[]):UD ws:=by
 intro s;induction s with
 |nil=>
  intro t _ ht h;cases t with
  |nil=>rfl
  |cons j t=>
   rw[bz] at h;exact absurd (Eh.mp h.symm).1 (hne j (ht j AS))
 |cons i s ih=>
  intro t hs ht h;have hi:=hs i AS;have hs':∀i∈s,i<ws.length:=fun i hi=>hs i (AY _ hi);cases t with
  |nil=>
   rw[bz] at h;exact absurd (Eh.mp h).1 (hne i hi)
  |cons j t=>
   have hj:=ht j AS;have ht':∀i∈t,i<ws.length:=fun i hi=>ht i (AY _ hi);rw[bz,bz] at h;by_cases e:i=j
   ·subst e;rw[ih t hs' ht' (List.append_cancel_left h)]
   ·exfalso;rcases HU h with ⟨y,h1,h2⟩|⟨y,h1,h2⟩
    ·exact su C _ s t y (AH _) hs' ht' (C.first i j y hi hj e h1) h2
    ·exact su C _ t s y (AH _) ht' hs' (C.first j i y hj hi (EZ e) h1) h2.symm
def In (ws:List (List Nat))(x:List Nat):Prop:=∃t:List Nat,(∀i∈t,i<ws.length)/\bA ws t=x
def RR (ws:List (List Nat)):List Nat->List Nat->Prop
 |[],z=>z=[]
 |c::x,z=>RR ws x (c::z)\/(RR ws x []/\c::z∈ws)
theorem cF(ws:List (List Nat)):∀(x z:List Nat),RR ws x z↔(x=[]/\z=[])\/∃v y,v≠[]/\x=v.reverse++y/\RR ws y []/\v++z∈ws
 |[],z=>by
  refine⟨fun h=>.inl ⟨rfl,h⟩,fun h=>?_⟩;rcases h with ⟨_,h⟩|⟨v,y,h1,h2,_⟩
  ·exact h
  ·have:=congrArg List.length h2;rw[AK,BM] at this;have hv:0<v.length:=BP.mpr h1;simp only[Cd] at this;lia
 |c::x,z=>by
  constructor
  ·intro h;rcases h with h|⟨h1,h2⟩
   ·rcases (cF ws x (c::z)).mp h with ⟨_,h⟩|⟨v,y,h1,h2,h3,h4⟩
    ·cases h
    ·refine .inr ⟨v++[c],y,by simp,by rw[CG,h2];rfl,h3,?_⟩;rw[By];exact h4
   ·exact .inr ⟨[c],x,by simp,rfl,h1,h2⟩
  ·intro h;rcases h with ⟨h,_⟩|⟨v,y,h1,h2,h3,h4⟩
   ·cases h
   ·rcases Dk v with rfl|⟨u,d,rfl⟩
    ·exact absurd rfl h1
    ·rw[Dl] at h2 h4;rw[CG] at h2;have e1:c=d:=by injection h2
     have e2:x=u.reverse++y:=by injection h2
     subst e1;rw[By] at h4;by_cases hu:u=[]
     ·subst hu;exact .inr ⟨by rw[e2];exact h3,h4⟩
     ·exact .inl ((cF ws x (c::z)).mpr (.inr ⟨u,y,hu,e2,h3,h4⟩))
theorem In.snoc{ws:List (List Nat)}{x w:List Nat}(h:In ws x)(hw:w∈ws):In ws (x++w):=by
 obtain⟨t,h1,h2⟩:=h;obtain⟨i,hi,e⟩:=List.getElem_of_mem hw;refine⟨t++[i],fun j hj=>?_,?_⟩
 ·rcases AO.mp hj with hj|hj
  ·exact h1 j hj
  ·rw[AM.mp hj];exact hi
 ·unfold bA at h2 ⊢;rw[AU,Dm,h2];show x++(ws.getD i []++[])=_;rw[Bp,Ba,AL hi,<- e];rfl
theorem In.cases{ws:List (List Nat)}{x:List Nat}(h:In ws x):x=[]\/∃y w,w∈ws/\In ws y/\x=y++w:=by
 obtain⟨t,h1,h2⟩:=h;rcases Dk t with rfl|⟨s,i,rfl⟩
 ·exact .inl h2.symm
 ·rw[Dl] at h1 h2;have hi:=h1 i (by simp);refine .inr ⟨bA ws s,ws.getD i [],?_,⟨s,fun j hj=>h1 j (Bo _ hj),rfl⟩,?_⟩
  ·rw[Ba,AL hi];exact Bq hi
  ·rw[<- h2];unfold bA;rw[AU,Dm];show _++(ws.getD i []++[])=_;rw[Bp]
theorem vz{ws:List (List Nat)}(ne:∀w∈ws,w≠[]):∀(n:Nat)(x:List Nat),x.length<=n->(RR ws x []↔In ws x.reverse):=fun n=>by
 induction n with
 |zero=>
  intro x h;have:x=[]:=Bv.mp (Nat.le_zero.mp h);subst this;exact⟨fun _=>⟨[],by simp,rfl⟩,fun _=>rfl⟩
 |succ n ih=>
  intro x h;rw[cF];constructor
  ·rintro (⟨rfl,_⟩|⟨v,y,h1,h2,h3,h4⟩)
   ·exact⟨[],by simp,rfl⟩
   ·rw[Bp] at h4;have hv:0<v.length:=BP.mpr h1;have hl:y.length<=n:=by
     have:=congrArg List.length h2;rw[AK,BM] at this;lia
    rw[h2,CG,Do];exact((ih y hl).mp h3).snoc h4
  ·intro hi;rcases hi.cases with e|⟨y,w,hw,hy,e⟩
   ·exact .inl ⟨List.reverse_eq_nil_iff.mp e,rfl⟩
   ·have e':x=w.reverse++y.reverse:=by rw[<- CG,<- e,Do]
    have hv:0<w.length:=BP.mpr (ne w hw);have hl:y.reverse.length<=n:=by
     have:=congrArg List.length e';rw[AK,BM] at this;lia
    refine .inr ⟨w,y.reverse,ne w hw,e',(ih y.reverse hl).mpr (by rw[Do];exact hy),by rw[Bp];exact hw⟩
def tx:Nat->List (List Nat)
 |0=>[[]]
 |n+1=>(tx n).flatMap fun x=>[108::x,114::x]
theorem Jd:∀n,(tx n).length=2^n
 |0=>rfl
 |n+1=>by
  have:∀l:List (List Nat),(l.flatMap fun x=>[108::x,114::x]).length=2*l.length:=fun l=>by
   induction l with
   |nil=>rfl
   |cons a r ih=>
    rw[CH,AK,ih];show 2+2*r.length=2*(r.length+1);lia
  show((tx n).flatMap fun x=>[108::x,114::x]).length=_;rw[this,Jd n,Nat.pow_succ];lia
theorem FN:∀{n:Nat}{x:List Nat},x∈tx n↔x.length=n/\∀c∈x,c=108\/c=114
 |0,x=>by
  show x∈[[]]↔_;rw[AM];exact⟨fun h=>by rw[h];exact⟨rfl,fun c hc=>by cases hc⟩,fun h=>Bv.mp h.1⟩
 |n+1,x=>by
  show x∈(tx n).flatMap (fun x=>[108::x,114::x])↔_;rw[BQ];constructor
  ·rintro⟨y,hy,hx⟩;obtain⟨h1,h2⟩:=FN.mp hy;simp only[AN,Bt,or_false] at hx;rcases hx with rfl|rfl
   ·exact⟨by rw[Bj,h1],fun c hc=>(AN.mp hc).elim .inl (h2 c)⟩
   ·exact⟨by rw[Bj,h1],fun c hc=>(AN.mp hc).elim .inr (h2 c)⟩
  ·rintro⟨h1,h2⟩;cases x with
   |nil=>cases h1
   |cons c y=>
    refine⟨y,FN.mpr ⟨Nat.succ.inj h1,fun d hd=>h2 d (AY _ hd)⟩,?_⟩;rcases h2 c AS with rfl|rfl<;>simp
open Classical in
noncomputable def cnt(p:List Nat->Prop)(l:List (List Nat)):Nat:=(l.map fun x=>if p x then 1 else 0).sum
theorem gE{p q:List Nat->Prop}:∀{l:List (List Nat)},(∀x∈l,p x->q x)->cnt p l<=cnt q l
 |[],_=>AH _
 |x::r,h=>by
  have:=gE (l:=r) fun y hy=>h y (AY _ hy);have hx:=h x AS;unfold cnt at this ⊢;rw[AQ,Bf,AQ,Bf];by_cases hp:p x
  ·rw[EF hp,EF (hx hp)];lia
  ·rw[EE hp];lia
noncomputable def cT(ws:List (List Nat))(n:Nat):Nat:=cnt (fun x=>In ws x.reverse) (tx n)
def IsK (ws:List (List Nat))(k:List (List Nat))(x:List Nat):Prop:=∀z,z∈k↔RR ws x z
def Stp (ws:List (List Nat))(k:List (List Nat))(c:Nat)(k':List (List Nat)):Prop:=∀z,z∈k'↔(c::z∈k\/([]∈k/\c::z∈ws))
theorem IsK.stp{ws k k':List (List Nat)}{x:List Nat}{c:Nat}(h:IsK ws k x)(s:Stp ws k c k'):IsK ws k' (c::x):=fun z=>by
 rw[s z,h (c::z),h []];exact Iff.rfl
theorem IsK.start(ws:List (List Nat)):IsK ws [[]] []:=fun z=>by
 show z∈[[]]↔z=[]
 exact AM
def Can (C:List (List Nat)->Prop):Prop:=∀k k',C k->C k'->(∀z,z∈k↔z∈k')->k=k'
abbrev Kv:=List (List (List Nat)×Nat)
structure Tab(C:List (List Nat)->Prop)(ws:List (List Nat))(n:Nat)(kvs:Kv):Prop where
 nd:(kvs.map (·.1)).Nodup
 can:∀e∈kvs,C e.1
 val:∀e∈kvs,e.2=cnt (fun x=>IsK ws e.1 x) (tx n)
 all:∀x∈tx n,∃e∈kvs,IsK ws e.1 x
theorem jL(p:List Nat->Prop):cnt p []=0:=rfl
noncomputable def ind(p:Prop):Nat:=@ite Nat p (Classical.propDecidable p) 1 0
theorem aZ{p:Prop}(h:p):ind p=1:=@EF p (Classical.propDecidable p) h Nat 1 0
theorem aX{p:Prop}(h:¬p):ind p=0:=@EE p (Classical.propDecidable p) h Nat 1 0
theorem cnt_cons(p:List Nat->Prop)(x:List Nat)(l:List (List Nat)):cnt p (x::l)=ind (p x)+cnt p l:=rfl
theorem oP(p:List Nat->Prop)(a b:List (List Nat)):cnt p (a++b)=cnt p a+cnt p b:=by
 unfold cnt;rw[AU,CC]
theorem bT{p q:List Nat->Prop}{l:List (List Nat)}(h:∀x∈l,p x↔q x):cnt p l=cnt q l:=Nat.le_antisymm (gE fun x hx=>(h x hx).mp) (gE fun x hx=>(h x hx).mpr)
theorem kA{F:List (List Nat)->Prop}{P:List (List Nat)->Prop}:∀{ks:List (List (List Nat))},ks.Nodup->(∀a∈ks,∀b∈ks,F a->F b->a=b)->(ks.map fun k=>ind (P k)*ind (F k)).sum=ind (∃k∈ks,P k/\F k)
 |[],_,_=>by rw[aX (by simp)];rfl
 |k::r,nd,u=>by
  obtain⟨h1,h2⟩:=BK.mp nd;have ih:=kA (F:=F) (P:=P) (ks:=r) h2 fun a ha b hb=>u a (AY _ ha) b (AY _ hb);rw[AQ,Bf,ih];by_cases hF:F k
  ·have none':¬∃k'∈r,P k'/\F k':=fun⟨k',hk,_,hf⟩=>h1 (by rw[u k AS k' (AY _ hk) hF hf];exact hk);rw[aX none',aZ hF];by_cases hP:P k
   ·rw[aZ hP,aZ ⟨k,AS,hP,hF⟩]
   ·rw[aX hP,aX];rintro⟨k',hk,hp,hf⟩;rcases AN.mp hk with rfl|hk
    ·exact hP hp
    ·exact none' ⟨k',hk,hp,hf⟩
  ·rw[aX hF,Nat.mul_zero,Cg];by_cases h:∃k'∈r,P k'/\F k'
   ·obtain⟨k',hk,z⟩:=h;rw[aZ ⟨k',hk,z⟩,aZ ⟨k',AY _ hk,z⟩]
   ·rw[aX h,aX];rintro⟨k',hk,hp,hf⟩;rcases AN.mp hk with rfl|hk
    ·exact hF hf
    ·exact h ⟨k',hk,hp,hf⟩
theorem bF{α:Type}(f:α->Nat):∀l:List α,(∀a∈l,f a=0)->(l.map f).sum=0
 |[],_=>rfl
 |a::r,h=>by rw[AQ,Bf,h a AS,bF f r fun b hb=>h b (AY _ hb)]
theorem dz{α:Type}(f g:α->Nat):∀l:List α,(l.map fun a=>f a+g a).sum=(l.map f).sum+(l.map g).sum
 |[]=>rfl
 |a::r=>by rw[AQ,Bf,dz f g r,AQ,Bf,AQ,Bf];lia
theorem eL{F:List (List Nat)->List Nat->Prop}{P:List (List Nat)->Prop}{ks:List (List (List Nat))}(nd:ks.Nodup)(u:∀x,∀a∈ks,∀b∈ks,F a x->F b x->a=b):∀l:List (List Nat),(ks.map fun k=>ind (P k)*cnt (F k) l).sum=cnt (fun x=>∃k∈ks,P k/\F k x) l
 |[]=>bF _ ks fun k _=>by rw[jL,Nat.mul_zero]
 |x::l=>by
  have ih:=eL (F:=F) (P:=P) nd u l;have o:=kA (F:=fun k=>F k x) (P:=P) nd (u x);rw[cnt_cons,<- ih,<- o,<- dz];refine congrArg List.sum (Bz fun k _=>?_);rw[cnt_cons,Nat.mul_add]
theorem IsK.uniq{C:List (List Nat)->Prop}(hC:Can C){ws a b:List (List Nat)}{x:List Nat}(ha:C a)(hb:C b)(h1:IsK ws a x)(h2:IsK ws b x):a=b:=hC a b ha hb fun z=>(h1 z).trans (h2 z).symm
theorem Tab.uniq{C:List (List Nat)->Prop}{ws:List (List Nat)}{n:Nat}{kvs:Kv}(hC:Can C)(h:Tab C ws n kvs){a b:List (List Nat)}{x:List Nat}(ha:a∈kvs.map (·.1))(hb:b∈kvs.map (·.1))(h1:IsK ws a x)(h2:IsK ws b x):a=b:=by
 obtain⟨ea,ha',rfl⟩:=AJ.mp ha;obtain⟨eb,hb',rfl⟩:=AJ.mp hb;exact IsK.uniq hC (h.can _ ha') (h.can _ hb') h1 h2
theorem Tab.made{C:List (List Nat)->Prop}{ws:List (List Nat)}{n:Nat}{kvs:Kv}(hC:Can C)(h:Tab C ws n kvs)(ne:∀w∈ws,w≠[]):(kvs.map fun e=>ind ([]∈e.1)*e.2).sum=cT ws n:=by
 have e1:(kvs.map fun e=>ind ([]∈e.1)*e.2)=(kvs.map (·.1)).map fun k=>ind ([]∈k)*cnt (IsK ws k) (tx n):=by
  rw[Bn];refine Bz fun e he=>?_;show _=ind ([]∈e.1)*cnt (IsK ws e.1) (tx n);rw[h.val e he]
 rw[e1,eL (F:=IsK ws) (P:=fun k=>[]∈k) h.nd fun x a ha b hb h1 h2=>h.uniq hC ha hb h1 h2];refine bT fun x hx=>?_;rw[<- vz ne x.length x (AH _)];constructor
 ·rintro⟨k,_,hk,hf⟩;exact(hf []).mp hk
 ·intro hr;obtain⟨e,he,hf⟩:=h.all x hx;exact⟨e.1,AJ.mpr ⟨e,he,rfl⟩,(hf []).mpr hr,hf⟩
theorem Tab.start{C:List (List Nat)->Prop}(ws:List (List Nat))(h:C [[]]):Tab C ws 0 [([[]],1)]:=by
 refine⟨by simp,fun e he=>?_,fun e he=>?_,fun x hx=>?_⟩
 ·rw[AM.mp he];exact h
 ·rw[AM.mp he];have:cnt (fun x=>IsK ws [[]] x) (tx 0)=1+0:=by
   rw[show tx 0=[[]] from rfl,cnt_cons,jL,aZ (IsK.start ws)]
  exact this.symm
 ·refine⟨_,AM.mpr rfl,?_⟩;have:x=[]:=Bv.mp (FN.mp hx).1;rw[this];exact IsK.start ws
theorem gu(p:List Nat->Prop):∀l:List (List Nat),cnt p (l.flatMap fun x=>[108::x,114::x])=cnt (fun x=>p (108::x)) l+cnt (fun x=>p (114::x)) l
 |[]=>rfl
 |x::r=>by
  rw[CH,oP,gu p r];show ind (p (108::x))+(ind (p (114::x))+0)+(cnt (fun x=>p (108::x)) r+cnt (fun x=>p (114::x)) r)=(ind (p (108::x))+cnt (fun x=>p (108::x)) r)+(ind (p (114::x))+cnt (fun x=>p (114::x)) r)
  lia
theorem Tab.step{C:List (List Nat)->Prop}{ws:List (List Nat)}{n:Nat}{kvs kvs':Kv}{f:List (List Nat)->Nat->List (List Nat)}(hC:Can C)(h:Tab C ws n kvs)(hf:∀e∈kvs,∀c,c=108\/c=114->C (f e.1 c)/\Stp ws e.1 c (f e.1 c))
  (nd:(kvs'.map (·.1)).Nodup)(hk:∀k,k∈kvs'.map (·.1)↔∃e∈kvs,f e.1 108=k\/f e.1 114=k)(hv:∀e'∈kvs',e'.2=(kvs.map fun e=>ind (f e.1 108=e'.1)*e.2+ind (f e.1 114=e'.1)*e.2).sum):Tab C ws (n+1) kvs':=by
 have hcan:∀k,k∈kvs'.map (·.1)->C k:=fun k hk'=>by
  obtain⟨e,he,z⟩:=(hk k).mp hk';rcases z with rfl|rfl
  ·exact(hf e he 108 (.inl rfl)).1
  ·exact(hf e he 114 (.inr rfl)).1
 refine⟨nd,fun e he=>hcan _ (AJ.mpr ⟨e,he,rfl⟩),fun e' he'=>?_,fun x hx=>?_⟩
 ·have hc':=hcan _ (AJ.mpr ⟨e',he',rfl⟩);rw[hv e' he',dz];show _=cnt (fun x=>IsK ws e'.1 x) ((tx n).flatMap fun x=>[108::x,114::x]);rw[gu];have one:∀c,c=108\/c=114->(kvs.map fun e=>ind (f e.1 c=e'.1)*e.2).sum=cnt (fun x=>IsK ws e'.1 (c::x)) (tx n):=fun c hc=>by
   have e1:(kvs.map fun e=>ind (f e.1 c=e'.1)*e.2)=(kvs.map (·.1)).map fun k=>ind (f k c=e'.1)*cnt (IsK ws k) (tx n):=by
    rw[Bn];refine Bz fun e he=>?_;show _=ind (f e.1 c=e'.1)*cnt (IsK ws e.1) (tx n);rw[h.val e he]
   rw[e1,eL (F:=IsK ws) (P:=fun k=>f k c=e'.1) h.nd fun x a ha b hb h1 h2=>h.uniq hC ha hb h1 h2];refine bT fun x hx=>?_;constructor
   ·rintro⟨k,hk',e2,hi⟩;obtain⟨e,he,rfl⟩:=AJ.mp hk';rw[<- e2];exact hi.stp (hf e he c hc).2
   ·intro hi;obtain⟨e,he,hx'⟩:=h.all x hx;obtain⟨h1,h2⟩:=hf e he c hc;exact⟨e.1,AJ.mpr ⟨e,he,rfl⟩,IsK.uniq hC h1 hc' (hx'.stp h2) hi,hx'⟩
  rw[one 108 (.inl rfl),one 114 (.inr rfl)]
 ·obtain⟨y,hy,hx'⟩:=BQ.mp (show x∈(tx n).flatMap fun x=>[108::x,114::x] from hx);obtain⟨e,he,hi⟩:=h.all y hy;simp only[AN,Bt,or_false] at hx';rcases hx' with rfl|rfl
  ·obtain⟨e',h1,h2⟩:=AJ.mp ((hk (f e.1 108)).mpr ⟨e,he,.inl rfl⟩);exact⟨e',h1,by rw[h2];exact hi.stp (hf e he 108 (.inl rfl)).2⟩
  ·obtain⟨e',h1,h2⟩:=AJ.mp ((hk (f e.1 114)).mpr ⟨e,he,.inr rfl⟩);exact⟨e',h1,by rw[h2];exact hi.stp (hf e he 114 (.inr rfl)).2⟩
theorem GV:∀(U:List (List Nat)){l:List (List Nat)},l.Nodup->(∀x∈l,x∈U)->l.length<=U.length
 |[],[],_,_=>AH _
 |[],a::r,_,h=>absurd (h a AS) (by simp)
 |u::U,l,nd,h=>by
  have h1:=GV U (l:=l.filter fun x=>decide (x≠u)) (nd.sublist Ei) fun x hx=>by
   obtain⟨h2,h3⟩:=BI.mp hx;rcases AN.mp (h x h2) with e|e
   ·exact absurd e (EK h3)
   ·exact e
  have h2:l.length<=(l.filter fun x=>decide (x≠u)).length+1:=by
   clear h1 h;induction l with
   |nil=>exact Bi _
   |cons a r ih=>
    obtain⟨n1,n2⟩:=BK.mp nd;by_cases e:a=u
    ·have e2:r.filter (fun x=>decide (x≠u))=r:=List.filter_eq_self.mpr fun x hx=>EG fun z=>n1 (by rw[e,<- z];exact hx);rw[Bs,EE (by simp[e]),e2];exact AH _
    ·rw[Bs,EF (by simp[e]),Bj,Bj];exact Ff (ih n2)
  rw[Bj];lia
def Ps (ws:List (List Nat))(z:List Nat):Prop:=∃u,u≠[]/\u++z∈ws
def Few (ws:List (List Nat)):Prop:=∃U:List (List Nat),U.length<=63/\∀z,Ps ws z->z∈U
def om (w:List Nat):List (List Nat):=(List.range (w.length-1)).map fun i=>w.drop (i+1)
theorem pK(w:List Nat):(om w).length=w.length-1:=by unfold om;rw[AI,BG]
theorem HG:∀ws:List (List Nat),(∀w∈ws,1<=w.length)->(ws.flatMap om).length+ws.length=(ws.map List.length).sum
 |[],_=>rfl
 |w::r,h=>by
  have ih:=HG r fun x hx=>h x (AY _ hx);have hw:=h w AS;rw[CH,AK,pK,Bj,AQ,Bf];lia
theorem wc{ws:List (List Nat)}(h1:∀w∈ws,1<=w.length)(hs:(ws.flatMap om).length<=62):Few ws:=by
 refine⟨[]::ws.flatMap om,by rw[Bj];lia,fun z hz=>?_⟩;obtain⟨u,hu,hw⟩:=hz;by_cases e:z=[]
 ·rw[e];exact AS
 ·refine AY _ (BQ.mpr ⟨_,hw,AJ.mpr ⟨u.length-1,BC.mpr ?_,?_⟩⟩)
  ·have a:=BP.mpr hu;have b:=BP.mpr e;rw[AK];lia
  ·have a:=BP.mpr hu;rw[show u.length-1+1=u.length by lia,BZ]
theorem uC{ws:List (List Nat)}(h1:∀w∈ws,1<=w.length)(h12:∀w∈ws,w.length<=12)(hs:(ws.map List.length).sum<=65):Few ws:=by
 refine wc h1 ?_;have e:=HG ws h1;by_cases h:ws.length<=2
 ·have:(ws.map List.length).sum<=12*ws.length:=by
   clear e hs h h1;induction ws with
   |nil=>exact AH _
   |cons a r ih=>
    have:=ih fun w hw=>h12 w (AY _ hw);have:=h12 a AS;rw[AQ,Bf,Bj];lia
  lia
 ·lia
noncomputable def cd(ws:List (List Nat))(x:List Nat):List Nat:=x.take 11++((List.range 11).map fun j=>@ite Nat (RR ws (x.drop (j+1)) []) (Classical.propDecidable _) 108 114)++[@ite Nat (RR ws x []) (Classical.propDecidable _) 108 114]
theorem sP(p:Prop):@ite Nat p (Classical.propDecidable _) 108 114=108\/@ite Nat p (Classical.propDecidable _) 108 114=114:=by
 by_cases h:p
 ·exact .inl (@EF p (Classical.propDecidable p) h Nat 108 114)
 ·exact .inr (@EE p (Classical.propDecidable p) h Nat 108 114)
theorem qh{p q:Prop}(h:@ite Nat p (Classical.propDecidable _) 108 114=@ite Nat q (Classical.propDecidable _) 108 114)(hp:p):q:=by
 rw[@EF p (Classical.propDecidable p) hp Nat 108 114] at h;by_cases hq:q
 ·exact hq
 ·rw[@EE q (Classical.propDecidable q) hq Nat 108 114] at h;cases h
theorem sW{ws:List (List Nat)}{n:Nat}{x:List Nat}(h:x∈tx n):cd ws x∈tx (min 11 n+12):=by
 obtain⟨h1,h2⟩:=FN.mp h;refine FN.mpr ⟨?_,fun c hc=>?_⟩
 ·unfold cd;rw[AK,AK,AI,BG,AZ,h1];show min 11 n+11+1=_;lia
 ·unfold cd at hc;rcases AO.mp hc with hc|hc
  ·rcases AO.mp hc with hc|hc
   ·exact h2 c (Cs hc)
   ·obtain⟨j,_,rfl⟩:=AJ.mp hc;exact sP _
  ·rw[AM.mp hc];exact sP _
theorem oz{ws:List (List Nat)}(h12:∀w∈ws,w.length<=12){n:Nat}{x y:List Nat}(hx:x∈tx n)(hy:y∈tx n)(e:cd ws x=cd ws y){z:List Nat}(h:RR ws x z):RR ws y z:=by
 have lx:=(FN.mp hx).1;have ly:=(FN.mp hy).1;unfold cd at e;obtain⟨e,e3⟩:=Dp e (by simp only[AK,AZ,AI,BG];lia);obtain⟨e1,e2⟩:=Dp e (by simp only[AZ];lia);by_cases hz:z=[]
 ·subst hz;exact qh (List.cons.inj e3).1 h
 rcases (cF ws x z).mp h with ⟨_,q⟩|⟨v,t,h1,h2,h3,h4⟩
 ·exact absurd q hz
 have lv:=BP.mpr h1;have lz:=BP.mpr hz;have l12:=h12 _ h4;rw[AK] at l12;have ev:v.reverse=x.take v.length:=by rw[h2,List.take_left' (BM)]
 have et:t=x.drop v.length:=by rw[h2,List.drop_left' (BM)]
 refine(cF ws y z).mpr (.inr ⟨v,y.drop v.length,h1,?_,?_,h4⟩)
 ·have:y.take v.length=x.take v.length:=by
   have a:(x.take 11).take v.length=x.take v.length:=by rw[Ca];congr 1;lia
   have b:(y.take 11).take v.length=y.take v.length:=by rw[Ca];congr 1;lia
   rw[<- a,<- b,e1]
  rw[ev,<- this,CV]
 ·have hj:v.length-1<11:=by lia
  have ej:v.length-1+1=v.length:=by lia
  have g:=congrArg (fun l:List Nat=>l[v.length-1]?) e2;simp only[AW,Dg hj,Option.map_some] at g;have g':=qh (p:=RR ws (x.drop (v.length-1+1)) []) (EM g) (by rw[ej,<- et];exact h3);rw[ej] at g';exact g'
theorem kD{C:List (List Nat)->Prop}(hC:Can C){ws:List (List Nat)}(h12:∀w∈ws,w.length<=12){n:Nat}{ks:List (List (List Nat))}(nd:ks.Nodup)(h:∀k∈ks,C k/\∃x∈tx n,IsK ws k x):ks.length<=8388608:=by
 have hf:∀k:List (List Nat),∃c:List Nat,k∈ks->∃x∈tx n,IsK ws k x/\cd ws x=c:=fun k=>by
  by_cases hk:k∈ks
  ·obtain⟨_,x,h1,h2⟩:=h k hk;exact⟨_,fun _=>⟨x,h1,h2,rfl⟩⟩
  ·exact⟨[],fun q=>absurd q hk⟩
 have key:=fun k=>(hf k).choose_spec;generalize hg:(fun k=>(hf k).choose)=f at key;have key':∀k∈ks,∃x∈tx n,IsK ws k x/\cd ws x=f k:=fun k hk=>by rw[<- hg];exact(hf k).choose_spec hk
 have inj:(ks.map f).Nodup:=by
  refine CD.mpr (nd.imp_of_mem fun {a b} ha hb ne e=>ne ?_);obtain⟨x,hx,ix,cx⟩:=key' a ha;obtain⟨y,hy,iy,cy⟩:=key' b hb;have ec:cd ws x=cd ws y:=by rw[cx,cy,e]
  exact hC a b (h a ha).1 (h b hb).1 fun z=>by
   rw[ix z,iy z];exact⟨oz h12 hx hy ec,oz h12 hy hx ec.symm⟩
 have:=GV (tx (min 11 n+12)) inj fun c hc=>by
  obtain⟨k,hk,rfl⟩:=AJ.mp hc;obtain⟨x,hx,_,cx⟩:=key' k hk;rw[<- cx];exact sW hx
 rw[AI,Jd] at this;exact AX this (AX (Dq (by decide) (show min 11 n+12<=23 by lia)) (by decide))
def dS (T:Kv)(k:List (List Nat)):Option Nat:=(T.find? fun e=>decide (e.1=k)).map (·.2)
def uT (T:Kv)(k:List (List Nat))(m:Nat):Kv:=if (T.any fun e=>decide (e.1=k))=true then T.map (fun e=>if e.1=k then (e.1,m) else e) else T++[(k,m)]
def uS (T:Kv)(s:List (List Nat)×Nat):Kv:=uT T s.1 ((dS T s.1).getD 0+s.2)
structure Gx(S:Kv)(T:Kv):Prop where
 nd:(T.map (·.1)).Nodup
 ks:∀k,k∈T.map (·.1)↔k∈S.map (·.1)
 val:∀e∈T,e.2=(S.map fun s=>ind (s.1=e.1)*s.2).sum
theorem Gx.nil:Gx [] []:=⟨DS,fun k=>Iff.rfl,fun e he=>by cases he⟩
theorem fo{T:Kv}{k:List (List Nat)}{m:Nat}(h:dS T k=some m):(k,m)∈T:=by
 unfold dS at h;obtain⟨e,he,rfl⟩:=BH.mp h;have:=EK (p:=e.1=k) (List.find?_some (p:=fun(e:List (List Nat)×Nat)=>decide (e.1=k)) he);rw[<- this];exact Ew he
theorem ik{T:Kv}{k:List (List Nat)}(h:dS T k=none):k∉T.map (·.1):=fun hk=>by
 obtain⟨e,he,rfl⟩:=AJ.mp hk;unfold dS at h;have:=List.find?_eq_none.mp (Option.map_eq_none_iff.mp h) e he;exact this (EG rfl)
theorem Hq:∀{T:Kv},(T.map (·.1)).Nodup->∀{k:List (List Nat)}{a b:Nat},(k,a)∈T->(k,b)∈T->a=b
 |[],_,_,_,_,h,_=>by cases h
 |e::r,nd,k,a,b,h1,h2=>by
  obtain⟨n1,n2⟩:=BK.mp (show(e.1::r.map (·.1)).Nodup from nd);rcases AN.mp h1 with q1|q1
  ·rcases AN.mp h2 with q2|q2
   ·have:=q1.trans q2.symm;exact(Prod.mk.inj this).2
   ·exact absurd (AJ.mpr ⟨_,q2,rfl⟩) (by rw[<- q1] at n1;exact n1)
  ·rcases AN.mp h2 with q2|q2
   ·exact absurd (AJ.mpr ⟨_,q1,rfl⟩) (by rw[<- q2] at n1;exact n1)
   ·exact Hq n2 q1 q2
theorem oM(T:Kv)(k:List (List Nat)):(T.any fun e=>decide (e.1=k))=true↔k∈T.map (·.1):=by
 rw[BO,AJ];refine⟨fun hq99=>?_,fun⟨e,h,q⟩=>⟨e,h,EG q⟩⟩;obtain⟨e,h,q⟩:=hq99;exact⟨e,h,EK q⟩
theorem iL(S:Kv)(s:List (List Nat)×Nat)(k:List (List Nat)):((S++[s]).map fun t=>ind (t.1=k)*t.2).sum=(S.map fun t=>ind (t.1=k)*t.2).sum+ind (s.1=k)*s.2:=by
 rw[AU,CC];simp
theorem Gx.zero{S:Kv}{k:List (List Nat)}(h:k∉S.map (·.1)):(S.map fun t=>ind (t.1=k)*t.2).sum=0:=by
 refine bF _ S fun t ht=>?_;rw[aX (fun e=>h (by rw[<- e];exact AJ.mpr ⟨t,ht,rfl⟩)),Dt]
theorem Gx.add{S T:Kv}(h:Gx S T)(s:List (List Nat)×Nat):Gx (S++[s]) (uS T s):=by
 unfold uS uT;by_cases hk:s.1∈T.map (·.1)
 ·rw[EF ((oM T s.1).mpr hk)];have em:(T.map (fun e=>if e.1=s.1 then (e.1,(dS T s.1).getD 0+s.2) else e)).map (·.1)=T.map (·.1):=by
   rw[Bn];refine Bz fun e _=>?_;show(if e.1=s.1 then (e.1,(dS T s.1).getD 0+s.2) else e).1=e.1;split<;>rfl
  refine⟨by rw[em];exact h.nd,fun k=>?_,fun e he=>?_⟩
  ·rw[em,h.ks k,AU,AO]
   exact⟨.inl,fun q=>q.elim id fun q=>by
    have:k=s.1:=by simpa using q
    rw[this];exact(h.ks _).mp hk⟩
  ·obtain⟨e0,h0,rfl⟩:=AJ.mp he;rw[iL];by_cases q:e0.1=s.1
   ·rw[EF q];show(dS T s.1).getD 0+s.2=(S.map fun t=>ind (t.1=e0.1)*t.2).sum+ind (s.1=e0.1)*s.2;rw[<- h.val e0 h0,aZ q.symm,Nat.one_mul];cases hg:dS T s.1 with
    |none=>exact absurd hk (ik hg)
    |some m=>
     have:=fo hg;rw[<- q] at this;rw[Hq h.nd this (show(e0.1,e0.2)∈T from h0)];rfl
   ·rw[EE q,aX (fun z=>q z.symm),Dt,Nat.add_zero];exact h.val e0 h0
 ·rw[EE (fun z=>hk ((oM T s.1).mp z))];have hn:dS T s.1=none:=by
   cases hg:dS T s.1 with
   |none=>rfl
   |some m=>exact absurd (AJ.mpr ⟨_,fo hg,rfl⟩) hk
  rw[hn];refine⟨?_,fun k=>?_,fun e he=>?_⟩
  ·rw[AU];refine Du.mpr ⟨h.nd,by simp,fun a ha b hb e=>?_⟩;have:b=s.1:=by simpa using hb
   rw[e,this] at ha;exact hk ha
  ·rw[AU,AU,AO,AO,h.ks k];exact Iff.rfl
  ·rw[iL];rcases AO.mp he with he|he
   ·have ne:s.1≠e.1:=fun q=>hk (by rw[q];exact AJ.mpr ⟨e,he,rfl⟩);rw[aX ne,Dt,Nat.add_zero];exact h.val e he
   ·rw[AM.mp he];show 0+s.2=(S.map fun t=>ind (t.1=s.1)*t.2).sum+ind (s.1=s.1)*s.2;rw[Gx.zero (fun q=>hk ((h.ks _).mpr q)),aZ rfl,Nat.one_mul]
def bR (f:List (List Nat)->Nat->List (List Nat))(T:Kv):Kv:=T.flatMap fun e=>[(f e.1 108,e.2),(f e.1 114,e.2)]
theorem fj(f:List (List Nat)->Nat->List (List Nat))(k:List (List Nat)):∀T:Kv,((bR f T).map fun t=>ind (t.1=k)*t.2).sum=(T.map fun e=>ind (f e.1 108=k)*e.2+ind (f e.1 114=k)*e.2).sum
 |[]=>rfl
 |e::r=>by
  have ih:=fj f k r;unfold bR at ih ⊢;rw[CH,AU,CC,ih,AQ,Bf];simp
theorem iQ(f:List (List Nat)->Nat->List (List Nat))(T:Kv)(k:List (List Nat)):k∈(bR f T).map (·.1)↔∃e∈T,f e.1 108=k\/f e.1 114=k:=by
 unfold bR;constructor
 ·intro h;obtain⟨s,hs,rfl⟩:=AJ.mp h;obtain⟨e,he,q⟩:=BQ.mp hs;simp only[AN,Bt,or_false] at q;rcases q with rfl|rfl
  ·exact⟨e,he,.inl rfl⟩
  ·exact⟨e,he,.inr rfl⟩
 ·rintro⟨e,he,q|q⟩
  ·exact AJ.mpr ⟨(f e.1 108,e.2),BQ.mpr ⟨e,he,by simp⟩,q⟩
  ·exact AJ.mpr ⟨(f e.1 114,e.2),BQ.mpr ⟨e,he,by simp⟩,q⟩
theorem Tab.next{C:List (List Nat)->Prop}{ws:List (List Nat)}{n:Nat}{T T':Kv}{f:List (List Nat)->Nat->List (List Nat)}(hC:Can C)(h:Tab C ws n T)(hf:∀e∈T,∀c,c=108\/c=114->C (f e.1 c)/\Stp ws e.1 c (f e.1 c))(s:Gx (bR f T) T'):Tab C ws (n+1) T':=
 h.step hC hf s.nd (fun k=>(s.ks k).trans (iQ f T k)) fun e he=>(s.val e he).trans (fj f e.1 T)
def Lft (ws:List (List Nat))(n:Nat)(T:Kv):Prop:=∀e∈T,∃x∈tx n,IsK ws e.1 x
def Hop (C:List (List Nat)->Prop)(ws:List (List Nat))(T S:Kv):Prop:=∀t∈S,∃e∈T,∃c,(c=108\/c=114)/\C t.1/\Stp ws e.1 c t.1
theorem Gx.left{C:List (List Nat)->Prop}{ws:List (List Nat)}{n:Nat}{T S T':Kv}(hx:Lft ws n T)(s:Gx S T')(hS:Hop C ws T S):∀k∈T'.map (·.1),C k/\∃x∈tx (n+1),IsK ws k x:=fun k hk=>by
 obtain⟨t,ht,rfl⟩:=AJ.mp ((s.ks k).mp hk);obtain⟨e,he,c,hc,h1,h2⟩:=hS t ht;obtain⟨x,hx1,hx2⟩:=hx e he;obtain⟨l1,l2⟩:=FN.mp hx1;exact⟨h1,c::x,FN.mpr ⟨by rw[Bj,l1],fun d hd=>(AN.mp hd).elim (fun q=>by rw[q];exact hc) (l2 d)⟩,hx2.stp h2⟩
theorem Gx.few{C:List (List Nat)->Prop}(hC:Can C){ws:List (List Nat)}(h12:∀w∈ws,w.length<=12){n:Nat}{T S T':Kv}(hx:Lft ws n T)(s:Gx S T')(hS:Hop C ws T S):T'.length<=8388608:=by
 have:=kD hC h12 (n:=n+1) s.nd (s.left hx hS);rw[AI] at this;exact this
theorem jI(p:List (List Nat)×Nat->Bool):∀T:Kv,((T.filter p).map (·.2)).sum=(T.map fun e=>ind (p e=true)*e.2).sum
 |[]=>rfl
 |e::r=>by
  have ih:=jI p r;rw[Bs,AQ,Bf,<- ih];by_cases h:p e=true
  ·rw[EF h,aZ h,AQ,Bf,Nat.one_mul]
  ·rw[EE h,aX h,Dt,Cg]
end KM
namespace L2
open PySem PySem.Spec PyProof.Rows
theorem Ib:bootBuiltins "int"=some (.type "int"):=by decide +kernel
theorem Jc:bootBuiltins "bool"=some (.type "bool"):=by decide +kernel
theorem GB:bootBuiltins "tuple"=some (.type "tuple"):=by decide +kernel
theorem GJ:bootBuiltins "list"=some (.type "list"):=by decide +kernel
theorem JV:bootBuiltins "len"=some (.builtin "len"):=by decide +kernel
theorem FD:bootBuiltins "isinstance"=some (.builtin "isinstance"):=by decide +kernel
theorem KQ:bootBuiltins "all"=some (.builtin "all"):=by decide +kernel
theorem KG:bootBuiltins "max"=some (.builtin "max"):=by decide +kernel
theorem Iv:bootBuiltins "min"=some (.builtin "min"):=by decide +kernel
theorem aq{X:Cx}{scope:Scope}{ts cap:List Str}{js:List Nat}(h1:scope.kind=.function)(h2:(scope.names.all fun y=>y.2 != .cell)=true)(h3:(scope.names.all fun y=>y.2 != .local||scope.names.lookup y.1==some .local)=true)
  (h4:(scope.names.all fun y=>y.2 != .free||X.env.kindOf y.1==some .cell||X.env.kindOf y.1==some .free)=true)(h5:cap.map some=js.map fun j=>X.N[j]?)(h6:(cap.all fun y=>scope.names.lookup y==some .free)=true)(h7:(ts++cap).Nodup):Fu X scope ts cap js where
 kind:=h1
 Gu:=fun y hy e=>by have:=BU.mp h2 y hy;rw[e] at this;cases this
 names:=fun y hy e=>by
  have:=BU.mp h3 y hy;rw[e] at this;simpa using this
 free:=fun y hy e=>by
  have:=BU.mp h4 y hy;rw[e] at this;simpa using this
 Kg:=h5
 Lr:=fun y hy=>by
  have:=BU.mp h6 y hy;simpa using this
 nd:=h7
theorem ba{env:Env}{c j pos}{es:List Expr}:starEach (.Constant c j pos::es) env=(false,eval (.Constant c j pos) env)::starEach es env:=rfl
theorem aC{env:Env}{x pos}{es:List Expr}:starEach (.Name x pos::es) env=(false,eval (.Name x pos) env)::starEach es env:=rfl
theorem eV{env:Env}{a b c pos}{es:List Expr}:starEach (.Call a b c pos::es) env=(false,eval (.Call a b c pos) env)::starEach es env:=rfl
def strOf:Expr->Option Str
 |.Constant (.str x) _ _=>some x
 |_=>none
theorem nG{X:Cx}:∀{es:List Expr}{xs:List Str},es.map strOf=xs.map some->PA X es (fun _ H Q=>Q (xs.map V.str) H)
 |[],[],_=>FE
 |[],_::_,h=>by cases h
 |_::_,[],h=>by cases h
 |e::es,x::xs,h=>by
  rw[AQ,AQ] at h;injection h with h1 h2;have ih:=nG (X:=X) (es:=es) (xs:=xs) h2;unfold strOf at h1;split at h1
  ·cases h1;exact Fn aU ih ba
  ·cases h1
structure DD where
 f:Addr
 fd:FuncData
structure Def(K:W.Frag)(mg:Str->Option Value)(x:Str)(st:Stmt)(ps:List Str)(d:DD):Prop where
 fn:Fun K x x st d.f d.fd
 m:mg x=some (.ref d.f)
 b:Binds K d.fd ps []
def hid (p:Addr)(H:Hp):Hp:=fun b=>if b=p then none else H b
theorem cm{p b:Addr}{H:Hp}(h:b≠p):hid p H b=H b:=EE h
theorem aH(p:Addr)(H:Hp):Fo (hid p H) H:=fun b o e=>by
 unfold hid at e;split at e
 ·cases e
 ·exact e
theorem Fo.hid{p:Addr}{H H':Hp}(e:Fo H H'):Fo (hid p H) (L2.hid p H'):=fun b o q=>by
 unfold L2.hid at q ⊢;split at q
 ·cases q
 ·rename_i h;rw[EE h];exact e b o q
def DOk (a b c:Int):Prop:=1<=b/\b<=2147483648/\1000000000<=c/\c<=2147483647
def Ds (H:Hp)(p:Addr):Prop:=∃a b c,H p=some (.lst [.int a,.int b,.int c])/\DOk a b c
structure Dr(p:Addr)(H H':Hp):Prop where
 same:Fo (hid p H) (hid p H')
 ds:Ds H' p
theorem Dr.trans{p:Addr}{H H1 H2:Hp}(a:Dr p H H1)(b:Dr p H1 H2):Dr p H H2:=⟨a.same.trans b.same,b.ds⟩
theorem Ds.same{p:Addr}{H H':Hp}(h:Ds H p)(e:Fo H H'):Ds H' p:=by
 obtain⟨a,b,c,q,r⟩:=h;exact⟨a,b,c,e _ _ q,r⟩
theorem Dr.of_same{p:Addr}{H H':Hp}(h:Ds H p)(e:Fo H H'):Dr p H H':=⟨e.hid,h.same e⟩
theorem Dr.JF{p:Addr}{H:Hp}{a b c:Int}(h:DOk a b c):Dr p H (upd H p (.lst [.int a,.int b,.int c])):=
 ⟨fun q o e=>by
  unfold hid at e ⊢;split at e
  ·cases e
  ·rename_i n;rw[EE n,ai n];exact e,a,b,c,ae,h⟩
theorem Ds.ne{p q:Addr}{H:Hp}(h:Ds H p)(n:H q=none):p≠q:=by
 obtain⟨a,b,c,e,_⟩:=h;exact aB e n
theorem Dr.new{p q:Addr}{H:Hp}(h:Ds H p)(n:H q=none)(o:HO):Dr p H (upd H q o):=Dr.of_same h (af n o)
theorem bG{p q:Addr}{H:Hp}(h:Ds H p)(n:H q=none)(o:HO):hid p (upd H q o) q=some o:=by
 rw[cm (EZ (h.ne n)),ae]
structure Tb where
 a:Int
 b:Int
 c:Int
 d:Int
def Tb.vs(t:Tb):List V:=[.int t.a,.int t.b,.int t.c,.int t.d]
def Tb.mul(s t:Tb):Tb:=⟨s.a*t.a+s.b*t.c,s.a*t.b+s.b*t.d,s.c*t.a+s.d*t.c,s.c*t.b+s.d*t.d⟩
def Tb.one:Tb:=⟨1,0,0,1⟩
def Tb.worth(t:Tb):Int:=t.a*t.d-t.b*t.c
def Tb.dat(t:Tb):PyData:=.tuple [.int t.a,.int t.b,.int t.c,.int t.d]
def T4 (K:W.Frag)(H:Hp)(v:V)(t:Tb):Prop:=∃a,v=.ref a/\SqT K H a t.vs
def T4o (H:Hp)(v:V)(t:Tb):Prop:=∃a,v=.ref a/\H a=some (.tup t.vs)
theorem T4o.t4{K:W.Frag}{H:Hp}{v:V}{t:Tb}(h:T4o H v t):T4 K H v t:=by
 obtain⟨a,rfl,e⟩:=h;exact⟨a,rfl,SqT.of e⟩
theorem T4o.mono{H H':Hp}{v:V}{t:Tb}(h:T4o H v t)(e:Fo H H'):T4o H' v t:=by
 obtain⟨a,rfl,q⟩:=h;exact⟨a,rfl,e _ _ q⟩
theorem T4.mono{K:W.Frag}{H H':Hp}{v:V}{t:Tb}(h:T4 K H v t)(e:Fo H H'):T4 K H' v t:=by
 obtain⟨a,rfl,q⟩:=h;exact⟨a,rfl,e.LB q⟩
theorem T4.dat{K:W.Frag}{H:Hp}{v:V}{t:Tb}(h:T4 K H v t):Gh K H v t.dat:=by
 obtain⟨a,rfl,q⟩:=h;exact .tup q (.cons (.int _) (.cons (.int _) (.cons (.int _) (.cons (.int _) .nil))))
theorem Tb.lay(t:Tb):t.dat.canLay0=true:=rfl
theorem Tb.depth(t:Tb):t.dat.depth<=60:=by show 1<=60;decide
theorem Tb.eqv(t:Tb):PyData.eqv t.dat t.dat=true:=SeqAt.eqv_refl _ t.lay
def Lt2 (n:Nat)(x:Int):Prop:=x.natAbs<2^n
structure Bd(n:Nat)(t:Tb):Prop where
 a:Lt2 n t.a
 b:Lt2 n t.b
 c:Lt2 n t.c
 d:Lt2 n t.d
theorem Lt2.mono{n m:Nat}{x:Int}(h:Lt2 n x)(l:n<=m):Lt2 m x:=Be h (Dq (by decide) l)
theorem Bd.mono{n m:Nat}{t:Tb}(h:Bd n t)(l:n<=m):Bd m t:=⟨h.a.mono l,h.b.mono l,h.c.mono l,h.d.mono l⟩
theorem Lt2.dot{n m:Nat}{a e b g:Int}(ha:Lt2 n a)(he:Lt2 m e)(hb:Lt2 n b)(hg:Lt2 m g):Lt2 (n+m+1) (a*e+b*g):=by
 unfold Lt2 at *;have h1:(a*e+b*g).natAbs<=(a*e).natAbs+(b*g).natAbs:=Int.natAbs_add_le _ _;rw[Int.natAbs_mul,Int.natAbs_mul] at h1;have h2:a.natAbs*e.natAbs<2^n*2^m:=Nat.mul_lt_mul'' ha he;have h3:b.natAbs*g.natAbs<2^n*2^m:=Nat.mul_lt_mul'' hb hg;rw[Nat.pow_succ,Nat.pow_add];lia
theorem Bd.mul{n m:Nat}{s t:Tb}(hs:Bd n s)(ht:Bd m t):Bd (n+m+1) (s.mul t):=
 ⟨hs.a.dot ht.a hs.b ht.c,hs.a.dot ht.b hs.b ht.d,hs.c.dot ht.a hs.d ht.c,hs.c.dot ht.b hs.d ht.d⟩
theorem Lt2.bits{n:Nat}{x:Int}(h:Lt2 n x):Builtin.Int.intBits x<=n:=by
 unfold Builtin.Int.intBits;unfold Lt2 at h;split
 ·exact Bi _
 ·rename_i z;have nz:x.natAbs≠0:=fun q=>z (by rw[Int.natAbs_eq_zero.mp q];rfl);exact(Nat.log2_lt nz).mpr h
theorem Lt2.big{n m:Nat}{x y:Int}(hx:Lt2 n x)(hy:Lt2 m y)(hn:n<=1048576)(hm:m<=1048576):xn x y:=⟨AX hx.bits hn,AX hy.bits hm⟩
def GD:V->Bool
 |.int _=>true
 |_=>false
inductive Kn(H:Hp):V->Prop where
 |non:Kn H .non
 |bl (b:Bool):Kn H (.bl b)
 |int (i:Int):Kn H (.int i)
 |str (x:Str):Kn H (.str x)
 |lst {a:Addr}{xs:List V} (e:H a=some (.lst xs)):Kn H (.ref a)
 |tup {a:Addr}{xs:List V} (e:H a=some (.tup xs)):Kn H (.ref a)
inductive Th(H:Hp):V->Bool->Prop where
 |non:Th H .non false
 |bl (b:Bool):Th H (.bl b) false
 |int (i:Int):Th H (.int i) false
 |str (x:Str):Th H (.str x) false
 |lst {a:Addr}{xs:List V} (e:H a=some (.lst xs)):Th H (.ref a) false
 |tup {a:Addr}{xs:List V} (e:H a=some (.tup xs)) (k:∀x∈xs,Kn H x):Th H (.ref a) (xs.length==4&&xs.all GD)
section
variable {K:PySem.W.Frag}{H:Hp}{v:V}
def Lw:V->Bool
 |.int _=>true
 |.bl _=>true
 |_=>false
def isB:V->Bool
 |.bl _=>true
 |_=>false
theorem Kn.as_int(h:Kn H v):∃t,HM K H v t/\W.kitOne K t (.type "int")=some (Lw v):=by
 cases h with
 |non=>exact⟨_,.non,rfl⟩
 |bl b=>exact⟨_,.bl b,rfl⟩
 |int i=>exact⟨_,.int i,rfl⟩
 |str x=>exact⟨_,.str x,rfl⟩
 |lst e=>exact⟨_,.lst e,rfl⟩
 |tup e=>exact⟨_,.tup e,rfl⟩
theorem Kn.as_bool(h:Kn H v):∃t,HM K H v t/\W.kitOne K t (.type "bool")=some (isB v):=by
 cases h with
 |non=>exact⟨_,.non,rfl⟩
 |bl b=>exact⟨_,.bl b,rfl⟩
 |int i=>exact⟨_,.int i,rfl⟩
 |str x=>exact⟨_,.str x,rfl⟩
 |lst e=>exact⟨_,.lst e,rfl⟩
 |tup e=>exact⟨_,.tup e,rfl⟩
end
def Hj:Sp:=fun vs H Q _=>∃v,vs=[v]/\Kn H v/\Q (.bl (GD v)) H
def HD:Sp:=fun vs H Q _=>∃v b,vs=[v]/\Th H v b/\∀H',Fo H H'->Q (.bl b) H'
structure Hs(H:Hp)(L:List (Addr×HO))(H':Hp):Prop where
 all:Fo H H'
 at':∀a o,(a,o)∈L->H' a=some o
 nd:(L.map (·.1)).Nodup
 fr:∀a o,(a,o)∈L->H a=none
theorem Hs.start(H:Hp):Hs H [] H:=⟨Fo.refl H,fun _ _ h=>absurd h (by simp),by simp,fun _ _ h=>absurd h (by simp)⟩
theorem Hs.new{H H':Hp}{L:List (Addr×HO)}{a:Addr}(h:Hs H L H')(n:H' a=none)(o:HO):Hs H (L++[(a,o)]) (upd H' a o) where
 all:=h.all.trans (af n o)
 at':=fun b u hm=>by
  rcases AO.mp hm with z|z
  ·exact af n o _ _ (h.at' b u z)
  ·have e:(b,u)=(a,o):=by simpa using z
   cases e;exact ae
 nd:=by
  rw[AU,Du];refine⟨h.nd,by simp,fun x hx y hy=>?_⟩;have ey:y=a:=by simpa using hy
  subst ey;obtain⟨⟨b,u⟩,hb,e⟩:=AJ.mp hx;cases e;exact aB (h.at' b u hb) n
 fr:=fun b u hm=>by
  rcases AO.mp hm with z|z
  ·exact h.fr b u z
  ·have e:(b,u)=(a,o):=by simpa using z
   cases e;exact h.all.free n
theorem Hs.get{H H':Hp}{L:List (Addr×HO)}{a:Addr}{o:HO}(h:Hs H L H')(i:Nat)(e:L[i]?=some (a,o):=by rfl):H' a=some o:=h.at' a o (Bg e)
theorem Hs.ne{H H':Hp}{L:List (Addr×HO)}{a b:Addr}{o u:HO}(h:Hs H L H')(i j:Nat)(ij:i≠j)(e:L[i]?=some (a,o):=by rfl)(f:L[j]?=some (b,u):=by rfl):a≠b:=fun z=>by
 have e1:(L.map (·.1))[i]?=some a:=by rw[AW,e];rfl
 have f1:(L.map (·.1))[j]?=some b:=by rw[AW,f];rfl
 rw[z] at e1;obtain⟨hi,e2⟩:=Bc.mp e1;obtain⟨hj,f2⟩:=Bc.mp f1;exact ij ((List.getElem_inj h.nd).mp (e2.trans f2.symm))
theorem Hs.put{H H':Hp}{L:List (Addr×HO)}{a:Addr}{o:HO}(h:Hs H L H')(i:Nat)(o':HO)(e:L[i]?=some (a,o):=by rfl):Hs H (L.set i (a,o')) (upd H' a o') where
 all:=fun b u q=>by
  have ha:=h.fr a o (Bg e);rw[ai (aB q ha)];exact h.all b u q
 at':=fun b u hm=>by
  obtain⟨j,ej⟩:=Dv hm;by_cases hj:i=j
  ·subst hj;have hi:=(Bc.mp e).1;rw[CK hi] at ej;cases ej;exact ae
  ·rw[CL hj] at ej;rw[ai (EZ (h.ne i j hj e ej))];exact h.at' b u (Bg ej)
 nd:=by
  have:(L.set i (a,o')).map (·.1)=L.map (·.1):=by
   apply Eb;intro j;rw[AW,AW];by_cases hj:i=j
   ·subst hj;have hi:=(Bc.mp e).1;rw[CK hi,e];rfl
   ·rw[CL hj]
  rw[this];exact h.nd
 fr:=fun b u hm=>by
  obtain⟨j,ej⟩:=Dv hm;by_cases hj:i=j
  ·subst hj;have hi:=(Bc.mp e).1;rw[CK hi] at ej;cases ej;exact h.fr a o (Bg e)
  ·rw[CL hj] at ej;exact h.fr b u (Bg ej)
theorem Hs.mono{H H' H'':Hp}{L:List (Addr×HO)}(h:Hs H L H')(s:Fo H' H''):Hs H L H'':=⟨h.all.trans s,fun a o m=>s _ _ (h.at' a o m),h.nd,h.fr⟩
theorem aD{X:Cx}{e:Expr}{te:TE}(h:PE X e te)(hs:starEach [e] X.env=(false,eval e X.env)::starEach [] X.env):PA X [e] (gy te Jt):=@Fn _ _ _ _ _ h (@FE _) hs
theorem aR{X:Cx}{r:List V->Hp->VK->Prop}{e:Expr}{te:TE}{p pos:Pos}(hc:cq X (.builtin "len") r)(hg:Gl X "len")(hm:X.mg "len"=none)(h:PE X e te)(hs:starEach [e] X.env=(false,eval e X.env)::starEach [] X.env):PE X (.Call (.Name "len" p) [e] [] pos) (tCB r (gy te Jt)):=@aJ _ _ _ _ _ _ _ _ _ hc hg hm JV (aD h hs) (by decide) (by decide) hs rfl
theorem aY{X:Cx}{k k':Nat}{x:Str}{st:Stmt}{ps:List Str}{d:DD}{sp:Sp}{p pos:Pos}{e:Expr}{es:List Expr}{t:TA}(D:Def X.K X.mg x st ps d)(F:Fx X.prog X.w X.K X.mg X.base CX0 k d.f d.fd ps sp)(hk:k<=k')(hr:Gy k' X.A)(hg:Gl X x)(ha:PA X (e::es) t)(hdb:(x==("__debug__":Str))=false)(he:starEach (e::es) X.env=(false,eval e X.env)::starEach es X.env)(hpl:(backTo pos (starEach es X.env)).any (·.1)=false):PE X (.Call (.Name x p) (e::es) [] pos) (tq sp [] E0 t):=@mX _ _ _ _ _ _ _ _ _ _ _ _ _ _ _ _ (F.mono hk) hr hg D.m D.fn.kp D.b .nil vb ha hdb he hpl
theorem dC{X:Cx}{k k':Nat}{x:Str}{st:Stmt}{ps:List Str}{d:DD}{sp:Sp}{p pos:Pos}{e:Expr}{te:TE}(D:Def X.K X.mg x st ps d)(F:Fx X.prog X.w X.K X.mg X.base CX0 k d.f d.fd ps sp)(hk:k<=k')(hr:Gy k' X.A)(hg:Gl X x)(h:PE X e te)(hs:starEach [e] X.env=(false,eval e X.env)::starEach [] X.env)(hdb:(x==("__debug__":Str))=false):PE X (.Call (.Name x p) [e] [] pos) (tq sp [] E0 (gy te Jt)):=@aY _ _ _ _ _ _ _ _ _ _ _ _ _ D F hk hr hg (aD h hs) hdb hs rfl
theorem nO{X:Cx}{c:Str}{j:Nat}{cp apos cpos:Pos}{e:Expr}{te:TE}(h:PE X e te)(hs:starEach [e] X.env=(false,eval e X.env)::starEach [] X.env)(hfew:((backTo cpos (starEach [e] X.env)).all (fun x=>!x.1)&&(backToKw cpos (keywordEach [] X.env)).all (fun x=>x.1.isSome)&&decide ([e].length+([]:List Keyword).length+(if ([]:List Keyword).isEmpty then 0 else 1)<30))=true)(hline:(apos.endLine==cpos.line)=true):PE X (.Call (.Attribute (.Constant (.str c) j cp) "join" apos) [e] [] cpos) (tBM X.K "str" (wM X.K) (tC (.str c)) (gy te Jt)):=@lQ _ _ _ _ _ _ _ _ _ _ _ _ EO PySem.F.slot_str_join PySem.F.type_str_join Kc (aU _) (aD h hs) rfl hfew hline hs rfl
theorem iE{X:Cx}{apos cpos:Pos}{o e:Expr}{to te:TE}(ho:PE X o to)(h:PE X e te)(hs:starEach [e] X.env=(false,eval e X.env)::starEach [] X.env)(hbase:attributeBase o "append" X.env (eval o X.env)=eval o X.env)(hfew:((backTo cpos (starEach [e] X.env)).all (fun x=>!x.1)&&(backToKw cpos (keywordEach [] X.env)).all (fun x=>x.1.isSome)&&decide ([e].length+([]:List Keyword).length+(if ([]:List Keyword).isEmpty then 0 else 1)<30))=true)(hline:(apos.endLine==cpos.line)=true):PE X (.Call (.Attribute o "append" apos) [e] [] cpos) (tBM X.K "list" Jl to (gy te Jt)):=@lQ _ _ _ _ _ _ _ _ _ _ _ _ EN ES ER Hw ho (aD h hs) hbase hfew hline hs rfl
end L2
local macro_rules|`(tactic|walk_at "s")=>`(tactic|exact⟨rfl,rfl,rfl,by decide +kernel,rfl,by decide +kernel,by decide +kernel⟩)
set_option hygiene false in
local macro_rules|`((fk $k $d $p $s))=>`(Fx P w K mg base CX0 $k ($d).f ($d).fd $p $s)|`((dg $n $i $p $d $k $s))=>`(Def K mg $n (top $i) $p $d/\(fk $k $d $p $s))
set_option hygiene false in
local macro_rules|`(tactic|exists $s)=>`(tactic|(refine D.fn.ok (N:=$s) (by walk_at "s") (fun vs H Q E h=>?_) (fun cdv A outer s H vs Q E hr h=>?_);(focus(repeat obtain⟨_,h⟩:=h);subst_vars;rfl);have hc:=hr.calm;have nd:List.Nodup (α:=Str) $s :=by decide +kernel))
local macro_rules|`(tactic|walk_at "d")=>`(tactic|try dsimp only [cg,Cx.nox,Cx.FO])
set_option hygiene false in
local macro_rules|`(tactic|walk_at "u")=>`(tactic|exact fun _ _ _ _ _ _ us hl=>by first|(obtain ⟨_,rfl⟩ :=lF hl;rfl)|(obtain⟨_,_,rfl⟩:=my hl;rfl)|(obtain⟨_,_,_,rfl⟩:=xh hl;rfl))
set_option hygiene false in
local macro_rules|`(($n:num))=>`(pv $n)|`((nd $s))=>`(show List.Nodup (α:=Str) $s by decide +kernel)
namespace K3
open PySem
def top (i:Nat):Stmt:=PySem.Challenge.pw_quadwords_k25_whole_counts_of_tables.main.body.getD i (.Pass ⟨0,0,0,0⟩)
end K3
namespace K3
open PySem PySem.Spec PyProof.Rows L2
abbrev Ld:Stmt:=top 37
def HZ:Sp:=fun vs H Q _=>∃(p:Addr)(m:Int),vs=[.ref p,.int m]/\Ds H p/\1<=m/\m<1000000000000000000000000000000000/\∀(r:Int)(H':Hp),0<=r->r<m->Dr p H H'->Q (.int r) H'
section
variable {P:Program}{w:World}{K:PySem.W.Frag}{mg:Str->Option Value}{base:Heap}
theorem JU:Fs ["draws","many","found"] ["draws","many"] (ar Ld):=by walk_at "s"
theorem uh{d:DD}(D:Def K mg "_law_draw" Ld ["draws","many"] d):(fk 1 d ["draws","many"] HZ):=by
 refine D.fn.ok JU (fun vs H Q E h=>?_) (fun cdv A outer s H vs Q E hr h=>?_)
 ·obtain⟨p,m,rfl,_⟩:=h;rfl
 obtain⟨p,m,rfl,⟨a,b,c,hp,hb1,hb2,hc1,hc2⟩,hm1,hm2,q⟩:=h;have nd:=JU.nd;refine⟨_,(ag (bS (aA GY (aL Fq (0) ah (fun _ _=>rfl)) ah (aE _)) (ag (ax (i:=2) nd rfl (Or.inl rfl) (az FW (aL Fq (0) ah (fun _ _=>rfl)) (1))) (ag (fm (az qy (aL Fq (0) ah (fun _ _=>rfl)) (1)) (pD (0) ah set_list)) (ak (aI (2))))) Fv) (ag (fm (az Fy (az FW (az FV (aL Fq (0) ah (fun _ _=>rfl)) ah) (aL Fq (0) ah (fun _ _=>rfl))) ah) (pD (0) ah set_list)) (ak (aI (az FW (az Jb (az FW (az FV (aL Fq (0) ah (fun _ _=>rfl)) (az Fy (az Jb (aL Fq (0) ah (fun _ _=>rfl)) ah) ah)) ah) ah) (1)))))),?_⟩
 walk_at "d"
 have g0:SqL K H p [.int a,.int b,.int c]:=SqL.of hp;refine⟨_,rfl,p,_,0,_,rfl,rfl,g0,rfl,_,_,rfl,rfl,_,rfl,uQ (fun h1=>?_) (fun h1=>?_)⟩
 ·refine⟨_,rfl,p,_,0,_,rfl,rfl,g0,rfl,_,rfl,_,_,rfl,rfl,by lia,?_⟩;refine⟨_,rfl,p,_,0,_,rfl,rfl,g0,rfl,_,rfl,_,_,rfl,rfl,⟨by lia,by lia⟩,?_⟩;refine⟨_,rfl,p,_,0,0,rfl,rfl,hp,rfl,?_⟩;refine⟨_,rfl,?_⟩;exact q _ _ (Cj _ (by lia)) (Ck _ (by lia)) (Dr.JF ⟨hb1,hb2,hc1,hc2⟩)
 ·refine⟨_,rfl,p,_,1,_,rfl,rfl,g0,rfl,_,_,rfl,rfl,.inr ⟨by decide,by decide⟩,?_⟩;refine⟨_,rfl,p,_,2,_,rfl,rfl,g0,rfl,_,_,rfl,rfl,(show(0:Int)<c by lia),_,_,rfl,rfl,?_⟩;refine⟨_,rfl,p,_,1,1,rfl,rfl,hp,rfl,?_⟩;have e0:=Cj (b*69621) (show c≠0 by lia);have e1:=Ck (b*69621) (show(0:Int)<c by lia);have z1:1<=b*69621 % c+1:=by lia
  have z2:b*69621 % c+1<=2147483648:=by lia
  have g1:SqL K (upd H p (.lst [.int a,.int (b*69621 % c+1),.int c])) p [.int a,.int (b*69621 % c+1),.int c]:=SqL.of ae;have u0:0<=(b*69621 % c+1)/128:=Int.ediv_nonneg (by lia) (by decide);have u1:(b*69621 % c+1)/128<=16777216:=by lia
  refine⟨_,rfl,p,_,1,_,rfl,rfl,g1,rfl,_,rfl,p,_,1,_,rfl,rfl,g1,rfl,_,_,rfl,rfl,⟨by decide,by decide⟩,_,_,rfl,rfl,_,_,rfl,rfl,.inl ⟨?_,?_⟩,_,_,rfl,rfl,(show(0:Int)<2147483423 by decide),_,_,rfl,rfl,⟨by decide,by decide⟩,_,rfl,_,_,rfl,rfl,(show(0:Int)<m by lia),?_⟩
  ·lia
  ·lia
  exact q _ _ (Cj _ (by lia)) (Ck _ (by lia)) (Dr.JF ⟨z1,z2,hc1,hc2⟩)
theorem Jx:Fs ["thing"] ["thing"] (ar (top 6)):=by walk_at "s"
theorem rZ{d:DD}(D:Def K mg "is_whole" (top 6) ["thing"] d)(yV:mg "int"=none)(yY:mg "bool"=none)(yI:mg "isinstance"=none):(fk 1 d ["thing"] Hj):=by
 refine D.fn.ok Jx (fun vs H Q E h=>?_) (fun cdv A outer s H vs Q E hr h=>?_)
 ·obtain⟨v,rfl,_⟩:=h;rfl
 obtain⟨v,rfl,hk,q⟩:=h;refine⟨_,(ak (aI (fJ (aJ Gf rfl yI FD (Fn (0) (Fn (eB (v:=.ty "int") rfl yV Ib rfl) FE))) (kj (sG (aJ Gf rfl yI FD (Fn (0) (Fn (eB (v:=.ty "bool") rfl yY Jc rfl) FE)))))))),?_⟩
 walk_at "d"
 obtain⟨t1,y1,e1⟩:=hk.as_int (K:=K);obtain⟨t2,y2,e2⟩:=hk.as_bool (K:=K);refine⟨v,rfl,v,.ty "int",t1,_,_,rfl,rfl,y1,e1,_,rfl,?_⟩;cases hb:Lw v with
 |true=>
  refine ym ⟨v,rfl,v,.ty "bool",t2,_,_,rfl,rfl,y2,e2,_,rfl,?_⟩;have z:(!isB v)=GD v:=by cases v<;>first|rfl|(cases hb)
  rw[z];exact q
 |false=>
  refine xI ?_;have z:false=GD v:=by cases v<;>first|rfl|(cases hb)
  rw[z];exact q
theorem KN:Fs ["thing"] ["thing"] (ar (top 7)):=by walk_at "s"
theorem Th.Jz{H:Hp}{v:V}{b:Bool}(h:Th H v b):∃t,HM K H v t/\((W.kitOne K t (.type "tuple")=some false/\b=false)\/(W.kitOne K t (.type "tuple")=some true/\∃a xs,v=.ref a/\H a=some (.tup xs)/\(∀x∈xs,Kn H x)/\b=(xs.length==4&&xs.all GD))):=by
 cases h with
 |non=>exact⟨_,.non,.inl ⟨rfl,rfl⟩⟩
 |bl b=>exact⟨_,.bl b,.inl ⟨rfl,rfl⟩⟩
 |int i=>exact⟨_,.int i,.inl ⟨rfl,rfl⟩⟩
 |str x=>exact⟨_,.str x,.inl ⟨rfl,rfl⟩⟩
 |lst e=>exact⟨_,.lst e,.inl ⟨rfl,rfl⟩⟩
 |tup e k=>exact⟨_,.tup e,.inr ⟨rfl,_,_,rfl,e,k,rfl⟩⟩
theorem av{n:Nat}(h:n<=1000000):n<=sizeLine:=AX h (by rw[sizeLine_eq];decide)
theorem wq{dw d:DD}(yU:(dg "is_whole" 6 ["thing"] dw 1 Hj))(D:Def K mg "is_table" (top 7) ["thing"] d)(yO:mg "tuple"=none)(yK:mg "len"=none)(Aq:mg "all"=none)(yI:mg "isinstance"=none):(fk 2 d ["thing"] HD):=by
 refine D.fn.ok KN (fun vs H Q E h=>?_) (fun cdv A outer s H vs Q E hr h=>?_)
 ·obtain⟨v,b,rfl,_⟩:=h;rfl
 obtain⟨v,b,rfl,ht,q⟩:=h;have hc:=hr.calm;refine⟨_,(ak (aI (fJ (aJ Gf rfl yI FD (Fn (0) (Fn (eB (v:=.ty "tuple") rfl yO GB rfl) FE))) (fJ (dP GP (aJ Ft rfl yK JV (Fn (0) FE)) ah (aE _)) (kj (aJ (rB hc) rfl Aq KQ (Fn (aW hc (aq (ts:=["number"]) (cap:=[]) (js:=[]) rfl rfl rfl rfl rfl rfl (by decide +kernel)) (oh (0)) (fun _ _ _ _=>ao (i:=0) (nd ["number"]) rfl (Or.inl rfl) (.inr rfl)) (fun _ _ _ _=>aV) (fun _ _ _ _=>(mX (yU.2.mono (by decide)) hr rfl yU.1.m yU.1.fn.kp yU.1.b .nil vb (Fn (0) FE)))) FE))))))),?_⟩
 walk_at "d"
 obtain⟨t1,y1,e1⟩:=Th.Jz (K:=K) ht;rcases e1 with ⟨e1,eb⟩|⟨e1,a,xs,ev,ea,hk,eb⟩
 ·refine⟨v,rfl,v,.ty "tuple",t1,_,_,rfl,rfl,y1,e1,_,rfl,xI ?_⟩;rw[eb] at q;exact q H (Fo.refl H)
 ·subst ev;refine⟨_,rfl,.ref a,.ty "tuple",t1,_,_,rfl,rfl,y1,e1,_,rfl,ym ?_⟩;refine⟨_,rfl,a,xs,rfl,.inr (SqT.of ea),rfl,_,rfl,uQ (fun h1=>?_) (fun h1=>?_)⟩
  ·have l4:xs.length=4:=by
    have z:=EK h1;injection z with z;lia
   refine⟨_,rfl,a,rfl,⟨xs,SqT.of ea⟩,?_⟩;refine yx (K:=K) (xs:=xs) (fun i ys H'=>H'=H/\ys=((xs.take i).map GD).map V.bl) ⟨rfl,by simp⟩ (fun i ys H' hi z=>?_) (av (by lia)) (fun i ys H' hi z=>by rw[z.1];exact SqT.of ea) (fun i x ys H' hx z=>?_) (fun ys H' z p hp=>?_)
   ·rw[z.2];simp;lia
   ·obtain⟨rfl,rfl⟩:=z;have hi:i<xs.length:=(Bc.mp hx).1;refine⟨x,rfl,x,rfl,hk x (Bg hx),Nx.mk hi ⟨rfl,?_⟩⟩;rw[Bh,hx,AU,AU];rfl
   ·obtain⟨rfl,rfl⟩:=z;refine⟨p,(xs.map GD),rfl,?_,?_⟩
    ·rw[Bw];exact SqL.of ae
    ·have z:((xs.map GD).all id)=b:=by
      rw[eb,l4];simp[List.all_map]
     rw[z];exact q _ (af hp _)
  ·have z:b=false:=by
    rw[eb];cases hb:(xs.length==4) with
    |false=>rfl
    |true=>exact absurd (EG (congrArg (fun n:Nat=>V.int (n:Int)) (by simpa using hb))) h1
   rw[z] at q;exact q H (Fo.refl H)
def sQ (K:W.Frag):Sp:=fun vs H Q _=>∃u v s t n m,vs=[u,v]/\T4 K H u s/\T4 K H v t/\Bd n s/\Bd m t/\n<=1048576/\m<=1048576/\∀r H',Fo H H'->T4o H' r (s.mul t)->Q r H'
def mY (K:W.Frag):Sp:=fun vs H Q _=>∃u t n,vs=[u]/\T4 K H u t/\Bd n t/\n<=1048576/\Q (.int t.worth) H
theorem rR{d:DD}(D:Def K mg "worth" (top 8) ["table"] d):(fk 1 d ["table"] (mY K)):=by
 exists["table","a","b","c","d"]
 obtain⟨u,t,n,rfl,⟨p,rfl,hp⟩,ht,hn,q⟩:=h;refine⟨_,(ag (fm (0) (dD hc (ay (ao (i:=1) nd rfl (Or.inl rfl)) (ay (ao (i:=2) nd rfl (Or.inl rfl)) (ay (ao (i:=3) nd rfl (Or.inl rfl)) (ay (ao (i:=4) nd rfl (Or.inl rfl)) FG)))))) (ak (aI (az GI (az fc (1) (4)) (az fc (2) (3)))))),?_⟩
 walk_at "d"
 refine⟨_,rfl,p,_,rfl,hp,rfl,_,_,rfl,_,_,rfl,_,_,rfl,_,_,rfl,rfl,?_⟩;refine⟨_,rfl,_,rfl,_,_,rfl,rfl,ht.a.big ht.d hn hn,_,rfl,_,rfl,_,_,rfl,rfl,ht.b.big ht.c hn hn,_,_,rfl,rfl,?_⟩;exact q
theorem rE{d:DD}(D:Def K mg "_law_times" (top 40) ["one","other"] d)(yJ:mg "range"=none)(yO:mg "tuple"=none):(fk 1 d ["one","other"] (sQ K)):=by
 exists["one","other","found","row","column","top"]
 obtain⟨u,v,s,t,n,m,rfl,⟨p,rfl,hp⟩,⟨r,rfl,hr'⟩,hs,ht,hn,hm,q⟩:=h;refine⟨_,(ag (ax (i:=2) nd rfl (Or.inl rfl) (bg FE)) (ag (bB PassesOwn.never hc (oh (aO (Fn ah (Fn ah FE)))) (ao (i:=3) nd rfl (Or.inl rfl)) (ak (bB PassesOwn.never hc (bb rfl yJ (Fn ah FE)) (ao (i:=4) nd rfl (Or.inl rfl)) (ag (ax (i:=5) nd rfl (Or.inl rfl) (az fc (aL FQ (0) (3) (fun _ _=>rfl)) (aL FQ (1) (4) (fun _ _=>rfl)))) (ak (bx (lQ EN ES ER Hw (2) (Fn (az Fy (5) (az fc (aL FQ (0) (az Fy (3) ah) (fun _ _=>rfl)) (aL FQ (1) (az Fy ah (4)) (fun _ _=>rfl)))) FE)))))))) (ak (aI (br FT rfl yO GB (Fn (2) FE)))))),?_⟩
 walk_at "d"
 refine⟨av (by show 0<=1000000;decide),fun f hf=>?_⟩;refine⟨av (by show 2<=1000000;decide),fun w hw=>⟨w,rfl,⟨_,SqT.of ae⟩,?_⟩⟩;have S0:Fo H (upd H f (.lst [])):=af hf _;have S1:Fo H (upd (upd H f (.lst [])) w (.tup [.int 0,.int 2])):=S0.trans (af hw _);have nfw:f≠w:=aB (H:=upd H f (.lst [])) ae hw;have keep:∀{H':Hp}(l:List V),Fo H H'->H' w=some (.tup [.int 0,.int 2])->Fo H (upd H' f (.lst l))/\upd H' f (.lst l) f=some (.lst l)/\upd H' f (.lst l) w=some (.tup [.int 0,.int 2]):=fun {H'} l e1 e2=>
  ⟨fun b o e=>by rw[ai (aB e hf)];exact e1 b o e,ae,by rw[ai (EZ nfw)];exact e2⟩
 refine oU (K:=K) (xs:=[.int 0,.int 2]) (fun i σ H'=>∃o1 o2 o3,σ=[some (.ref p),some (.ref r),some (.ref f),o1,o2,o3]/\Fo H H'/\H' f=some (.lst ((s.mul t).vs.take (2*i)))/\H' w=some (.tup [.int 0,.int 2]))
  ⟨none,none,none,rfl,S1,by rw[ai nfw];exact ae,ae⟩ (fun i σ H' hi z=>by obtain⟨_,_,_,_,_,_,e⟩:=z;exact SqT.of e) (fun i x σ H' hx z=>?_) (fun σ H' z=>?_)
 ·obtain⟨o1,o2,o3,rfl,e1,e2,e3⟩:=z;have hi:i<2:=(Bc.mp hx).1;refine⟨2,rfl,by decide,by decide,?_⟩;refine bZ (lo:=0) (n:=2) (fun j σ H'=>∃o2 o3,σ=[some (.ref p),some (.ref r),some (.ref f),some x,o2,o3]/\Fo H H'/\H' f=some (.lst ((s.mul t).vs.take (2*i+j)))/\H' w=some (.tup [.int 0,.int 2]))
   ⟨o2,o3,rfl,e1,e2,e3⟩ (fun j σ H' hj z=>?_) (fun σ H' z=>?_)
  ·obtain⟨o2,o3,rfl,e1,e2,e3⟩:=z;have hp':=e1.LB hp;have hr'':=e1.LB hr';have fct:∃(ri α β γ δ:Int),x=.int ri/\atI s.vs ri=some (.int α)/\atI s.vs (ri+1)=some (.int β)/\atI t.vs (0+(j:Int))=some (.int γ)/\atI t.vs (2+(0+(j:Int)))=some (.int δ)/\xn α γ/\xn β δ /\
     (s.mul t).vs.take (2*i+(j+1))=(s.mul t).vs.take (2*i+j)++[.int (α * γ+β * δ)]:=by
    have two:∀k:Nat,k<2->k=0\/k=1:=fun k hk=>by lia
    rcases two i hi with rfl|rfl<;>rcases two j hj with rfl|rfl<;>(cases hx)
    ·exact⟨0,s.a,s.b,t.a,t.c,rfl,rfl,rfl,rfl,rfl,hs.a.big ht.a hn hm,hs.b.big ht.c hn hm,rfl⟩
    ·exact⟨0,s.a,s.b,t.b,t.d,rfl,rfl,rfl,rfl,rfl,hs.a.big ht.b hn hm,hs.b.big ht.d hn hm,rfl⟩
    ·exact⟨2,s.c,s.d,t.a,t.c,rfl,rfl,rfl,rfl,rfl,hs.c.big ht.a hn hm,hs.d.big ht.c hn hm,rfl⟩
    ·exact⟨2,s.c,s.d,t.b,t.d,rfl,rfl,rfl,rfl,rfl,hs.c.big ht.b hn hm,hs.d.big ht.d hn hm,rfl⟩
   obtain⟨ri,α,β,γ,δ,rfl,A0,A1,B0,B1,c1,c2,tk⟩:=fct;refine⟨_,rfl,_,rfl,p,_,ri,_,rfl,rfl,hp',A0,_,rfl,_,rfl,r,_,_,_,rfl,rfl,hr'',B0,_,_,rfl,rfl,c1,?_⟩;refine⟨_,rfl,.inl ⟨rfl,_,SqL.of e2⟩,_,rfl,_,rfl,_,rfl,_,_,rfl,rfl,p,_,_,_,rfl,rfl,hp',A1,_,rfl,_,rfl,_,_,rfl,rfl,r,_,_,_,rfl,rfl,hr'',B1,_,_,rfl,rfl,c2,_,_,rfl,rfl,?_⟩;have ln:((s.mul t).vs.take (2*i+j)).length<=4:=by rw[AZ];exact DJ _ _
   refine⟨f,_,_,rfl,rfl,e2,BN ln (Be (show 4<1000000 by decide) (av (AH _))),?_⟩;obtain⟨a1,a2,a3⟩:=keep ((s.mul t).vs.take (2*i+j)++[.int (α * γ+β * δ)]) e1 e3;exact⟨_,_,rfl,a1,by rw[tk];exact a2,a3⟩
  ·obtain⟨o2,o3,rfl,e1,e2,e3⟩:=z;exact⟨_,o2,o3,rfl,e1,e2,e3⟩
 ·obtain⟨o1,o2,o3,rfl,e1,e2,e3⟩:=z;refine⟨_,rfl,f,(s.mul t).vs,rfl,.inl ⟨SqL.of e2,fun l hl=>?_⟩⟩;exact q _ _ (e1.trans (af hl _)) ⟨l,rfl,ae⟩
def eJ (ts:List Tb):Tb:=ts.foldl Tb.mul Tb.one
inductive TL(K:W.Frag)(H:Hp):List V->List Tb->Prop where
 |nil:TL K H [] []
 |cons {v:V}{t:Tb}{vs:List V}{ts:List Tb}:T4 K H v t->TL K H vs ts->TL K H (v::vs) (t::ts)
theorem TL.length{H:Hp}:∀{vs:List V}{ts:List Tb},TL K H vs ts->vs.length=ts.length
 |_,_,.nil=>rfl
 |_,_,.cons _ r=>by simp[TL.length r]
theorem TL.get{H:Hp}:∀{vs:List V}{ts:List Tb}{i:Nat}{v:V},TL K H vs ts->vs[i]?=some v->∃t,ts[i]?=some t/\T4 K H v t
 |_,_,_,_,.nil,e=>by simp at e
 |_,_,0,_,.cons h _,e=>by simp at e;subst e;exact⟨_,rfl,h⟩
 |_,_,i+1,v,.cons _ r,e=>by
  obtain⟨d,h1,h2⟩:=TL.get (i:=i) (v:=v) r (by simpa using e);exact⟨d,by simpa using h1,h2⟩
theorem fY(ts:List Tb)(t:Tb):eJ (ts++[t])=(eJ ts).mul t:=by unfold eJ;rw[List.foldl_append];rfl
theorem kh{n:Nat}:∀{ts:List Tb},(∀t∈ts,Bd n t)->∀i,Bd ((n+1)*i+1) (eJ (ts.take i)):=by
 intro ts h i;induction i with
 |zero=>exact(show Bd 1 Tb.one from⟨(by show(1:Int).natAbs<2^1;decide),(by show(0:Int).natAbs<2^1;decide),(by show(0:Int).natAbs<2^1;decide),(by show(1:Int).natAbs<2^1;decide)⟩)
 |succ i ih=>
  by_cases hi:i<ts.length
  ·rw[Bh,AL hi];show Bd _ (eJ (ts.take i++[ts[i]]));rw[fY];have z:=ih.mul (h ts[i] (Bq hi));have e:(n+1)*(i+1)+1=(n+1)*i+1+n+1:=by rw[Nat.mul_add];lia
   rw[e];exact z
  ·have e:ts.take (i+1)=ts.take i:=by rw[Bk (by lia),Bk (by lia)]
   rw[e];exact ih.mono (by rw[Nat.mul_add];lia)
def sj (K:W.Frag):Sp:=fun vs H Q _=>∃l xs ts n,vs=[.ref l]/\SqL K H l xs/\TL K H xs ts/\(∀t∈ts,Bd n t)/\(n+1)*ts.length+1<=1048576/\n<=1048576/\∀r H',Fo H H'->T4o H' r (eJ ts)->Q r H'
theorem qF{dp d:DD}(zc:(dg "_law_times" 40 ["one","other"] dp 1 (sQ K)))(D:Def K mg "_law_made" (top 41) ["tables"] d):(fk 2 d ["tables"] (sj K)):=by
 exists["tables","found","table"]
 obtain⟨l,xs,ts,n,rfl,hl,ht,hb,hz,hn,q⟩:=h;refine⟨_,(ag (ax 1 (aO (Fn (ah _) (Fn (ah _) (Fn (ah _) (aD (ah _) ba) ba) ba) ba))) (ag (bB (aN (0)) (ao 2) (ak (ax 1 (aY zc.1 zc.2 (Fn (1) (aD (2) aC) aC))))) (ak (aI (1))))),?_⟩
 walk_at "d"
 refine⟨av (by show 4<=1000000;decide),fun f hf=>?_⟩;refine⟨_,rfl,l,rfl,⟨xs,(af hf _).seq hl⟩,?_⟩;refine eU (K:=K) (xs:=xs) (fun i σ H'=>∃v o,σ=[some (.ref l),some v,o]/\Fo H H'/\T4o H' v (eJ (ts.take i))) ⟨.ref f,none,rfl,af hf _,⟨f,rfl,ae⟩⟩ (fun i σ H' hi z=>by obtain⟨_,_,_,e,_⟩:=z;exact e.seq hl) (fun i x σ H' hx z=>?_) (fun σ H' z=>?_)
 ·obtain⟨v,o,rfl,e1,e2⟩:=z;obtain⟨t,et,h4⟩:=ht.get hx;have hi:i<ts.length:=(Bc.mp et).1;have bl:(n+1)*i+1<=1048576:=by
   have:(n+1)*i<=(n+1)*ts.length:=Nat.mul_le_mul_left _ (by lia);lia
  refine⟨_,rfl,_,rfl,v,x,eJ (ts.take i),t,(n+1)*i+1,n,rfl,e2.t4,h4.mono e1,kh hb i,hb t (Bg et),bl,hn,fun r H2 S2 h2=>?_⟩;refine⟨r,_,rfl,e1.trans S2,?_⟩;rw[Bh,et];show T4o H2 r (eJ (ts.take i++[t]));rw[fY];exact h2
 ·obtain⟨v,o,rfl,e1,e2⟩:=z;refine⟨v,rfl,q v H' e1 ?_⟩;rw[ht.length,Bw] at e2;exact e2
def qU (c:Nat):Prop:=c=108\/c=114\/c=117\/c=118\/c=85\/c=86
def dH (c:Nat):Tb:=if c=108 then ⟨1,0,1,1⟩ else if c=114 then ⟨1,1,0,1⟩ else if c=117 then ⟨1,2,0,1⟩ else if c=118 then ⟨1,0,2,1⟩ else if c=85 then ⟨1,-2,0,1⟩ else ⟨1,0,-2,1⟩
theorem tM{c:Nat}(h:qU c):Bd 2 (dH c):=by
 rcases h with rfl|rfl|rfl|rfl|rfl|rfl<;>exact⟨by show _<4;decide,by show _<4;decide,by show _<4;decide,by show _<4;decide⟩
def vk (K:W.Frag):Sp:=fun vs H Q _=>∃z:Str,vs=[.str z]/\z.cps.size<=1000/\(∀c∈z.cps.toList,qU c)/\∀r H',Fo H H'->T4o H' r (eJ (z.cps.toList.map dH))->Q r H'
theorem rC{z:Str}(h:∀c∈z.cps.toList,qU c):z.cps.all (·<128)=true:=by
 rw[<- Array.all_toList,BU];intro c hc;rcases h c hc with rfl|rfl|rfl|rfl|rfl|rfl<;>rfl
def adr (t1 t2 t3 t4 t5 t6:Addr)(c:Nat):Addr:=if c=108 then t1 else if c=114 then t2 else if c=117 then t3 else if c=118 then t4 else if c=85 then t5 else t6
def pS (t1 t2 t3 t4 t5 t6:Addr):List (Key×V):=ck (ck [] [(.inr "l",.ref t1),(.inr "r",.ref t2),(.inr "u",.ref t3),(.inr "v",.ref t4)]) (ck [] [(.inr "U",.ref t5),(.inr "V",.ref t6)])
theorem qK(t1 t2 t3 t4 t5 t6:Addr)(c:Nat)(h:qU c):cb (pS t1 t2 t3 t4 t5 t6) (.inr ⟨#[c]⟩)=some (.ref (adr t1 t2 t3 t4 t5 t6 c)):=by
 rcases h with rfl|rfl|rfl|rfl|rfl|rfl<;>kernel_rfl
theorem sO{H:Hp}{f:Nat->V}:∀{cs:List Nat},(∀c∈cs,qU c)->(∀c,qU c->T4o H (f c) (dH c))->TL K H (cs.map f) (cs.map dH)
 |[],_,_=>.nil
 |c::r,h,g=>.cons (g c (h c AS)).t4 (sO (fun c hc=>h c (AY _ hc)) g)
theorem wo{dm d:DD}(zA:(dg "_law_made" 41 ["tables"] dm 2 (sj K)))(D:Def K mg "_law_of_letters" (top 42) ["word"] d):(fk 3 d ["word"] (vk K)):=by
 exists["word","letters"]
 obtain⟨z,rfl,hz,hl,q⟩:=h;refine⟨_,(ag (ac 1 (oe (cN (aU _) (aO (Fn (ah _) (Fn (ah _) (Fn (ah _) (aD (ah _) ba) ba) ba) ba)) (cN (aU _) (aO (Fn (ah _) (Fn (ah _) (Fn (ah _) (aD (ah _) ba) ba) ba) ba)) (cN (aU _) (aO (Fn (ah _) (Fn (ah _) (Fn (ah _) (aD (ah _) ba) ba) ba) ba)) (cN (aU _) (aO (Fn (ah _) (Fn (ah _) (Fn (ah _) (aD (ah _) ba) ba) ba) ba)) (@qd _ _))))) (by simp))) (ag (bx (lQ PySem.F.plainAttrs_dict PySem.F.slot_dict_update PySem.F.type_dict_update Ja (1) (aD (oe (cN (aU _) (aO (Fn (ah _) (Fn (rp IE (ah _)) (Fn (ah _) (aD (ah _) ba) ba) (by rfl)) ba)) (cN (aU _) (aO (Fn (ah _) (Fn (ah _) (Fn (rp IE (ah _)) (aD (ah _) ba) (by rfl)) ba) ba)) (@qd _ _))) (by simp)) (by rfl)))) (ak (aI (dC zA.1 zA.2 (aW (aq (ts:=["letter"]) (cap:=["letters"]) (js:=[1]) rfl rfl rfl rfl rfl rfl (by decide +kernel)) (pN (0)) (ad 0 (nd ["letter","letters"])) (@aV _) (jO (fD hr) (1) (0))) (by rfl)))))),?_⟩
 walk_at "d"
 have l4:(4:Nat)<=sizeLine:=av (by decide);refine fun d hd=>?_;refine⟨l4,fun t1 h1=>⟨l4,fun t2 h2=>⟨l4,fun t3 h3=>⟨l4,fun t4 h4=>?_⟩⟩⟩⟩;have F4:=((((Hs.start H).new hd (.dK [])).new h1 (.tup (Tb.mk 1 0 1 1).vs)).new h2 (.tup (Tb.mk 1 1 0 1).vs)).new h3 (.tup (Tb.mk 1 2 0 1).vs) |>.new h4 (.tup (Tb.mk 1 0 2 1).vs);refine⟨F4.get 0,[(.inr "l",.ref t1),(.inr "r",.ref t2),(.inr "u",.ref t3),(.inr "v",.ref t4)],rfl,Nat.le_of_ble_eq_true rfl,?_⟩;have F5:=F4.put 0 (.dK (ck [] [(.inr "l",.ref t1),(.inr "r",.ref t2),(.inr "u",.ref t3),(.inr "v",.ref t4)]));refine⟨_,rfl,.inr (.inr (.inl ⟨rfl,.inl ⟨_,ae⟩⟩)),fun e he=>?_⟩;refine⟨_,rfl,l4,fun t5 h5=>⟨_,rfl,l4,fun t6 h6=>?_⟩⟩;have F8:=((F5.new he (.dK [])).new h5 (.tup (Tb.mk 1 (-2) 0 1).vs)).new h6 (.tup (Tb.mk 1 0 (-2) 1).vs);refine⟨F8.get 5,[(.inr "U",.ref t5),(.inr "V",.ref t6)],rfl,Nat.le_of_ble_eq_true rfl,?_⟩;have F9:=F8.put 5 (.dK (ck [] [(.inr "U",.ref t5),(.inr "V",.ref t6)]));refine⟨d,e,_,_,rfl,rfl,F9.ne 0 5 (by decide),F9.get 0,F9.get 5,av (by show 6<=1000000;decide),?_⟩;have FA:=F9.put 0 (.dK (pS t1 t2 t3 t4 t5 t6));refine⟨_,rfl,z,rfl,rC hl,?_⟩;have okc:∀c,qU c->cb (pS t1 t2 t3 t4 t5 t6) (.inr ⟨#[c]⟩)=some (.ref (adr t1 t2 t3 t4 t5 t6 c)):=qK t1 t2 t3 t4 t5 t6;have okt:∀c,qU c->T4o _ (.ref (adr t1 t2 t3 t4 t5 t6 c)) (dH c):=fun c h=>by
  rcases h with rfl|rfl|rfl|rfl|rfl|rfl
  ·exact⟨_,rfl,FA.get 1⟩
  ·exact⟨_,rfl,FA.get 2⟩
  ·exact⟨_,rfl,FA.get 3⟩
  ·exact⟨_,rfl,FA.get 4⟩
  ·exact⟨_,rfl,FA.get 6⟩
  ·exact⟨_,rfl,FA.get 7⟩
 have gd:=FA.get 0;have all:=FA.all;refine xq (z:=z) (fun i ys H'=>H'=_/\ys=(z.cps.toList.take i).map fun c=>V.ref (adr t1 t2 t3 t4 t5 t6 c)) ⟨rfl,rfl⟩ (fun i ys H' hi y=>by rw[y.2,AI,AZ];lia) (av (by lia)) (fun i c ys H' hc y=>?_) (fun ys H' y p hp=>?_)
 ·obtain⟨rfl,rfl⟩:=y;have hi:i<z.cps.size:=(Dh.mp hc).1;have hc':z.cps.toList[i]?=some c:=by rw[BE];exact hc
  have lc:=hl c (Bg hc');refine⟨_,rfl,_,rfl,d,.ref (adr t1 t2 t3 t4 t5 t6 c),rfl,?_,Nx.mk hi ⟨rfl,?_⟩⟩
  ·have:=Ht.k (k:=Sum.inr ⟨#[c]⟩) gd;rw[okc c lc] at this;exact this
  ·rw[Bh,hc',AU];rfl
 ·obtain⟨rfl,rfl⟩:=y;have e1:z.cps.toList.take z.cps.size=z.cps.toList:=Bk (by rw[Br];exact AH _);rw[e1];refine⟨p,_,z.cps.toList.map dH,2,rfl,SqL.of ae,sO hl fun c hc=>(okt c hc).mono (af hp _),fun t ht=>?_,?_,by decide,fun r H' S h4=>q r H' (all.trans ((af hp _).trans S)) h4⟩
  ·obtain⟨c,hc,rfl⟩:=AJ.mp ht;exact tM (hl c hc)
  ·rw[AI,Br];lia
def og (K:W.Frag):Sp:=fun vs H Q _=>∃(a:Addr)(ns:List Int)(k:Int),vs=[.ref a,.int k]/\SqL K H a (ns.map V.int)/\0<=k/\k<=100/\∀l H',Fo H H'->H l=none->Ds H' l->Q (.ref l) H'
def Hv:List Int:=[2147483647,2147483629,2147483587,2147483579,2147483563,2147483549,2147483543,2147483497]
def dB (c k:Int):Int:=(c % 2147483423+3*k+1)*(48271+2*k*k) % 2147483423
def qQ (c k:Int):Int:=dB c k*dB c k*dB c k % 2147483399+k+1
theorem rW{d:DD}(D:Def K mg "_law_draws" (top 36) ["script","k"] d)(yK:mg "len"=none)(yV:mg "int"=none):(fk 1 d ["script","k"] (og K)):=by
 exists["script","k","primes","cell","seed"]
 obtain⟨a,ns,k,rfl,ha,k0,k1,q⟩:=h;obtain⟨tr,hR,qR⟩:∃t,PSs (cg CX0 P w K mg base ["script","k","primes","cell","seed"] "_law_draws" (ar (top 36)) d.f cdv A outer s H E).nox ((bw (top 36)).drop 3) t /\
   ∀(c:Int)(p:Addr),H p=none->t {nx:=fun _ H'=>Q .non H',rt:=Q} [some (.ref a),some (.int k),some (.ref p),some (.int c),none] (upd H p (.tup (Hv.map V.int))):=by
  refine⟨_,(ag (ax 4 (az FW (az FV (az Fy (az Fy (az FW (3) (ah _)) (az FV (ah _) (1))) (ah _)) (az Fy (ah _) (az FV (az FV (ah _) (1)) (1)))) (ah _))) (ag (ax 4 (az Fy (az Fy (az FW (az FV (az FV (4) (4)) (4)) (ah _)) (1)) (ah _))) (ak (aI (bg (Fn (az FV (3) (br HC yV Ib (aD (dP Jk (3) (az Ic (ah _) (ah _)) (aE _)) (by rfl)))) (Fn (4) (aD (aL FQ (2) (az FW (1) (ah _))) (by rfl)) aC) (by rfl))))))),fun c p hp=>?_⟩;have c0:=Cj c (show(2147483423:Int)≠0 by decide);have c1:=Ck c (show(0:Int)<2147483423 by decide);refine⟨_,rfl,_,_,rfl,rfl,(show(0:Int)<2147483423 by decide),_,rfl,_,_,rfl,rfl,.inl ⟨by decide,by decide⟩,_,_,rfl,rfl,_,_,rfl,rfl,_,rfl,_,_,rfl,rfl,.inl ⟨by decide,by decide⟩,_,rfl,_,_,rfl,rfl,.inl ⟨by lia,by lia⟩,_,_,rfl,rfl,_,_,rfl,rfl,.inl ⟨by lia,by lia⟩,_,_,rfl,rfl,(show(0:Int)<2147483423 by decide),?_⟩;have z0:0<=dB c k:=Cj _ (by decide);have z1:dB c k<2147483423:=Ck _ (by decide);have zz0:0<=dB c k*dB c k:=Int.mul_nonneg z0 z0;have zz1:dB c k*dB c k<2^64:=Int.lt_of_le_of_lt (Int.mul_le_mul (Int.le_of_lt z1) (Int.le_of_lt z1) z0 (by decide)) (by decide);refine⟨_,rfl,_,rfl,_,_,rfl,rfl,.inl ⟨?_,?_⟩,_,rfl,_,_,rfl,rfl,.inl ⟨?_,?_⟩,_,_,rfl,rfl,(show(0:Int)<2147483399 by decide),_,rfl,_,_,rfl,rfl,_,_,rfl,rfl,?_⟩
  ·exact Int.lt_of_lt_of_le (by decide) z0
  ·exact Int.lt_trans z1 (by decide)
  ·exact Int.lt_of_lt_of_le (by decide) zz0
  ·exact zz1
  have y0:1<=qQ c k/\qQ c k<=2147483648:=by
   have:=Cj (dB c k*dB c k*dB c k) (show(2147483399:Int)≠0 by decide);have:=Ck (dB c k*dB c k*dB c k) (show(0:Int)<2147483399 by decide);unfold qQ;lia
  have g8:0<=k % 8/\k % 8<8:=⟨Cj _ (by decide),Ck _ (by decide)⟩
  have pr:∃r:Int,atI (Hv.map V.int) (k % 8)=some (.int r)/\1000000000<=r/\r<=2147483647:=by
   generalize k % 8=j at g8;have:j=0\/j=1\/j=2\/j=3\/j=4\/j=5\/j=6\/j=7:=by lia
   rcases this with rfl|rfl|rfl|rfl|rfl|rfl|rfl|rfl<;>exact⟨_,rfl,by decide,by decide⟩
  obtain⟨r,er,r0,r1⟩:=pr;refine⟨_,rfl,_,rfl,_,_,rfl,rfl,⟨by decide,by decide,by decide⟩,_,_,rfl,rfl,.inr ⟨_,rfl,_,_,rfl,rfl,.inr ⟨?_,?_⟩,_,rfl,_,rfl,_,rfl,_,_,rfl,rfl,(show(0:Int)<8 by decide),p,_,_,_,rfl,rfl,SqT.of ae,er,av (by show 3<=1000000;decide),fun l hl=>?_⟩⟩
  ·split<;>decide
  ·split<;>decide
  have S1:=af hp (.tup (Hv.map V.int));exact q l _ (S1.trans (af hl _)) (S1.free hl) ⟨_,qQ c k,r,ae,y0.1,y0.2,r0,r1⟩
 refine⟨_,(ag (ax 2 (aO (Fn (ah _) (Fn (ah _) (Fn (ah _) (Fn (ah _) (Fn (ah _) (Fn (ah _) (Fn (ah _) (aD (ah _) ba) ba) ba) ba) ba) ba) ba) ba))) (ag (ax 3 (az Fy (az FV (ah _) (1)) (ah _))) (ag (bS (aA JD (1) (aR Ft yK (0) aC) (aE _)) (ak (ax 3 (az FW (aL Fq (0) (1)) (az fc (az Ic (ah _) (ah _)) (az Ic (ah _) (ah _)))))) (ak (bS (aA GY (aR Ft yK (0) aC) (ah _) (aE _)) (ak (ax 3 (az Fy (az FW (aL Fq (0) (az FW (1) (aR Ft yK (0) aC))) (az Ic (ah _) (ah _))) (az FV (ah _) (1))))) (Fv _)))) hR))),?_⟩
 walk_at "d"
 refine⟨av (by show 8<=1000000;decide),fun p hp=>?_⟩;have S1:=af hp (.tup (Hv.map V.int));have ha1:SqL K (upd H p (.tup (Hv.map V.int))) a (ns.map V.int):=S1.seq ha;have hl:(ns.map V.int).length=ns.length:=AI _;refine⟨_,rfl,_,_,rfl,rfl,.inl ⟨by decide,by decide⟩,_,_,rfl,rfl,?_⟩;refine⟨_,rfl,_,rfl,a,_,rfl,.inl ha1,_,_,rfl,rfl,_,rfl,uQ (fun h1=>?_) (fun h1=>?_)⟩
 ·have h1':k<(((ns.map V.int).length:Nat):Int):=EK h1;rw[hl] at h1';obtain⟨v,ev⟩:∃v:Int,atI (ns.map V.int) k=some (.int v):=by
   have hk:k.toNat<ns.length:=by lia
   have ek:k=((k.toNat:Nat):Int):=by lia
   have e:=bh (xs:=ns.map V.int) (j:=k.toNat) (v:=.int ns[k.toNat]) (by rw[AW,AL hk];rfl);rw[<- ek] at e;exact⟨ns[k.toNat],e⟩
  refine⟨_,rfl,_,rfl,a,_,_,_,rfl,rfl,ha1,ev,_,_,rfl,rfl,⟨by decide,by decide,by decide⟩,_,_,rfl,rfl,⟨by decide,by decide,by decide⟩,_,_,rfl,rfl,Lt2.big (n:=200) (m:=200) (by show(10^60:Int).natAbs<2^200;decide) (by show(10^60:Int).natAbs<2^200;decide) (by decide) (by decide),_,_,rfl,rfl,(show(0:Int)<10^60*10^60 by decide),?_⟩;exact qR _ p hp
 ·refine⟨_,rfl,a,_,rfl,.inl ha1,_,_,rfl,rfl,_,rfl,uQ (fun h2=>?_) (fun h2=>?_)⟩
  ·have h2':(0:Int)<(((ns.map V.int).length:Nat):Int):=EK h2;rw[hl] at h2';have m0:=Cj k (show(ns.length:Int)≠0 by lia);have m1:=Ck k h2';obtain⟨v,ev⟩:∃v:Int,atI (ns.map V.int) (k % (((ns.map V.int).length:Nat):Int))=some (.int v):=by
    rw[hl];generalize k % (ns.length:Int)=j at m0 m1;have hk:j.toNat<ns.length:=by lia
    have ek:j=((j.toNat:Nat):Int):=by lia
    have e:=bh (xs:=ns.map V.int) (j:=j.toNat) (v:=.int ns[j.toNat]) (by rw[AW,AL hk];rfl);rw[<- ek] at e;exact⟨ns[j.toNat],e⟩
   refine⟨_,rfl,_,rfl,_,rfl,a,_,rfl,.inl ha1,_,_,rfl,rfl,(show(0:Int)<(((ns.map V.int).length:Nat):Int) by rw[hl];exact h2'),a,_,_,_,rfl,rfl,ha1,ev,_,_,rfl,rfl,⟨by decide,by decide,by decide⟩,_,_,rfl,rfl,(show(0:Int)<10^15 by decide),_,rfl,_,_,rfl,rfl,.inl ⟨by decide,by decide⟩,_,_,rfl,rfl,?_⟩;exact qR _ p hp
  ·exact qR _ p hp
end
theorem Tb.ext'{s t:Tb}(h1:s.a=t.a)(h2:s.b=t.b)(h3:s.c=t.c)(h4:s.d=t.d):s=t:=by
 cases s;cases t;simp only at h1 h2 h3 h4;subst h1 h2 h3 h4;rfl
theorem lL(s t u:Tb):(s.mul t).mul u=s.mul (t.mul u):=by
 apply Tb.ext'<;>simp only[Tb.mul]<;>grind
theorem rS(t:Tb):Tb.one.mul t=t:=by
 apply Tb.ext'<;>simp only[Tb.mul,Tb.one]<;>grind
theorem rQ(t:Tb):t.mul Tb.one=t:=by
 apply Tb.ext'<;>simp only[Tb.mul,Tb.one]<;>grind
def wt:List Nat->Tb
 |[]=>Tb.one
 |c::r=>(dH c).mul (wt r)
theorem tG(ts:List Tb):∀s:Tb,ts.foldl Tb.mul s=s.mul (ts.foldr Tb.mul Tb.one):=by
 induction ts with
 |nil=>intro s;exact(rQ s).symm
 |cons t r ih=>intro s;rw[CB,ih,List.foldr_cons,lL]
theorem lB(cs:List Nat):eJ (cs.map dH)=wt cs:=by
 unfold eJ;rw[tG,rS];induction cs with
 |nil=>rfl
 |cons c r ih=>rw[AQ,List.foldr_cons,ih];rfl
def GG (c:Nat):Prop:=c=108\/c=114
theorem GG.lt{c:Nat}(h:GG c):qU c:=by
 rcases h with rfl|rfl
 ·exact .inl rfl
 ·exact .inr (.inl rfl)
structure Plain(t:Tb):Prop where
 a:0<=t.a
 b:0<=t.b
 c:0<=t.c
 d:0<=t.d
 w:t.a*t.d-t.b*t.c=1
theorem qr(t:Tb):(dH 108).mul t=⟨t.a,t.b,t.a+t.c,t.b+t.d⟩:=by
 apply Tb.ext'<;>simp only[Tb.mul,dH,EF]<;>grind
theorem qY(t:Tb):(dH 114).mul t=⟨t.a+t.c,t.b+t.d,t.c,t.d⟩:=by
 apply Tb.ext'<;>simp[Tb.mul,dH]<;>grind
theorem Plain.l{t:Tb}(h:Plain t):Plain ((dH 108).mul t):=by
 rw[qr];exact⟨h.a,h.b,by have:=h.a;have:=h.c;show 0<=t.a+t.c;lia,by have:=h.b;have:=h.d;show 0<=t.b+t.d;lia,by have:=h.w;show t.a*(t.b+t.d)-t.b*(t.a+t.c)=1;grind⟩
theorem Plain.r{t:Tb}(h:Plain t):Plain ((dH 114).mul t):=by
 rw[qY];exact⟨by have:=h.a;have:=h.c;show 0<=t.a+t.c;lia,by have:=h.b;have:=h.d;show 0<=t.b+t.d;lia,h.c,h.d,by have:=h.w;show(t.a+t.c)*t.d-(t.b+t.d)*t.c=1;grind⟩
theorem Jj:Plain Tb.one:=⟨by decide,by decide,by decide,by decide,by decide⟩
theorem GC:∀{cs:List Nat},(∀c∈cs,GG c)->Plain (wt cs)
 |[],_=>Jj
 |c::r,h=>by
  have ih:=GC (cs:=r) fun c hc=>h c (AY _ hc);rcases h c AS with rfl|rfl
  ·exact ih.l
  ·exact ih.r
theorem Plain.top{t:Tb}(h:Plain t):1<=t.a+t.b:=by
 have:=h.a;have:=h.b;by_cases z:t.a=0/\t.b=0
 ·have:=h.w;rw[z.1,z.2] at this;lia
 ·lia
theorem Plain.low{t:Tb}(h:Plain t):1<=t.c+t.d:=by
 have:=h.c;have:=h.d;by_cases z:t.c=0/\t.d=0
 ·have:=h.w;rw[z.1,z.2] at this;lia
 ·lia
def Tb.sum(t:Tb):Int:=t.a+t.b+t.c+t.d
theorem JE:∀{cs:List Nat},(∀c∈cs,GG c)->(cs.length:Int)+2<=Tb.sum (wt cs)
 |[],_=>by show((0:Nat):Int)+2<=2;decide
 |c::r,h=>by
  have h':=fun c hc=>h c (AY _ hc);have ih:=JE (cs:=r) h';have p:=GC (cs:=r) h';have e1:=p.top;have e2:=p.low;unfold Tb.sum at ih ⊢;rw[Bj];show((r.length+1:Nat):Int)+2<=((dH c).mul (wt r)).a+((dH c).mul (wt r)).b+((dH c).mul (wt r)).c+((dH c).mul (wt r)).d;rcases h c AS with rfl|rfl
  ·rw[qr];show((r.length+1:Nat):Int)+2<=(wt r).a+(wt r).b+((wt r).a+(wt r).c)+((wt r).b+(wt r).d);lia
  ·rw[qY];show((r.length+1:Nat):Int)+2<=((wt r).a+(wt r).c)+((wt r).b+(wt r).d)+(wt r).c+(wt r).d;lia
theorem wg{cs:List Nat}(h:∀c∈cs,GG c)(e:wt cs=Tb.one):cs=[]:=by
 have:=JE h;rw[e] at this;have z:Tb.sum Tb.one=2:=rfl;rw[z] at this;exact Bv.mp (by lia)
theorem uN{t:Tb}(h:Plain t):((dH 108).mul t).c≥((dH 108).mul t).a/\((dH 108).mul t).d≥((dH 108).mul t).b:=by
 rw[qr];have:=h.c;have:=h.d;show t.a+t.c≥t.a/\t.b+t.d≥t.b;lia
theorem uc{t:Tb}(h:Plain t):¬(((dH 114).mul t).c≥((dH 114).mul t).a/\((dH 114).mul t).d≥((dH 114).mul t).b):=by
 rw[qY];have:=h.a;have:=h.b;have:=h.top;show ¬(t.c≥t.a+t.c/\t.d≥t.b+t.d);lia
theorem yb{c:Nat}(h:GG c):Bd 1 (dH c):=by
 rcases h with rfl|rfl<;>exact⟨by show _<2;decide,by show _<2;decide,by show _<2;decide,by show _<2;decide⟩
section
variable {P:Program}{w:World}{K:PySem.W.Frag}{mg:Str->Option Value}{base:Heap}
def eG (t:Tb):Bool:=decide (0<=t.a/\0<=t.b/\0<=t.c/\0<=t.d)&&decide (t.worth=1)
theorem II{t:Tb}:eG t=true↔Plain t:=by
 unfold eG;rw[Bx,decide_eq_true_iff,decide_eq_true_iff];refine⟨fun hq100=>?_,fun h=>⟨⟨h.a,h.b,h.c,h.d⟩,h.w⟩⟩;obtain⟨⟨h1,h2,h3,h4⟩,h5⟩:=hq100;exact⟨h1,h2,h3,h4,h5⟩
theorem xZ{H:Hp}{a:Addr}{t:Tb}(e:H a=some (.tup t.vs)):Th H (.ref a) true:=
 (Th.tup e fun x hx=>by
  unfold Tb.vs at hx;simp only[AN,Bt,or_false] at hx
  rcases hx with rfl | rfl | rfl | rfl <;> exact .int _:Th H (.ref a) (t.vs.length == 4 && t.vs.all GD))
def IX:Sp:=fun vs H Q _=>∃v t n,vs=[v]/\T4o H v t/\Bd n t/\n<=1048576/\∀H',Fo H H'->Q (.bl (eG t)) H'
theorem Jv:Fs ["table"] ["table"] (ar (top 10)):=by walk_at "s"
theorem qW{di dw d:DD}(zK:(dg "is_table" 7 ["thing"] di 2 HD))(zd:(dg "worth" 8 ["table"] dw 1 (mY K)))(D:Def K mg "is_plain" (top 10) ["table"] d)(yW:mg "min"=none):(fk 3 d ["table"] IX):=by
 refine D.fn.ok Jv (fun vs H Q E h=>?_) (fun cdv A outer s H vs Q E hr h=>?_)
 ·obtain⟨v,t,n,rfl,_⟩:=h;rfl
 obtain⟨v,t,n,rfl,⟨a,rfl,ha⟩,hb,hn,q⟩:=h;have hc:=hr.calm;refine⟨_,(ak (aI (fJ (dC zK.1 zK.2 (0) aC) (fJ (dP Jk (aJ (oK hc) yW Iv (aD (0) aC)) (ah _) (aE _)) (@kj _ _ _ _ _ (dP GP (dC zd.1 zd.2 (0) aC) (ah _) (aE _))))))),?_⟩
 walk_at "d"
 refine⟨_,rfl,.ref a,true,rfl,xZ ha,fun H1 S1=>⟨true,rfl,?_⟩⟩;refine⟨_,rfl,a,[t.a,t.b,t.c,t.d],rfl,SqT.of (S1 _ _ ha),(fun z=>by cases z),fun m hm hmin=>?_⟩;have ha':=hmin t.a (by simp);have hb':=hmin t.b (by simp);have hc':=hmin t.c (by simp);have hd':=hmin t.d (by simp);refine⟨_,_,rfl,rfl,decide (m≥0),rfl,uQ (fun h1=>?_) (fun h1=>?_)⟩
 ·have h1':m≥0:=EK h1;refine⟨_,rfl,.ref a,t,n,rfl,⟨a,rfl,SqT.of (S1 _ _ ha)⟩,hb,hn,rfl,?_⟩;have e:decide (V.int t.worth=V.int 1)=eG t:=by
   unfold eG;rw[EG (show 0<=t.a/\0<=t.b/\0<=t.c/\0<=t.d by lia),Bool.true_and];exact decide_eq_decide.mpr ⟨fun h=>by injection h,fun h=>by rw[h]⟩
  have z:=q H1 S1;rw[<- e] at z;exact z
 ·have h1':¬m≥0:=of_decide_eq_false (CT.mpr h1);have e:false=eG t:=by
   have:¬(0<=t.a/\0<=t.b/\0<=t.c/\0<=t.d):=fun hq101=>by
    obtain⟨a1,a2,a3,a4⟩:=hq101;simp only[AN,Bt,or_false] at hm;rcases hm with rfl|rfl|rfl|rfl<;>lia
   unfold eG;rw[EH this];rfl
  have z:=q H1 S1;rw[<- e] at z;exact z
theorem el:("l":Str)=⟨#[108]⟩:=by decide +kernel
theorem er:("r":Str)=⟨#[114]⟩:=by decide +kernel
def txt (cs:List Nat):Str:=⟨cs.toArray⟩
abbrev eW(cs:List Nat):List Str:=cs.map fun c=>⟨#[c]⟩
theorem Iz:∀(r:List Str)(a:Array Nat),(r.foldl (fun acc p=>acc++("":Str).cps++p.cps) a).toList=a.toList++(r.map (·.cps.toList)).flatten
 |[],a=>by simp
 |x::r,a=>by
  have z:("":Str).cps=#[]:=rfl;rw[CB,Iz r,z];simp
theorem qM(zs:List Str):(Txt.join "" zs).cps.toList=(zs.map (·.cps.toList)).flatten:=by
 cases zs with
 |nil=>rfl
 |cons x r=>exact Iz r x.cps
theorem dR{x y:Str}(h:x.cps.toList=y.cps.toList):x=y:=by
 obtain⟨⟨x⟩⟩:=x;obtain⟨⟨y⟩⟩:=y;simp only at h;subst h;rfl
theorem jc(cs:List Nat):Txt.join "" (eW cs)=txt cs:=by
 apply dR;rw[qM,Bn];show _=cs;induction cs with
 |nil=>rfl
 |cons c r ih=>rw[AQ,DW,ih];rfl
theorem Hn:∀(cs:List Nat),((eW cs).map (·.length)).sum=cs.length
 |[]=>rfl
 |c::r=>by
  show 1+((eW r).map (·.length)).sum=r.length+1;rw[Hn r];lia
def LQ:Sp:=fun vs H Q _=>∃v cs m,vs=[v,.int ((m:Nat):Int)]/\m<=10000/\(∀c∈cs,GG c)/\T4o H v (wt cs)/\(cs.length<=m->∀H',Fo H H'->Q (.str (txt cs)) H')/\(m<cs.length->∀H',Fo H H'->Q .non H')
theorem uk(t u:Tb)(h:t≠u):PyData.eqv t.dat u.dat=false:=by
 obtain⟨a,b,c,d⟩:=t;obtain⟨e,f,g,i⟩:=u;show(a==e&&(b==f&&(c==g&&(d==i&&true))))=false;rw[CT];intro z;simp only[Bx,Fl,Bool.and_true] at z;obtain⟨rfl,rfl,rfl,rfl⟩:=z;exact h rfl
theorem xJ{d:DD}{one:Addr}(AG:mg "ONE"=some (.ref one))(k_one:∀H,SqT K H one Tb.one.vs)(D:Def K mg "word_within" (top 11) ["table","most"] d)(yK:mg "len"=none):(fk 1 d ["table","most"] LQ):=by
 exists["table","most","a","b","c","d","letters"]
 obtain⟨v,cs,m,rfl,hm,hlr,⟨a,rfl,ha⟩,q1,q2⟩:=h;refine⟨_,(ag (fm (0) (dD (ay (ao 2) (ay (ao 3) (ay (ao 4) (ay (ao 5) (@FG _))))))) (ag (ax 6 (bg (@FE _))) (ag (gg (aA (lH hr.units) (aO (Fn (2) (Fn (3) (Fn (4) (aD (5) aC) aC) aC) aC)) (dO (.ref one) AG rfl) (aE _)) (ag (bS (aA GP (aR Ft yK (6) aC) (1) (aE _)) (ak (aI (fu _))) (Fv _)) (ak (bS (@PW.pt _ _ _ (fM (aA Jk (4) (2) (aE _)) (dY (aA Jk (5) (3) (aE _))))) (ag (bx (iE (6) (aU _) ba)) (ak (sA 4 5 (Fn (az GI (4) (2)) (aD (az GI (5) (3)) (by rfl)) (by rfl))))) (ag (bx (iE (6) (aU _) ba)) (ak (sA 2 3 (Fn (az GI (2) (4)) (aD (az GI (3) (5)) (by rfl)) (by rfl))))))))) (ak (aI (nO (6) aC)))))),?_⟩
 walk_at "d"
 refine⟨_,rfl,a,_,rfl,SqT.of ha,rfl,_,_,rfl,_,_,rfl,_,_,rfl,_,_,rfl,rfl,?_⟩;refine⟨av (by show 0<=1000000;decide),fun L nL=>?_⟩;have F0:=(Hs.start H).new nL (.lst []);refine⟨fun k σ H'=>∃i,k=cs.length-i/\i<=cs.length/\i<=m/\σ=[some (.ref a),some (.int m),some (.int (wt (cs.drop i)).a),some (.int (wt (cs.drop i)).b),some (.int (wt (cs.drop i)).c),some (.int (wt (cs.drop i)).d),some (.ref L)]/\Hs H [(L,.lst ((eW (cs.take i)).map V.str))] H',⟨_,0,rfl,Bi _,Bi _,rfl,F0⟩,fun k σ H' z=>?_⟩;obtain⟨i,rfl,hi,him,rfl,F⟩:=z;refine⟨_,rfl,_,rfl,_,rfl,_,rfl,av (by show 4<=1000000;decide),fun p np=>?_⟩;have F1:=F.mono (af np (.tup (wt (cs.drop i)).vs));have dt:Gh K (upd H' p (.tup (wt (cs.drop i)).vs)) (.ref p) (wt (cs.drop i)).dat:=T4.dat ⟨p,rfl,SqT.of ae⟩;have d1:∀H,Gh K H (.ref one) Tb.one.dat:=fun H=>T4.dat ⟨one,rfl,k_one H⟩;have lt':∀c∈cs.drop i,GG c:=fun c hc=>hlr c (Dw hc);by_cases hend:i=cs.length
 ·
  have e0:cs.drop i=[]:=List.drop_eq_nil_of_le (by lia);rw[e0] at dt F1 ⊢;refine⟨Tb.one.dat,Tb.one.dat,dt,d1 _,Tb.lay _,Tb.lay _,Tb.depth _,false,(by rw[Tb.eqv];rfl),?_⟩;have e1:cs.take i=cs:=Bk (by lia);rw[e1] at F1;refine⟨rfl,_,rfl,"",L,eW cs,rfl,rfl,SqL.of (F1.get 0),?_,?_⟩
  ·rw[Hn];have:("":Str).length=0:=rfl;rw[this];lia
  ·rw[jc];exact q1 (by lia) _ F1.all
 ·have hlt:i<cs.length:=by lia
  have ed:cs.drop i=cs[i]::cs.drop (i+1):=List.drop_eq_getElem_cons hlt;have hne:wt (cs.drop i)≠Tb.one:=fun z=>by
   have:=wg lt' z;rw[ed] at this;cases this
  refine⟨_,Tb.one.dat,dt,d1 _,Tb.lay _,Tb.lay _,Tb.depth _,true,(by rw[uk _ _ hne];rfl),?_⟩;refine⟨fun σ' H''=>∃j,j=i+1/\j<=m/\σ'=[some (.ref a),some (.int m),some (.int (wt (cs.drop j)).a),some (.int (wt (cs.drop j)).b),some (.int (wt (cs.drop j)).c),some (.int (wt (cs.drop j)).d),some (.ref L)]/\Hs H [(L,.lst ((eW (cs.take j)).map V.str))] H'',fun σ' H'' z=>?_,?_⟩
  ·obtain⟨j,rfl,h1,rfl,F2⟩:=z;exact⟨cs.length-(i+1),by lia,i+1,rfl,hlt,h1,rfl,F2⟩
  have ll:((eW (cs.take i)).map V.str).length=i:=by
   rw[AI,AI,AZ];lia
  refine⟨_,rfl,L,_,rfl,.inl (SqL.of (F1.get 0)),_,rfl,rfl,_,rfl,uQ (fun h1=>?_) (fun h1=>?_)⟩
  ·have h1':i=m:=by
    have:=EK h1;injection this with this;rw[ll] at this;lia
   exact q2 (by lia) _ F1.all
  ·have h1':i<m:=by
    have:i≠m:=fun z=>h1 (EG (by rw[ll,z]));lia
   have et:cs.take (i+1)=cs.take i++[cs[i]]:=by rw[Bh,AL hlt];rfl
   have ep:Plain (wt (cs.drop (i+1))):=GC fun c hc=>hlr c (Dw hc);have ew:wt (cs.drop i)=(dH cs[i]).mul (wt (cs.drop (i+1))):=by rw[ed];rfl
   have lc:GG cs[i]:=hlr _ (Bq hlt);have lsz:((eW (cs.take i)).map V.str).length<sizeLine:=Be (show _<1000000 by rw[ll];lia) (av (AH _));generalize hT:wt (cs.drop (i+1))=T at ep ew;generalize hc0:cs[i]=c0 at lc ew et;rw[ew] at dt;rcases lc with rfl|rfl
   ·have f1:=uN ep;rw[qr] at ew f1;rw[ew] at F1 ⊢;simp only at f1;refine⟨_,rfl,_,rfl,_,_,rfl,rfl,true,(by show V.bl (decide (T.a<=T.a+T.c))=_;rw[EG f1.1]),_,rfl,_,rfl,_,_,rfl,rfl,true,(by show V.bl (decide (T.b<=T.b+T.d))=_;rw[EG f1.2]),?_⟩;refine⟨_,rfl,.inl ⟨rfl,_,SqL.of (F1.get 0)⟩,L,_,_,rfl,rfl,F1.get 0,lsz,?_⟩;refine⟨_,rfl,_,rfl,_,_,rfl,rfl,_,rfl,_,rfl,_,_,rfl,rfl,_,_,rfl,?_⟩;refine⟨_,rfl,h1',?_,?_⟩
    ·rw[hT];show[some (V.ref a),some (V.int ↑m),some (V.int T.a),some (V.int T.b),some (V.int (T.a+T.c-T.a)),some (V.int (T.b+T.d-T.b)),some (V.ref L)]=_;rw[show T.a+T.c-T.a=T.c by lia,show T.b+T.d-T.b=T.d by lia]
    ·have F2:=F1.put 0 (.lst ((eW (cs.take (i+1))).map V.str));rw[et] at F2 ⊢;have e3:(eW (cs.take i++[108])).map V.str=(eW (cs.take i)).map V.str++[.str "l"]:=by
      rw[el];simp[eW]
     rw[e3] at F2 ⊢;exact F2
   ·have f1:=uc ep;rw[qY] at ew f1;rw[ew] at F1 ⊢;simp only at f1;by_cases g1:T.a+T.c<=T.c
    ·have g2:¬T.b+T.d<=T.d:=fun z=>f1 ⟨g1,z⟩;refine⟨_,rfl,_,rfl,_,_,rfl,rfl,true,(by show V.bl (decide (T.a+T.c<=T.c))=_;rw[EG g1]),_,rfl,_,rfl,_,_,rfl,rfl,false,(by show V.bl (decide (T.b+T.d<=T.d))=_;rw[EH g2]),?_⟩;refine⟨_,rfl,.inl ⟨rfl,_,SqL.of (F1.get 0)⟩,L,_,_,rfl,rfl,F1.get 0,lsz,?_⟩;refine⟨_,rfl,_,rfl,_,_,rfl,rfl,_,rfl,_,rfl,_,_,rfl,rfl,_,_,rfl,?_⟩;refine⟨_,rfl,h1',?_,?_⟩
     ·rw[hT];show[some (V.ref a),some (V.int ↑m),some (V.int (T.a+T.c-T.c)),some (V.int (T.b+T.d-T.d)),some (V.int T.c),some (V.int T.d),some (V.ref L)]=_;rw[show T.a+T.c-T.c=T.a by lia,show T.b+T.d-T.d=T.b by lia]
     ·have F2:=F1.put 0 (.lst ((eW (cs.take (i+1))).map V.str));rw[et] at F2 ⊢;have e3:(eW (cs.take i++[114])).map V.str=(eW (cs.take i)).map V.str++[.str "r"]:=by
       rw[er];simp[eW]
      rw[e3] at F2 ⊢;exact F2
    ·refine⟨_,rfl,_,rfl,_,_,rfl,rfl,false,(by show V.bl (decide (T.a+T.c<=T.c))=_;rw[EH g1]),?_⟩;refine⟨_,rfl,.inl ⟨rfl,_,SqL.of (F1.get 0)⟩,L,_,_,rfl,rfl,F1.get 0,lsz,?_⟩;refine⟨_,rfl,_,rfl,_,_,rfl,rfl,_,rfl,_,rfl,_,_,rfl,rfl,_,_,rfl,?_⟩;refine⟨_,rfl,h1',?_,?_⟩
     ·rw[hT];show[some (V.ref a),some (V.int ↑m),some (V.int (T.a+T.c-T.c)),some (V.int (T.b+T.d-T.d)),some (V.int T.c),some (V.int T.d),some (V.ref L)]=_;rw[show T.a+T.c-T.c=T.a by lia,show T.b+T.d-T.d=T.b by lia]
     ·have F2:=F1.put 0 (.lst ((eW (cs.take (i+1))).map V.str));rw[et] at F2 ⊢;have e3:(eW (cs.take i++[114])).map V.str=(eW (cs.take i)).map V.str++[.str "r"]:=by
       rw[er];simp[eW]
      rw[e3] at F2 ⊢;exact F2
def LRs (z:Str):Prop:=∀c∈z.cps.toList,GG c
def As (z:Str):Prop:=∀c∈z.cps.toList,c<128
theorem LRs.as{z:Str}(h:LRs z):As z:=fun c hc=>by rcases h c hc with rfl|rfl<;>decide
theorem fz(z:Str):z.length=z.cps.toList.length:=rfl
theorem jY{z:Str}{n:Int}{c:Nat}(h:c∈(Txt.mul z n).cps.toList):c∈z.cps.toList:=by
 rw[L2.mul_list] at h;obtain⟨l,hl,hc⟩:=List.mem_flatten.mp h;rw[List.eq_of_mem_replicate hl] at hc;exact hc
theorem tf{α:Type}{l:List α}{lo hi:Option Int}{c:α}(h:c∈sH l lo hi):c∈l:=Dw (Cs h)
theorem fw{z:Str}{lo hi:Option Int}{c:Nat}(h:c∈(Txt.slice z lo hi).cps.toList):c∈z.cps.toList:=by
 rw[cM] at h;exact tf h
theorem kE(x y:Str):(x++y).cps.toList=x.cps.toList++y.cps.toList:=by
 show(x.cps++y.cps).toList=_;rw[Array.toList_append]
theorem fb(z:Str)(n:Int):(Txt.mul z n).length=n.toNat*z.length:=by
 rw[fz,L2.mul_list,List.length_flatten];simp[fz]
theorem lI{α:Type}(l:List α)(k:Nat):sH l none (some (k:Int))=l.take k:=by
 unfold sH;rw[HT.GZ,HT.GA,CO,Nat.sub_zero];rcases Nat.le_total k l.length with h|h
 ·rw[Ct h]
 ·rw[Dx h,Bk (AH _),Bk h]
theorem gh(z:Str)(k:Nat):(Txt.slice z none (some (k:Int))).length=min k z.length:=by
 rw[fz,cM,lI,AZ];rfl
def IZ:Sp:=fun vs H Q _=>∃p m,vs=[.ref p,.int m]/\1<=m/\m<=1000/\Ds H p/\∀z H',Dr p H H'->LRs z->1<=z.length->(z.length:Int)<=m->Q (.str z) H'
theorem yd{r:Int}(h0:0<=r)(h1:r<2):∃c,("lr":Str).cps[r.toNat]?=some c/\GG c:=by
 have:r=0\/r=1:=by lia
 rcases this with rfl|rfl
 ·exact⟨108,by decide +kernel,.inl rfl⟩
 ·exact⟨114,by decide +kernel,.inr rfl⟩
theorem LG:LRs "lr":=by
 have e:("lr":Str).cps.toList=[108,114]:=by decide +kernel
 intro c hc;rw[e] at hc;simp only[AN,Bt,or_false] at hc;exact hc
theorem IB:("lr":Str).length=2:=by decide +kernel
theorem sd{dd d:DD}(yL:(dg "_law_draw" 37 ["draws","many"] dd 1 HZ))(D:Def K mg "_law_piece" (top 38) ["draws","most"] d)(yJ:mg "range"=none):(fk 2 d ["draws","most"] IZ):=by
 exists["draws","most","way","many","text","some"]
 obtain⟨p,m,rfl,m0,m1,hp,q⟩:=h;refine⟨_,(ag (ax 2 (aY yL.1 yL.2 (Fn (0) (aD (ah _) ba) aC))) (ag (ax 3 (az Fy (ah _) (aY yL.1 yL.2 (Fn (0) (aD (1) aC) aC)))) (ag (ax 4 (nO (aW (aq (ts:=["k"]) (cap:=["draws"]) (js:=[0]) rfl rfl rfl rfl rfl rfl (by decide +kernel)) (bb yJ (aD (3) aC)) (ad 0 (nd ["k","draws"])) (@aV _) (jA (aU _) (aY yL.1 yL.2 (Fn (1) (aD (ah _) ba) aC)))) (by rfl))) (ag (ax 5 (bg (Fn (4) (Fn (az HR (aL JL (4) (ah _)) (3)) (Fn (bf Gk (az HR (aU _) (3)) (@FH _) (bC (3))) (aD (bf Gk (az HR (bf Gk (4) (@FH _) (bC (ah _))) (3)) (@FH _) (bC (3))) (by rfl)) (by rfl)) (by rfl)) aC))) (ak (aI (aL Fq (5) (2)))))))),?_⟩
 walk_at "d"
 refine⟨_,rfl,p,4,rfl,hp,by decide,by decide,fun way H0 w0 w1 dr0=>?_⟩;refine⟨_,rfl,_,rfl,p,m,rfl,dr0.ds,m0,by lia,fun r1 H1 a0 a1 dr1=>?_⟩;refine⟨_,_,rfl,rfl,?_⟩;obtain⟨n,en⟩:∃n:Nat,1+r1=((n:Nat):Int):=⟨(1+r1).toNat,by lia⟩
 show oj 3 (V.int (1+r1)) _ _ _;rw[en];have n1:1<=n:=by lia
 have nm:(n:Int)<=m:=by lia
 refine⟨rfl,_,rfl,_,rfl,by lia,by lia,?_⟩;have D1:=dr0.trans dr1;refine um (lo:=0) (n:=(n:Int).toNat) (fun i ys H'=>Dr p H H'/\∃cs:List Nat,ys=(eW cs).map V.str/\cs.length=i/\∀c∈cs,GG c) ⟨D1,[],rfl,rfl,fun n hn=>absurd hn (by simp)⟩ (fun i ys H' hi z=>by obtain⟨_,ns,rfl,e,_⟩:=z;rw[AI,AI,e];exact AH _) (av (by lia)) (fun i ys H' hi z=>?_) (fun ys H' z l hl=>?_)
 ·obtain⟨z1,cs,rfl,z2,z3⟩:=z;refine⟨_,rfl,p,2,rfl,z1.ds,by decide,by decide,fun r H2 c0 c1 dr2=>?_⟩;obtain⟨c,ec,lc⟩:=yd c0 c1;refine⟨_,r,c,rfl,rfl,c0,by lia,by rw[IB];lia,ec,Nx.mk hi ⟨z1.trans dr2,cs++[c],?_,by rw[AK,z2];rfl,fun x hx=>?_⟩⟩
  ·simp[eW]
  ·rcases AO.mp hx with y|y
   ·exact z3 x y
   ·have e:x=c:=by simpa using y
    subst e;exact lc
 obtain⟨z1,cs,rfl,z2,z3⟩:=z;have DL:=Dr.new z1.ds hl (.lst ((eW cs).map V.str));refine⟨"",l,eW cs,rfl,rfl,SqL.of ae,?_,?_⟩
 ·rw[Hn];have:("":Str).length=0:=rfl;rw[this];lia
 rw[jc];have z2':cs.length=n:=by rw[z2,Bu]
 have tl:(txt cs).length=n:=z2';have tlr:LRs (txt cs):=z3;have big:n<=1000:=by lia
 generalize txt cs=text at tl tlr;obtain⟨c0,ec0⟩:∃c,atI text.cps.toList 0=some c:=by
  have h0:0<text.cps.toList.length:=by rw[<- fz,tl];lia
  exact⟨text.cps.toList[0],bh (j:=0) (AL h0)⟩
 have lc0:GG c0:=tlr c0 (by
  have h0:0<text.cps.toList.length:=by rw[<- fz,tl];lia
  have:=bh (j:=0) (AL h0);rw[show((0:Nat):Int)=0 from rfl] at this;rw[ec0] at this;injection this with this
  rw[this]; exact Bq h0)
 have l1000:∀k:Nat,k<=1000000->k<=sizeLine:=fun k hk=>av hk;have t2:(Txt.slice text none (some 2)).length=min 2 n:=by rw[show(2:Int)=((2:Nat):Int) from rfl,gh,tl]
 have nt:((n:Int)).toNat=n:=Bu n;refine⟨_,rfl,_,rfl,text,0,c0,rfl,rfl,l1000 _ (by lia),ec0,_,rfl,_,_,rfl,rfl,by lia,by lia,(by show 1*(n:Int).toNat<=16777216;lia),?_⟩;refine⟨_,rfl,_,_,rfl,rfl,by lia,by lia,(by rw[IB];lia),_,rfl,_,rfl,_,rfl,(l1000 _ (by rw[fb,IB];lia)),?_⟩;refine⟨_,rfl,_,rfl,_,rfl,l1000 _ (by lia),_,rfl,_,_,rfl,rfl,by lia,by lia,(by rw[t2];have:min 2 n<=2:=CA _ _;have:=Ej this (AH (n:Int).toNat);lia),_,rfl,_,rfl,_,rfl,(l1000 _ (by rw[fb,t2];have:min 2 n<=2:=CA _ _;have:=Ej (AH (n:Int).toNat) this;lia)),?_⟩;refine⟨av (by show 4<=1000000;decide),fun L nL=>?_⟩;have DF:=z1.trans (DL.trans (Dr.new DL.ds nL (.lst [.str text,.str (Txt.mul ⟨#[c0]⟩ n),.str (Txt.slice (Txt.mul "lr" n) none (some n)),.str (Txt.slice (Txt.mul (Txt.slice text none (some 2)) n) none (some n))])));have bJ:∃z,atI [V.str text,.str (Txt.mul ⟨#[c0]⟩ n),.str (Txt.slice (Txt.mul "lr" n) none (some n)),.str (Txt.slice (Txt.mul (Txt.slice text none (some 2)) n) none (some n))] way=some (.str z)/\LRs z/\z.length=n:=by
  have:way=0\/way=1\/way=2\/way=3:=by lia
  rcases this with rfl|rfl|rfl|rfl
  ·exact⟨_,rfl,tlr,tl⟩
  ·refine⟨_,rfl,fun c hc=>?_,?_⟩
   ·have:=jY hc;have e:c=c0:=by simpa using this
    rw[e];exact lc0
   ·rw[fb,nt];show n*1=n;lia
  ·refine⟨_,rfl,fun c hc=>LG c (jY (fw hc)),?_⟩;rw[gh,fb,nt,IB];lia
  ·refine⟨_,rfl,fun c hc=>tlr c (fw (jY (fw hc))),?_⟩;rw[gh,fb,nt,t2];have:1<=min 2 n:=by lia
   have:=Ej (AH n) this;lia
 obtain⟨z,ez,lz,nz⟩:=bJ;refine⟨_,rfl,_,rfl,L,_,_,_,rfl,rfl,SqL.of ae,ez,?_⟩;exact q z _ DF lz (by lia) (by lia)
theorem xM{cs:List Nat}(h:∀c∈cs,GG c):Bd (2*cs.length+1) (wt cs):=by
 have:=kh (n:=1) (ts:=cs.map dH) (fun t ht=>by
  obtain⟨c,hc,rfl⟩:=AJ.mp ht
  exact yb (h c hc)) cs.length
 rw[Bk (by rw[AI];exact AH _),lB] at this;exact this
def KY:Sp:=fun vs H Q _=>∃v cs,vs=[v]/\(∀c∈cs,GG c)/\1<=cs.length/\cs.length<=40/\T4o H v (wt cs)/\∀H',Fo H H'->Q (.str (txt cs)) H'
theorem wj{cs:List Nat}(h:1<=cs.length):txt cs≠"":=fun z=>by
 have:(txt cs).cps.toList=("":Str).cps.toList:=by rw[z]
 have e:cs=[]:=this;rw[e] at h;exact absurd h (by decide)
theorem vW{dp dw d:DD}{lt:Tok}(m_lm:mg "LONGEST_MAKER"=some (.int 40 lt))(zb:(dg "is_plain" 10 ["table"] dp 3 IX))(D_ww:(dg "word_within" 11 ["table","most"] dw 1 LQ))(D:Def K mg "maker_word" (top 15) ["maker"] d):(fk 4 d ["maker"] KY):=by
 exists["maker","word"]
 obtain⟨v,cs,rfl,hlr,h1,hl,h4,q⟩:=h;refine⟨_,(ag (bS (iI (dG (dC zb.1 zb.2 (0) aC))) (ak (@Gs _ _)) (Fv _)) (ag (ax 1 (aY D_ww.1 D_ww.2 (Fn (0) (aD (dO (.int 40) m_lm ⟨_,rfl⟩) aC) aC))) (ag (bS (@PW.pt _ _ _ (mq (aA JK (1) (fu _) (aE _)) (kL (aA GP (1) (aU _) (aE _))))) (ak (@Gs _ _)) (Fv _)) (ak (aI (1)))))),?_⟩
 walk_at "d"
 refine⟨_,rfl,v,_,_,rfl,h4,xM hlr,(by lia),fun H1 S1=>⟨eG (wt cs),rfl,?_⟩⟩;rw[II.mpr (GC hlr)];refine⟨_,rfl,v,cs,40,rfl,by decide,hlr,h4.mono S1,fun hl H2 S2=>?_,fun hl' H2 S2=>absurd hl' (by lia)⟩;refine⟨_,rfl,rfl,false,rfl,?_⟩;refine⟨_,rfl,rfl,false,?_,?_⟩
 ·show V.bl (decide (V.str (txt cs)=V.str ""))=_;rw[EH (fun z=>wj h1 (by injection z))]
 exact⟨_,rfl,q H2 (S1.trans S2)⟩
abbrev Mks(H:Hp)(vs:List V)(ws:List (List Nat)):Prop:=Paired (fun v cs=>T4o H v (wt cs)) vs ws
structure Wds(ws:List (List Nat)):Prop where
 n1:1<=ws.length
 n8:ws.length<=8
 lr:∀cs∈ws,∀c∈cs,GG c
 l1:∀cs∈ws,1<=cs.length
 l40:∀cs∈ws,cs.length<=40
abbrev aj(ws:List (List Nat)):List V:=ws.map fun cs=>.str (txt cs)
theorem Mks.at{H:Hp}:∀{vs:List V}{ws:List (List Nat)}{i:Nat}{v:V},Mks H vs ws->vs[i]?=some v->∃cs,ws[i]?=some cs/\T4o H v (wt cs)
 |_,_,_,_,.nil,e=>by simp at e
 |_,_,0,_,.cons h _,e=>by simp at e;subst e;exact⟨_,rfl,h⟩
 |_,_,i+1,v,.cons _ r,e=>by
  obtain⟨cs,h1,h2⟩:=Mks.at (i:=i) (v:=v) r (by simpa using e);exact⟨cs,by simpa using h1,h2⟩
def Js:Sp:=fun vs H Q _=>∃l us ws,vs=[.ref l]/\H l=some (.lst us)/\Mks H us ws/\Wds ws/\∀p H',Fo H H'->H' p=some (.lst (aj ws))->Q (.ref p) H'
theorem wm{dm d:DD}{lt:Tok}(m_mm:mg "MOST_MAKERS"=some (.int 8 lt))(zN:(dg "maker_word" 15 ["maker"] dm 4 KY))(D:Def K mg "maker_words" (top 16) ["makers"] d)(yI:mg "isinstance"=none)(yP:mg "list"=none)(yK:mg "len"=none):(fk 5 d ["makers"] Js):=by
 exists["makers"]
 obtain⟨l,us,ws,rfl,hl,hm,hw,q⟩:=h;have el:us.length=ws.length:=hm.length;have h1:=hw.n1;have h8:=hw.n8;refine⟨_,(ag (bS (@PW.pt _ _ _ (mq (iI (dG (aJ Gf yI FD (Fn (0) (aD (eB (.ty "list") yP GJ) aC) aC)))) (kL (iI (lA IJ IJ (ah _) (aR Ft yK (0) aC) (dO (.int 8) m_mm ⟨_,rfl⟩) (by with_unfolding_all rfl)))))) (ak (@Gs _ _)) (Fv _)) (ak (aI (aW (aq (ts:=["maker"]) (cap:=[]) (js:=[]) rfl rfl rfl rfl rfl rfl (by decide +kernel)) (aN (0)) (ad 0 (nd ["maker"])) (@aV _) (dC zN.1 zN.2 (0) aC))))),?_⟩
 walk_at "d"
 refine⟨_,rfl,.ref l,.ty "list",.type "list",.type "list",true,rfl,rfl,.lst hl,rfl,true,rfl,?_⟩;refine⟨_,rfl,l,us,rfl,.inl (SqL.of hl),_,_,rfl,rfl,true,?_,?_⟩
 ·show V.bl (decide ((1:Int)<=(us.length:Int)))=_;rw[EG (by lia)]
 refine⟨_,_,rfl,rfl,true,?_,?_⟩
 ·show V.bl (decide ((us.length:Int)<=8))=_;rw[EG (by lia)]
 refine⟨_,rfl,l,rfl,⟨_,SqL.of hl⟩,?_⟩;refine cf (K:=K) (a:=l) (xs:=us) (fun i ys H'=>Fo H H'/\ys=aj (ws.take i)) ⟨Fo.refl H,rfl⟩ (fun i ys H' hi z=>by rw[z.2,AI,AZ];lia) (av (by lia)) (fun i ys H' hi z=>SqL.of (z.1 _ _ hl)) (fun i x ys H' hx z=>?_) (fun ys H' z p hp=>?_)
 ·obtain⟨z1,rfl⟩:=z;have hi:i<us.length:=(Bc.mp hx).1;obtain⟨cs,ec,h4⟩:=hm.at hx;have mc:=Bg ec;refine⟨_,rfl,x,cs,rfl,hw.lr cs mc,hw.l1 cs mc,hw.l40 cs mc,h4.mono z1,fun H2 S2=>Nx.mk hi ⟨z1.trans S2,?_⟩⟩;rw[Bh,ec];simp[aj]
 ·obtain⟨z1,rfl⟩:=z;have e:ws.take us.length=ws:=Bk (by lia);rw[e];exact q p _ (z1.trans (af hp _)) ae
def bj (x w:List Nat):Bool:=Txt.endswith (txt x) (txt w)
def aK (ws:List (List Nat))(x:List Nat)(e:Nat):List (Nat×Nat):=(ws.zipIdx.filter fun p=>bj (x.take e) p.1).map fun p=>(p.2,e-p.1.length)
theorem iC(ws:List (List Nat))(w x:List Nat)(e:Nat):aK (ws++[w]) x e=aK ws x e++(if bj (x.take e) w=true then [(ws.length,e-w.length)] else []):=by
 unfold aK;rw[List.zipIdx_append,BR,AU]
 congr 1
 show((List.filter _ [(w,0+ws.length)]).map _)=_;rw[Cg,Bs];split<;>rfl
theorem fQ(x:List Nat)(e:Nat):Txt.slice (txt x) none (some (e:Int))=txt (x.take e):=by
 apply dR;rw[cM,lI];rfl
abbrev Stp(H:Hp)(vs:List V)(ss:List (Nat×Nat)):Prop:=Paired (fun v s=>∃a,v=.ref a/\H a=some (.tup [.int ((s:Nat×Nat).1:Int),.int (s.2:Int)])) vs ss
theorem Stp.mono{H H':Hp}(S:Fo H H'){vs:List V}{ss:List (Nat×Nat)}(h:Stp H vs ss):Stp H' vs ss:=Paired.GQ h fun v s hq102=>by obtain⟨a,e,g⟩:=hq102;exact⟨a,e,S _ _ g⟩
theorem GS:bootBuiltins "sum"=some (.builtin "sum"):=by decide +kernel
structure Wok(ws:List (List Nat)):Prop where
 n8:ws.length<=8
 l1:∀cs∈ws,1<=cs.length
 l40:∀cs∈ws,cs.length<=40
theorem Wds.ok{ws:List (List Nat)}(h:Wds ws):Wok ws:=⟨h.n8,h.l1,h.l40⟩
theorem cR{x w:List Nat}(h:bj x w=true):w.length<=x.length:=by
 unfold bj Txt.endswith at h;have:=EK (Bx _ _▸h).1;have e1:(txt w).length=w.length:=rfl;have e2:(txt x).length=x.length:=rfl;lia
theorem mZ{x w:List Nat}{e:Nat}(h:bj (x.take e) w=true):w.length<=e:=by
 have:=cR h;rw[AZ] at this;lia
theorem jf{ws:List (List Nat)}{x:List Nat}{e:Nat}{s:Nat×Nat}(h:s∈aK ws x e):∃w,ws[s.1]?=some w/\bj (x.take e) w=true/\s.2=e-w.length:=by
 unfold aK at h;obtain⟨p,hp,rfl⟩:=AJ.mp h;obtain⟨hp,hb⟩:=BI.mp hp;exact⟨p.1,Ex.mp hp,hb,rfl⟩
theorem bW{ws:List (List Nat)}(W:Wok ws){x:List Nat}{e:Nat}{s:Nat×Nat}(h:s∈aK ws x (e+1)):s.2<=e:=by
 obtain⟨w,hw,_,e2⟩:=jf h;have:=W.l1 w (Bg hw);lia
def cE (ws:List (List Nat))(x:List Nat):Nat->List Int
 |0=>[1]
 |n+1=>cE ws x n++[((aK ws x (n+1)).map fun s=>(cE ws x n).getD s.2 0).sum]
theorem dJ(ws:List (List Nat))(x:List Nat):∀n,(cE ws x n).length=n+1
 |0=>rfl
 |n+1=>by rw[cE,AK,dJ ws x n];rfl
abbrev ivs(ns:List Int):List V:=ns.map V.int
theorem Stp.at{H:Hp}:∀{vs:List V}{ss:List (Nat×Nat)}{i:Nat}{v:V},Stp H vs ss->vs[i]?=some v->∃s a,ss[i]?=some s/\v=.ref a/\H a=some (.tup [.int (s.1:Int),.int (s.2:Int)])
 |_,_,_,_,.nil,e=>by simp at e
 |_,_,0,_,.cons ⟨a,h1,h2⟩ _,e=>by simp at e;subst e;exact⟨_,a,rfl,h1,h2⟩
 |_,_,i+1,v,.cons _ r,e=>by
  obtain⟨s,a,h1,h2⟩:=Stp.at (i:=i) (v:=v) r (by simpa using e);exact⟨s,a,by simpa using h1,h2⟩
theorem kU{ns:List Int}{j:Nat}(h:j<ns.length):atI (ivs ns) ((j:Nat):Int)=some (.int (ns.getD j 0)):=by
 apply bh;rw[AW,AL h,Ba,AL h];rfl
theorem fg{α:Type}(L:List α)(y d:α)(i:Nat):(L++[y]).getD i d=if i<L.length then L.getD i d else if i=L.length then y else d:=by
 rw[Ba,Ba];by_cases h:i<L.length
 ·rw[EF h,CM h]
 ·rw[EE h,Co (by lia)];by_cases h2:i=L.length
  ·rw[EF h2,h2,Nat.sub_self];rfl
  ·rw[EE h2,Ci (by show 1<=_;lia)];rfl
theorem DatAll.strs{H:Hp}:∀xs:List Str,DatAll K H (xs.map V.str) (xs.map PyData.str)
 |[]=>.nil
 |x::r=>.cons (.str x) (DatAll.strs r)
theorem Ki:∀xs:List Str,PyData.eqv (.list (xs.map PyData.str)) (.list [])=xs.isEmpty
 |[]=>rfl
 |_::_=>rfl
theorem Il:∀xs:List Str,(∀x∈xs,PyData.strOk x=true)->PyData.canLayAll0 (xs.map PyData.str)=true
 |[],_=>rfl
 |x::r,h=>by
  show(PyData.strOk x&&PyData.canLayAll0 (r.map PyData.str))=true;rw[h x AS,Il r fun y hy=>h y (AY _ hy)];rfl
theorem GU:∀xs:List Str,PyData.depthAll (xs.map PyData.str)=0
 |[]=>rfl
 |x::r=>by
  show max 0 (PyData.depthAll (r.map PyData.str))=0;rw[GU r];rfl
theorem jZ(xs:List Str):(PyData.list (xs.map PyData.str)).depth<=60:=by
 have e:(PyData.list (xs.map PyData.str)).depth=PyData.depthAll (xs.map PyData.str)+1:=by simp[PyData.depth]
 rw[e,GU];decide
theorem yy{x:Str}(h:As x):PyData.strOk x=true:=by
 unfold PyData.strOk;rw[<- Array.all_toList,BU];intro c hc;exact EG (CN (h c hc) (by decide))
theorem yf{α:Type}{l:List α}{r:Int}(h0:0<=r)(h1:r<l.length):∃c,atI l r=some c/\c∈l:=by
 have hk:r.toNat<l.length:=by lia
 have ek:r=((r.toNat:Nat):Int):=by lia
 have e:=bh (AL hk);rw[<- ek] at e;exact⟨_,e,Bq hk⟩
theorem Dr.put{p W:Addr}{H H':Hp}(h:Dr p H H')(n:H W=none)(ne:W≠p)(o:HO):Dr p H (upd H' W o):=by
 refine⟨fun b u e=>?_,?_⟩
 ·have e1:=aH p H _ _ e;have nb:b≠W:=aB e1 n;have e2:=h.same _ _ e;have np:b≠p:=fun z=>by unfold hid at e;rw[EF z] at e;cases e
  rw[cm np] at e2 ⊢;rw[ai nb];exact e2
 ·obtain⟨a,b,c,e,r⟩:=h.ds;exact⟨a,b,c,by rw[ai (EZ ne)];exact e,r⟩
theorem oJ{p W:Addr}{H:Hp}(ne:W≠p)(o:HO):hid p (upd H W o) W=some o:=by rw[cm ne,ae]
theorem iW(z:Str):z=txt z.cps.toList:=dR rfl
abbrev vV(ws:List (List Nat)):List Str:=ws.map txt
theorem dZ(ws:List (List Nat))(z:Str):aj ws++[V.str z]=aj (ws++[z.cps.toList]):=by
 show(ws.map fun cs=>V.str (txt cs))++[V.str z]=(ws++[z.cps.toList]).map fun cs=>V.str (txt cs);rw[AU];show _=_++[V.str (txt z.cps.toList)]
 rw[<- iW]
def bU (ws:List (List Nat))(x:List Nat):Nat->List (Option Int×Int)
 |0=>[(some 0,1)]
 |n+1=>bU ws x n++[(((aK ws x (n+1)).filterMap fun s=>((bU ws x n).getD s.2 (none,0)).1.map (·+1)).min?,((aK ws x (n+1)).map fun s=>((bU ws x n).getD s.2 (none,0)).2).sum)]
theorem bK(ws:List (List Nat))(x:List Nat):∀n,(bU ws x n).length=n+1
 |0=>rfl
 |n+1=>by rw[bU,AK,bK ws x n];rfl
def ov:Option Int->V
 |none=>.non
 |some i=>.int i
def Cn (H:Hp)(v:V)(c:Option Int×Int):Prop:=∃a,v=.ref a/\H a=some (.tup [ov c.1,.int c.2])
abbrev Cns(H:Hp)(us:List V)(cs:List (Option Int×Int)):Prop:=Paired (Cn H) us cs
theorem Cns.mono{H H':Hp}(S:Fo H H'){us:List V}{cs:List (Option Int×Int)}(h:Cns H us cs):Cns H' us cs:=Paired.GQ h fun v c hq103=>by obtain⟨a,e,g⟩:=hq103;exact⟨a,e,S _ _ g⟩
theorem Cns.put{H:Hp}{F:Addr}{xs:List V}(g:H F=some (.lst xs))(o:HO){us:List V}{cs:List (Option Int×Int)}(h:Cns H us cs):Cns (upd H F o) us cs:=
 Paired.GQ h fun v c hq104=>by obtain⟨a,e,ga⟩:=hq104;exact⟨a,e,by rw[ai (fun z=>by rw[z,g] at ga;cases ga)];exact ga⟩
theorem Cns.at{H:Hp}:∀{us:List V}{cs:List (Option Int×Int)}{i:Nat},Cns H us cs->i<cs.length->∃a,us[i]?=some (.ref a)/\H a=some (.tup [ov (cs.getD i (none,0)).1,.int (cs.getD i (none,0)).2])
 |_,_,_,.nil,h=>absurd h (by simp)
 |_,_,0,.cons ⟨a,e,g⟩ _,_=>⟨a,by rw[e];rfl,g⟩
 |_,_,i+1,.cons _ r,h=>by
  obtain⟨a,h1,h2⟩:=Cns.at (i:=i) r (by simpa using h);exact⟨a,by simpa using h1,by simpa using h2⟩
def Kt:Sp:=fun vs H Q _=>∃l ws x,vs=[.ref l,.str (txt x)]/\H l=some (.lst (aj ws))/\Wok ws/\x.length<=400/\∀p us H',Fo H H'->H p=none->H' p=some (.lst us)->Cns H' us (bU ws x x.length)->Q (.ref p) H'
abbrev nvs(ns:List Nat):List V:=ns.map fun(n:Nat)=>V.int (n:Int)
def bp (ws:List (List Nat))(x:List Nat)(e:Nat):List Nat:=(aK ws x e).map (·.2)
theorem kc(ws:List (List Nat))(w x:List Nat)(e:Nat):bp (ws++[w]) x e=bp ws x e++(if bj (x.take e) w=true then [e-w.length] else []):=by
 unfold bp;rw[iC,AU];split<;>rfl
theorem oZ(ws:List (List Nat))(x:List Nat)(e:Nat):(bp ws x e).length<=ws.length:=by
 unfold bp aK;rw[AI,AI];refine AX (Ce _ _) ?_;rw[List.length_zipIdx];exact AH _
theorem nY{ns:List Nat}{k:Nat}{v:V}(h:(nvs ns)[k]?=some v):k<ns.length/\∃e,ns[k]?=some e/\v=.int (e:Int):=by
 have hk:k<(nvs ns).length:=(Bc.mp h).1;rw[AI] at hk;rw[AW,AL hk] at h;exact⟨hk,_,AL hk,(EM h).symm⟩
theorem rL{ns:List Int}{m:Int}(h1:m∈ns)(h2:∀n∈ns,m<=n):ns.min?=some m:=List.min?_eq_some_iff.mpr ⟨h1,h2⟩
theorem vA{d:DD}(D:Def K mg "_law_counts" (top 44) ["words","text"] d)(yJ:mg "range"=none)(yK:mg "len"=none)(yW:mg "min"=none)(yQ:mg "sum"=none):(fk 1 d ["words","text"] Kt):=by
 exists["words","text","found","at","ends","steps"]
 obtain⟨l,ws,x,rfl,hl,W,h400,q⟩:=h;refine⟨_,(ag (ac 2 (bg (aD (aO (Fn (ah _) (aD (ah _) ba) ba)) (by rfl)))) (ag (bB (hV yJ (Fn (ah _) (aD (az Fy (aR Fp yK (1) aC) (ah _)) (by rfl)) ba)) (am 3) (ag (cG 4 (aq (ts:=["word"]) (cap:=["text","at"]) (js:=[1,3]) rfl rfl rfl rfl rfl rfl (by decide +kernel)) (aN (0)) (ad 0 (nd ["word","text","at"])) (@bN _ _ _ (dG (jg EO PySem.F.slot_str_endswith PySem.F.type_str_endswith Ke (bf Gk (1) (@FH _) (bC (2))) (aD (0) aC)))) (az GI (2) (aR Fp yK (0) aC))) (ag (cG 5 (aq (ts:=["end"]) (cap:=["found"]) (js:=[2]) rfl rfl rfl rfl rfl rfl (by decide +kernel)) (aN (4)) (ad 0 (nd ["end","found"])) (@bN _ _ _ (aA Jf (aL (show IxR _ (uO K) from FQ) (aL (show IxR _ (jj K) from Fq) (1) (0)) (ah _)) (fu _) (aE _))) (az Fy (aL (show IxR _ (uO K) from FQ) (aL (show IxR _ (jj K) from Fq) (1) (0)) (ah _)) (ah _))) (ak (bx (iE (2) (aO (Fn (dF (aA (lH hr.units) (5) (bg (@FE _)) (aE _)) (aJ (nK hc) yW Iv (aD (5) aC)) (fu _)) (aD (aJ (bX hc) yQ GS (aD (aW (aq (ts:=["end"]) (cap:=["found"]) (js:=[2]) rfl rfl rfl rfl rfl rfl (by decide +kernel)) (aN (4)) (ad 0 (nd ["end","found"])) (@aV _) (aL (show IxR _ (uO K) from FQ) (aL (show IxR _ (jj K) from Fq) (1) (0)) (ah _))) (by rfl))) eV) (by rfl))) (by rfl))))))) (ak (aI (2))))),?_⟩
 walk_at "d"
 refine⟨av (by show 2<=1000000;decide),fun t0 nt0=>⟨av (by show 1<=1000000;decide),fun F nF=>?_⟩⟩;have S0:=(af nt0 (.tup [.int 0,.int 1])).trans (af nF (.lst [.ref t0]));have n0:H F=none:=(af nt0 (.tup [.int 0,.int 1])).free nF;have g0:upd (upd H t0 (.tup [.int 0,.int 1])) F (.lst [.ref t0]) F=some (.lst [.ref t0]):=ae;have C0:Cns (upd (upd H t0 (.tup [.int 0,.int 1])) F (.lst [.ref t0])) [.ref t0] (bU ws x 0):=.cons ⟨t0,rfl,af nF _ _ _ ae⟩ .nil;generalize upd (upd H t0 (.tup [.int 0,.int 1])) F (.lst [.ref t0])=HF at S0 g0 C0;refine⟨_,rfl,txt x,rfl,av (by show x.length<=1000000;lia),_,_,rfl,rfl,?_⟩;have big:x.length<2^62:=by lia
 refine⟨1,((txt x).length:Nat)+1,rfl,⟨by decide,by decide,by show -(2^62)<=((x.length:Nat):Int)+1;lia,by show((x.length:Nat):Int)+1<2^62;lia⟩,?_⟩;have en:((((txt x).length:Nat):Int)+1-1).toNat=x.length:=by show(((x.length:Nat):Int)+1-1).toNat=_;lia
 rw[en];refine⟨fun i m σ H'=>m=x.length-i/\i<=x.length/\(∃e' s' r',σ=[some (.ref l),some (.str (txt x)),some (.ref F),e',s',r'])/\∃us,Fo H H'/\H' F=some (.lst us)/\Cns H' us (bU ws x i),⟨_,rfl,Bi _,⟨_,_,_,rfl⟩,_,S0,g0,C0⟩,fun i m σ H' z=>?_⟩;obtain⟨rfl,hi,⟨e',s',r',rfl⟩,us,SH,gF,hC⟩:=z;by_cases hend:i=x.length
 ·subst hend;exact .inl ⟨AH _,_,rfl,q F us H' SH n0 gF hC⟩
 have hlt:i<x.length:=by lia
 refine .inr ⟨hlt,fun σ' H''=>(∃e' s' r',σ'=[some (.ref l),some (.str (txt x)),some (.ref F),e',s',r'])/\∃us,Fo H H''/\H'' F=some (.lst us)/\Cns H'' us (bU ws x (i+1)),fun σ' H'' z=>⟨x.length-(i+1),by lia,rfl,hlt,z.1,z.2⟩,fun v H'' z=>?_⟩;obtain⟨rfl,ev⟩:=z;obtain rfl:v=.int ((i+1:Nat):Int):=by rw[ev];congr 1;lia
 have Cl:=bK ws x i;have Cu:=Paired.length hC;have el:(aj ws).length=ws.length:=AI ..;have w8:=W.n8;have eends:bp ws x (i+1)=(aK ws x (i+1)).map (·.2):=rfl;have mends:∀e∈bp ws x (i+1),e<=i:=fun e h=>by
  obtain⟨s,hs,rfl⟩:=AJ.mp h;exact bW W hs
 have lends:(bp ws x (i+1)).length<=8:=by
  unfold bp aK;rw[AI,AI];refine AX (Ce _ _) ?_;rw[List.length_zipIdx];exact w8
 have eC:bU ws x (i+1)=bU ws x i++[(((bp ws x (i+1)).filterMap fun e=>((bU ws x i).getD e (none,0)).1.map (·+1)).min?,((bp ws x (i+1)).map fun e=>((bU ws x i).getD e (none,0)).2).sum)]:=by
  unfold bp;rw[DX,Bn];rfl
 have lzu:us.length<sizeLine:=Be (show _<1000000 by lia) (av (AH _));refine⟨_,rfl,l,rfl,⟨_,SqL.of (SH _ _ hl)⟩,?_⟩;refine cf (K:=K) (a:=l) (xs:=aj ws) (fun k ys H1=>Fo H'' H1/\ys=nvs (bp (ws.take k) x (i+1))) ⟨Fo.refl H'',rfl⟩ (fun k ys H1 hk z=>?_) (av (by lia)) (fun k ys H1 hk z=>SqL.of (z.1 _ _ (SH _ _ hl))) (fun k v ys H1 hv z=>?_) (fun ys H1 z p1 hp1=>?_)
 ·rw[z.2,AI];refine AX (oZ _ _ _) ?_;rw[AZ];lia
 ·obtain⟨z1,rfl⟩:=z;have hk:k<(aj ws).length:=(Bc.mp hv).1;have hk':k<ws.length:=by lia
  have ev:v=.str (txt ws[k]):=by
   rw[AW,AL hk'] at hv;exact(EM hv).symm
  subst ev;have hm:ws[k]∈ws:=Bq hk';have h40:=W.l40 _ hm;have et:ws.take (k+1)=ws.take k++[ws[k]]:=by rw[Bh,AL hk'];rfl
  have st:=kc (ws.take k) ws[k] x (i+1);rw[<- et] at st;refine⟨_,rfl,_,rfl,_,rfl,txt x,rfl,av (by show x.length<=1000000;lia),rfl,_,rfl,_,txt ws[k],rfl,rfl,bj (x.take (i+1)) ws[k],(by rw[fQ];rfl),?_⟩;cases hB:bj (x.take (i+1)) ws[k] with
  |false=>
   rw[hB] at st;show Nx (aj ws).length k (fun k ys H1=>Fo H'' H1/\ys=nvs (bp (ws.take k) x (i+1))) _ _;refine Nx.mk hk ⟨z1,?_⟩;rw[st];simp
  |true=>
   rw[hB] at st;have hle:=mZ hB;refine⟨_,rfl,_,rfl,txt ws[k],rfl,av (by show ws[k].length<=1000000;lia),_,_,rfl,rfl,Nx.mk hk ⟨z1,?_⟩⟩;rw[st];have e1:(((i+1:Nat):Int)-((txt ws[k]).length:Nat))=((i+1-ws[k].length:Nat):Int):=by
    show((i+1:Nat):Int)-(ws[k].length:Nat)=_;lia
   show nvs _++[V.int (((i+1:Nat):Int)-((txt ws[k]).length:Nat))]=_;rw[e1];simp[nvs]
 obtain⟨z1,rfl⟩:=z;rw[el,Bk (AH _)];have S1:Fo H'' (upd H1 p1 (.lst (nvs (bp ws x (i+1))))):=z1.trans (af hp1 _);have g1:upd H1 p1 (.lst (nvs (bp ws x (i+1)))) p1=some (.lst (nvs (bp ws x (i+1)))):=ae;generalize upd H1 p1 (.lst (nvs (bp ws x (i+1))))=H1p at S1 g1;generalize bp ws x (i+1)=ends at *;generalize bU ws x i=C at *;have lne:(nvs ends).length=ends.length:=AI ..;refine⟨_,rfl,p1,rfl,⟨_,SqL.of g1⟩,?_⟩;refine cf (K:=K) (a:=p1) (xs:=nvs ends) (fun k ys H2=>Fo H1p H2/\ys.length<=k/\ys=ivs ((ends.take k).filterMap fun e=>(C.getD e (none,0)).1.map (·+1))) ⟨Fo.refl H1p,AH _,rfl⟩ (fun k ys H2 hk z=>z.2.1) (av (by lia)) (fun k ys H2 hk z=>SqL.of (z.1 _ _ g1)) (fun k v ys H2 hv z=>?_) (fun ys H2 z p2 hp2=>?_)
 ·obtain⟨z1,z2,rfl⟩:=z;obtain⟨hk,e,ee,rfl⟩:=nY hv;have he:=mends e (Bg ee);obtain⟨a,eu,ga⟩:=hC.at (i:=e) (by lia);have et:ends.take (k+1)=ends.take k++[e]:=by rw[Bh,ee];rfl
  refine⟨_,rfl,_,rfl,F,us,_,_,rfl,rfl,SqL.of (z1 _ _ (S1 _ _ gF)),bh eu,a,_,0,_,rfl,rfl,SqT.of (z1 _ _ (S1 _ _ ga)),rfl,rfl,!decide (ov (C.getD e (none,0)).1=.non),rfl,?_⟩;cases ho:(C.getD e (none,0)).1 with
  |none=>
   show Nx (nvs ends).length k (fun k ys H2=>Fo H1p H2/\ys.length<=k/\ys=ivs ((ends.take k).filterMap fun e=>(C.getD e (none,0)).1.map (·+1))) _ _;refine Nx.mk (by lia) ⟨z1,by lia,?_⟩;rw[et,DT,List.filterMap_cons_none (by rw[ho];rfl)];simp
  |some m=>
   rw[ho] at ga;refine⟨_,rfl,_,rfl,F,us,_,_,rfl,rfl,SqL.of (z1 _ _ (S1 _ _ gF)),bh eu,a,_,0,.int m,rfl,rfl,SqT.of (z1 _ _ (S1 _ _ ga)),rfl,_,_,rfl,rfl,Nx.mk (by lia) ⟨z1,by rw[AK];exact Ff z2,?_⟩⟩;rw[et,DT,List.filterMap_cons_some (b:=m+1) (by rw[ho];rfl)];simp[ivs]
 obtain⟨z2,z3,rfl⟩:=z;rw[lne,Bk (AH _)];clear z3;have S2:Fo H1p (upd H2 p2 (.lst (ivs (ends.filterMap fun e=>(C.getD e (none,0)).1.map (·+1))))):=z2.trans (af hp2 _);have g2:upd H2 p2 (.lst (ivs (ends.filterMap fun e=>(C.getD e (none,0)).1.map (·+1)))) p2=some (.lst (ivs (ends.filterMap fun e=>(C.getD e (none,0)).1.map (·+1)))):=ae;generalize upd H2 p2 (.lst (ivs (ends.filterMap fun e=>(C.getD e (none,0)).1.map (·+1))))=H2p at S2 g2;generalize (ends.filterMap fun e=>(C.getD e (none,0)).1.map (·+1))=ss at *;refine⟨_,rfl,.inl ⟨rfl,_,SqL.of (S2 _ _ (S1 _ _ gF))⟩,_,rfl,Bi _,fun e1 ne1=>?_⟩;have S3:Fo H1p (upd H2p e1 (.lst [])):=S2.trans (af ne1 _);have g3:upd H2p e1 (.lst []) p2=some (.lst (ivs ss)):=af ne1 _ _ _ g2;refine⟨.list (ss.map PyData.int),.list [],.lst (SqL.of g3) (fk ss),.lst (SqL.of ae) .nil,eR ss,rfl,AX (mH ss) (by decide),!decide (ss=[]),(by show V.bl (!PyData.eqv _ (.list (([]:List Int).map PyData.int)))=_;rw[HP]),?_⟩;generalize upd H2p e1 (.lst [])=H3 at S3 g3;cases hE:(!decide (ss=[])) with
 |false=>
  have es:ss=[]:=by simpa using hE
  refine⟨_,rfl,p1,rfl,⟨_,SqL.of (S3 _ _ g1)⟩,?_⟩;refine cf (K:=K) (a:=p1) (xs:=nvs ends) (fun k ys H4=>Fo H3 H4/\ys=ivs ((ends.take k).map fun e=>(C.getD e (none,0)).2)) ⟨Fo.refl H3,rfl⟩ (fun k ys H4 hk z=>by rw[z.2,AI,AI,AZ];lia) (av (by lia)) (fun k ys H4 hk z=>SqL.of (z.1 _ _ (S3 _ _ g1))) (fun k v ys H4 hv z=>?_) (fun ys H4 z p4 hp4=>?_)
  ·obtain⟨z1,rfl⟩:=z;obtain⟨hk,e,ee,rfl⟩:=nY hv;have he:=mends e (Bg ee);obtain⟨a,eu,ga⟩:=hC.at (i:=e) (by lia);refine⟨_,rfl,_,rfl,F,us,_,_,rfl,rfl,SqL.of (z1 _ _ (S3 _ _ (S1 _ _ gF))),bh eu,a,_,1,_,rfl,rfl,SqT.of (z1 _ _ (S3 _ _ (S1 _ _ ga))),rfl,Nx.mk (by lia) ⟨z1,?_⟩⟩;rw[Bh,ee];simp[ivs]
  obtain⟨z1,rfl⟩:=z;rw[lne,Bk (AH _)];refine⟨p4,_,rfl,SqL.of ae,av (by show 2<=1000000;decide),fun t5 nt5=>?_⟩;have S5:Fo H'' (upd (upd H4 p4 (.lst (ivs (ends.map fun e=>(C.getD e (none,0)).2)))) t5 (.tup [ov (none),.int (ends.map fun e=>(C.getD e (none,0)).2).sum])):=S1.trans (S3.trans (z1.trans ((af hp4 _).trans (af nt5 _))));have gF5:=S5 _ _ gF;refine⟨F,us,_,rfl,rfl,gF5,lzu,⟨_,_,_,rfl⟩,us++[.ref t5],fun b o h=>?_,ae,?_⟩
  ·rw[ai (aB h n0)];exact S5 _ _ (SH _ _ h)
  ·have C5:Cns _ (us++[.ref t5]) (C++[(none,(ends.map fun e=>(C.getD e (none,0)).2).sum)]):=Paired.snoc (hC.mono S5) ⟨t5,rfl,ae⟩;rw[eC,show ss.min?=none by rw[es];rfl];exact C5.put gF5 _
 |true=>
  have es:ss≠[]:=by simpa using hE
  refine⟨_,rfl,p2,ss,rfl,SqL.of g3,es,fun mm hm hmin=>?_⟩;refine⟨_,rfl,p1,rfl,⟨_,SqL.of (S3 _ _ g1)⟩,?_⟩;refine cf (K:=K) (a:=p1) (xs:=nvs ends) (fun k ys H4=>Fo H3 H4/\ys=ivs ((ends.take k).map fun e=>(C.getD e (none,0)).2)) ⟨Fo.refl H3,rfl⟩ (fun k ys H4 hk z=>by rw[z.2,AI,AI,AZ];lia) (av (by lia)) (fun k ys H4 hk z=>SqL.of (z.1 _ _ (S3 _ _ g1))) (fun k v ys H4 hv z=>?_) (fun ys H4 z p4 hp4=>?_)
  ·obtain⟨z1,rfl⟩:=z;obtain⟨hk,e,ee,rfl⟩:=nY hv;have he:=mends e (Bg ee);obtain⟨a,eu,ga⟩:=hC.at (i:=e) (by lia);refine⟨_,rfl,_,rfl,F,us,_,_,rfl,rfl,SqL.of (z1 _ _ (S3 _ _ (S1 _ _ gF))),bh eu,a,_,1,_,rfl,rfl,SqT.of (z1 _ _ (S3 _ _ (S1 _ _ ga))),rfl,Nx.mk (by lia) ⟨z1,?_⟩⟩;rw[Bh,ee];simp[ivs]
  obtain⟨z1,rfl⟩:=z;rw[lne,Bk (AH _)];refine⟨p4,_,rfl,SqL.of ae,av (by show 2<=1000000;decide),fun t5 nt5=>?_⟩;have S5:Fo H'' (upd (upd H4 p4 (.lst (ivs (ends.map fun e=>(C.getD e (none,0)).2)))) t5 (.tup [ov (some mm),.int (ends.map fun e=>(C.getD e (none,0)).2).sum])):=S1.trans (S3.trans (z1.trans ((af hp4 _).trans (af nt5 _))));have gF5:=S5 _ _ gF;refine⟨F,us,_,rfl,rfl,gF5,lzu,⟨_,_,_,rfl⟩,us++[.ref t5],fun b o h=>?_,ae,?_⟩
  ·rw[ai (aB h n0)];exact S5 _ _ (SH _ _ h)
  ·have C5:Cns _ (us++[.ref t5]) (C++[(some mm,(ends.map fun e=>(C.getD e (none,0)).2).sum)]):=Paired.snoc (hC.mono S5) ⟨t5,rfl,ae⟩;rw[eC,rL hm hmin];exact C5.put gF5 _
abbrev revs(ws:List (List Nat)):List (List Nat):=ws.map List.reverse
def rst (ws:List (List Nat))(x:List Nat):List (Option Int×Int):=(bU (revs ws) x.reverse x.length).reverse
def few (ws:List (List Nat))(x:List Nat)(i:Nat):Option Int:=((rst ws x).getD i (none,0)).1
end
inductive Mk(ws:List (List Nat))(x:List Nat):Nat->List Int->Prop
 |nil:Mk ws x 0 []
 |snoc {e k:Nat}{w:List Nat}{r:List Int}:Mk ws x e r->ws[k]?=some w->(x.drop e).take w.length=w->e+w.length<=x.length->Mk ws x (e+w.length) (r++[(k:Int)])
theorem kM(y w:List Nat):bj y w=true↔w.length<=y.length/\(y.drop (y.length-w.length)).take w.length=w:=by
 unfold bj Txt.endswith;show(decide (0+w.length<=y.length)&&(y.toArray.extract (y.length-w.length) (y.length-w.length+w.length)==w.toArray))=true↔_;rw[Bx,decide_eq_true_iff,Fl];have e:(y.toArray.extract (y.length-w.length) (y.length-w.length+w.length)).toList=(y.drop (y.length-w.length)).take w.length:=by
  rw[Array.toList_extract];show(y.drop (y.length-w.length)).take (y.length-w.length+w.length-(y.length-w.length))=_;rw[Nat.add_sub_cancel_left]
 refine⟨fun⟨h1,h2⟩=>⟨by lia,by rw[<- e,h2]⟩,fun hq105=>?_⟩;obtain⟨h1,h2⟩:=hq105;refine⟨by lia,?_⟩;apply Array.toList_inj.mp;rw[e,h2]
theorem kf{ws:List (List Nat)}{x:List Nat}{e:Nat}(he:e<=x.length){k j:Nat}:(k,j)∈aK ws x e↔∃w,ws[k]?=some w/\j+w.length=e/\(x.drop j).take w.length=w:=by
 have tl:(x.take e).length=e:=by rw[AZ];lia
 have eb:∀w:List Nat,bj (x.take e) w=true↔w.length<=e/\(x.drop (e-w.length)).take w.length=w:=fun w=>by
  rw[kM,tl,List.drop_take];refine⟨fun⟨h1,h2⟩=>⟨h1,?_⟩,fun⟨h1,h2⟩=>⟨h1,?_⟩⟩
  ·rw[Ca,Ct (by lia)] at h2;exact h2
  ·rw[Ca,Ct (by lia)];exact h2
 constructor
 ·intro h;obtain⟨w,h1,h2,h3⟩:=jf h;obtain⟨h4,h5⟩:=(eb w).mp h2;have h3':j=e-w.length:=h3;exact⟨w,h1,by lia,by rw[h3'];exact h5⟩
 ·rintro⟨w,h1,h2,h3⟩;have ej:j=e-w.length:=by lia
  unfold aK;refine AJ.mpr ⟨(w,k),BI.mpr ⟨Ex.mpr h1,(eb w).mpr ⟨by lia,by rw[<- ej];exact h3⟩⟩,?_⟩;show(k,e-w.length)=_;rw[ej]
theorem Mk.step{ws:List (List Nat)}{x:List Nat}{e:Nat}(he:e<=x.length){r:List Int}{s:Nat×Nat}(hs:s∈aK ws x e)(h:Mk ws x s.2 r):Mk ws x e (r++[(s.1:Int)]):=by
 obtain⟨k,j⟩:=s;obtain⟨w,h1,h2,h3⟩:=(kf he).mp hs;subst h2;exact .snoc h h1 h3 he
theorem Mk.inv{ws:List (List Nat)}{x:List Nat}{e:Nat}{r:List Int}(h:Mk ws x e r):(e=0/\r=[])\/∃s r',s∈aK ws x e/\Mk ws x s.2 r'/\r=r'++[(s.1:Int)]:=by
 cases h with
 |nil=>exact .inl ⟨rfl,rfl⟩
 |@snoc e k w r h hw hx hl=>exact .inr ⟨(k,e),r,(kf hl).mpr ⟨w,hw,rfl,hx⟩,h,rfl⟩
theorem qp(ws:List (List Nat))(x:List Nat):∀n i,i<=n->∀m,n<=m->(bU ws x m).getD i (none,0)=(bU ws x n).getD i (none,0):=by
 intro n i hi m hm;induction m with
 |zero=>have:n=0:=(by lia);subst this;rfl
 |succ m ih=>
  by_cases e:n=m+1
  ·subst e;rfl
  ·rw[bU,fg,EF (by rw[bK];lia)];exact ih (by lia)
theorem tH{ws:List (List Nat)}(W:Wok ws){x:List Nat}:∀n,n<=x.length->∀e,e<=n ->
  (((bU ws x n).getD e (none,0)).1=none->∀r,¬Mk ws x e r)/\∀c,((bU ws x n).getD e (none,0)).1=some c->(∃r,Mk ws x e r/\(r.length:Int)=c)/\∀r,Mk ws x e r->c<=(r.length:Int):=by
 intro n;induction n with
 |zero=>
  intro _ e he;obtain rfl:e=0:=by lia
  refine⟨(fun h=>by cases h),fun c h=>?_⟩;have h':some (0:Int)=some c:=h;cases h';exact⟨⟨[],.nil,rfl⟩,fun r _=>by lia⟩
 |succ n ih=>
  intro hn e he;by_cases e1:e<=n
  ·have:=qp ws x n e e1 (n+1) (by lia);rw[this];exact ih (by lia) e e1
  ·obtain rfl:e=n+1:=by lia
   rw[bU,fg,EE (by rw[bK];lia),EF (by rw[bK])];have ih':=ih (by lia);constructor
   ·intro h r hr;have h0:=Ek.mp h;rcases hr.inv with ⟨z,_⟩|⟨s,r',hs,hr',rfl⟩
    ·lia
    ·have hle:=bW W hs;cases q:((bU ws x n).getD s.2 (none,0)).1 with
     |none=>exact(ih' s.2 hle).1 q r' hr'
     |some c=>
      have:c+1∈((aK ws x (n+1)).filterMap fun s=>((bU ws x n).getD s.2 (none,0)).1.map (·+1)):=BW.mpr ⟨s,hs,by rw[q];rfl⟩;rw[h0] at this;cases this
   ·intro c h;obtain⟨h1,h2⟩:=List.min?_eq_some_iff.mp h;obtain⟨s,hs,es⟩:=BW.mp h1;have hle:=bW W hs;constructor
    ·cases q:((bU ws x n).getD s.2 (none,0)).1 with
     |none=>rw[q] at es;cases es
     |some c'=>
      rw[q] at es;have es':c'+1=c:=by simpa using es
      obtain⟨⟨r,hr,hl⟩,_⟩:=(ih' s.2 hle).2 c' q;exact⟨r++[(s.1:Int)],hr.step hn hs,by rw[AK];show((r.length+1:Nat):Int)=c;lia⟩
    ·intro r hr;rcases hr.inv with ⟨z,_⟩|⟨s',r',hs',hr',rfl⟩
     ·lia
     ·have hle':=bW W hs';cases q:((bU ws x n).getD s'.2 (none,0)).1 with
      |none=>exact absurd hr' ((ih' s'.2 hle').1 q r')
      |some c'=>
       have:=h2 (c'+1) (BW.mpr ⟨s',hs',by rw[q];rfl⟩);have:=((ih' s'.2 hle').2 c' q).2 r' hr';rw[AK];show c<=((r'.length+1:Nat):Int)
       lia
theorem eX(ws:List (List Nat))(x:List Nat):∀n,cE ws x n=(bU ws x n).map (·.2)
 |0=>rfl
 |n+1=>by
  rw[cE,bU,AU,<- eX ws x n]
  congr 1
  show[_]=[_]
  congr 2
  apply Bz;intro s _;rw[eX ws x n,Ba,Ba,AW];cases (bU ws x n)[s.2]?<;>rfl
theorem Jo:∀(l:List Int),(∀y∈l,0<=y)->0<=l.sum/\(0<l.sum↔∃y∈l,0<y)
 |[],_=>⟨by decide,⟨fun h=>absurd h (by decide),fun⟨_,h,_⟩=>by cases h⟩⟩
 |a::l,h=>by
  obtain⟨i1,i2⟩:=Jo l fun y hy=>h y (AY _ hy);have ha:=h a AS;rw[Bf];refine⟨by lia,fun hp=>?_,fun⟨y,hy,hp⟩=>?_⟩
  ·by_cases z:0<a
   ·exact⟨a,AS,z⟩
   ·obtain⟨y,h1,h2⟩:=i2.mp (by lia);exact⟨y,AY _ h1,h2⟩
  ·rcases AN.mp hy with rfl|hy
   ·lia
   ·have:=i2.mpr ⟨y,hy,hp⟩;lia
theorem ux{ws:List (List Nat)}(W:Wok ws)(x:List Nat):∀n e,e<=n->0<=((bU ws x n).getD e (none,0)).2/\(0<((bU ws x n).getD e (none,0)).2↔((bU ws x n).getD e (none,0)).1≠none):=by
 intro n;induction n with
 |zero=>
  intro e he;obtain rfl:e=0:=by lia
  exact⟨(by show(0:Int)<=1;decide),(fun _ h=>by cases h),(fun _=>by show(0:Int)<1;decide)⟩
 |succ n ih=>
  intro e he;by_cases e1:e<=n
  ·have:=qp ws x n e e1 (n+1) (by lia);rw[this];exact ih e e1
  ·obtain rfl:e=n+1:=by lia
   rw[bU,fg,EE (by rw[bK];lia),EF (by rw[bK])]
   obtain⟨p1,p2⟩:=Jo ((aK ws x (n+1)).map fun s=>((bU ws x n).getD s.2 (none,0)).2) (fun y hy=>by
    obtain⟨s,hs,rfl⟩:=AJ.mp hy
    exact (ih s.2 (bW W hs)).1)
   refine⟨p1,p2.trans ⟨fun⟨y,hy,hp⟩ h=>?_,fun h=>?_⟩⟩
   ·obtain⟨s,hs,rfl⟩:=AJ.mp hy;have h0:=Ek.mp h;have:=(ih s.2 (bW W hs)).2.mp hp;cases q:((bU ws x n).getD s.2 (none,0)).1 with
    |none=>exact this q
    |some c=>
     have:c+1∈((aK ws x (n+1)).filterMap fun s=>((bU ws x n).getD s.2 (none,0)).1.map (·+1)):=BW.mpr ⟨s,hs,by rw[q];rfl⟩;rw[h0] at this;cases this
   ·cases q:((aK ws x (n+1)).filterMap fun s=>((bU ws x n).getD s.2 (none,0)).1.map (·+1)) with
    |nil=>exact absurd (Ek.mpr q) h
    |cons y l=>
     have:y∈((aK ws x (n+1)).filterMap fun s=>((bU ws x n).getD s.2 (none,0)).1.map (·+1)):=by rw[q];exact AS
     obtain⟨s,hs,es⟩:=BW.mp this;refine⟨_,AJ.mpr ⟨s,hs,rfl⟩,(ih s.2 (bW W hs)).2.mpr fun z=>?_⟩;rw[z] at es;cases es
inductive Pr(ws:List (List Nat)):List Nat->Prop
 |nil:Pr ws []
 |snoc {x w:List Nat}:Pr ws x->w∈ws->Pr ws (x++w)
theorem Pr.app{ws:List (List Nat)}{x y:List Nat}(hx:Pr ws x)(hy:Pr ws y):Pr ws (x++y):=by
 induction hy with
 |nil=>rw[Bp];exact hx
 |snoc _ hw ih=>rw[<- By];exact .snoc ih hw
theorem Pr.one{ws:List (List Nat)}{w:List Nat}(h:w∈ws):Pr ws w:=by
 have:=Pr.snoc Pr.nil h
 rwa [List.nil_append] at this
theorem xw{ws:List (List Nat)}{x:List Nat}{e:Nat}{r:List Int}(h:Mk ws x e r):Pr ws (x.take e):=by
 induction h with
 |nil=>exact .nil
 |@snoc e k w r h hw hx hl ih=>
  rw[List.take_add,hx];exact .snoc ih (Bg hw)
theorem xG{ws:List (List Nat)}{y:List Nat}(h:Pr ws y):∀x,y <+: x->∃r,Mk ws x y.length r:=by
 induction h with
 |nil=>intro x _;exact⟨[],.nil⟩
 |@snoc z w h hw ih=>
  intro x hx;obtain⟨t,rfl⟩:=hx;obtain⟨r,hr⟩:=ih (z++w++t) ⟨w++t,by rw[By]⟩;obtain⟨k,hk⟩:=Dv hw;refine⟨r++[(k:Int)],?_⟩;rw[AK];refine .snoc hr hk ?_ (by rw[AK,AK];lia);rw[By,BZ,CW]
theorem uX{ws:List (List Nat)}{x:List Nat}:Pr ws x↔∃r,Mk ws x x.length r:=
 ⟨fun h=>xG h x ⟨[],Bp x⟩,fun hq106=>by
  obtain⟨r,h⟩:=hq106;have:=xw h
  rwa [Bk (AH _)] at this⟩
def Wn (ws:List (List Nat))(x:List Nat):Int:=(cE ws x x.length).getD x.length 0
theorem vE(ws:List (List Nat))(x:List Nat):Wn ws x=((bU ws x x.length).getD x.length (none,0)).2:=by
 unfold Wn;rw[eX,Ba,Ba,AW];cases (bU ws x x.length)[x.length]?<;>rfl
theorem vY{ws:List (List Nat)}(W:Wok ws)(x:List Nat):((bU ws x x.length).getD x.length (none,0)).1≠none↔Pr ws x:=by
 have c:=tH W (x:=x) x.length (AH _) x.length (AH _);rw[uX];constructor
 ·intro h;cases q:((bU ws x x.length).getD x.length (none,0)).1 with
  |none=>exact absurd q h
  |some n=>obtain⟨⟨r,hr,_⟩,_⟩:=c.2 n q;exact⟨r,hr⟩
 ·rintro⟨r,hr⟩ h;exact c.1 h r hr
theorem kP{ws:List (List Nat)}(W:Wok ws)(x:List Nat):0<=Wn ws x/\(0<Wn ws x↔Pr ws x):=by
 have c:=ux W x x.length x.length (AH _);rw[<- vE] at c;exact⟨c.1,c.2.trans (vY W x)⟩
def oth (ws:List (List Nat))(w:List Nat):List (List Nat):=ws.filter fun o=>decide (o≠w)
def isN (ws:List (List Nat))(k:Nat):Bool:=!decide (ws.getD k []∈ws.take k)&&decide (Wn (oth ws (ws.getD k [])) (ws.getD k [])=0)
def nIx (ws:List (List Nat)):List Nat:=(List.range ws.length).filter (isN ws)
def nW (ws:List (List Nat)):List (List Nat):=(nIx ws).map fun k=>ws.getD k []
section
variable {P:Program}{w:World}{K:PySem.W.Frag}{mg:Str->Option Value}{base:Heap}
theorem dW{x y:List Nat}(h:txt x=txt y):x=y:=by
 have:(txt x).cps.toList=(txt y).cps.toList:=by rw[h]
 exact this
theorem eZ(ws:List (List Nat))(i:Nat):oB (aj ws) none (some ((i:Nat):Int))=aj (ws.take i):=by
 unfold oB;rw[HT.GA,CO,Nat.sub_zero];rw[HT.GZ,AI];show List.take _ (List.map _ ws)=List.map _ (List.take _ ws);rw[List.map_take];by_cases h:i<=ws.length
 ·rw[Ct h]
 ·rw[Dx (by lia),Bk (by rw[AI];lia),Bk (by rw[AI];lia)]
theorem Hz:bootBuiltins "sorted"=some (.builtin "sorted"):=by decide +kernel
theorem IV{ws os:List (List Nat)}:(vV ws).Perm (vV os)↔ws.Perm os:=by
 constructor
 ·intro h;have:=h.map fun z:Str=>z.cps.toList;have e:∀l:List (List Nat),(vV l).map (fun z:Str=>z.cps.toList)=l:=fun l=>by
   rw[Bn];show l.map (fun x=>x)=l;exact List.map_id' l
  rwa [e,e] at this
 ·exact fun h=>h.map _
theorem me{a b:List Str}{ws os:List (List Nat)}(pa:a.Perm (vV ws))(pb:b.Perm (vV os))(sa:sortedS a=true)(sb:sortedS b=true):a=b↔ws.Perm os:=by
 constructor
 ·rintro rfl;exact IV.mp (pa.symm.trans pb)
 ·intro h;exact HE (pa.trans ((IV.mpr h).trans pb.symm)) sa sb
end
theorem eY(y w:List Nat):bj y w=true↔w <:+ y:=by
 rw[kM];constructor
 ·rintro⟨h1,h2⟩;refine⟨y.take (y.length-w.length),?_⟩;have e:(y.drop (y.length-w.length)).take w.length=y.drop (y.length-w.length):=Bk (by rw[BX];lia);rw[e] at h2;rw[<- h2,BX];have:y.length-(y.length-(y.length-w.length))=y.length-w.length:=by lia
  rw[this];exact CV _ _
 ·rintro⟨t,rfl⟩;refine⟨by rw[AK];lia,?_⟩;rw[AK,show t.length+w.length-w.length=t.length by lia,BZ,Bk (AH _)]
theorem aM{α:Type}{l:List α}{f g:α->Int}(h:∀x∈l,f x=g x):(l.map f).sum=(l.map g).sum:=by
 rw[Bz h]
theorem bF{α:Type}(l:List α):(l.map fun _=>(0:Int)).sum=0:=by
 induction l with
 |nil=>rfl
 |cons a l ih=>rw[AQ,Bf,ih];rfl
theorem dz{α:Type}(f g:α->Int):∀l:List α,(l.map fun x=>f x+g x).sum=(l.map f).sum+(l.map g).sum
 |[]=>rfl
 |a::l=>by rw[AQ,Bf,AQ,Bf,AQ,Bf,dz f g l];lia
theorem eK{α β:Type}(f:α->β->Int)(m:List β):∀l:List α,(l.map fun x=>(m.map fun y=>f x y).sum).sum=(m.map fun y=>(l.map fun x=>f x y).sum).sum
 |[]=>(bF m).symm
 |a::l=>by
  rw[AQ,Bf,eK f m l,<- dz];apply aM;intro y _;rw[AQ,Bf]
theorem cV(l:List Int)(y:Int)(i:Nat):(l++[y]).getD i 0=if i<l.length then l.getD i 0 else if i=l.length then y else 0:=by
 rw[Ba,Ba];by_cases h:i<l.length
 ·rw[EF h,CM h]
 ·rw[EE h,Co (by lia)];by_cases e:i=l.length
  ·rw[EF e,e,Nat.sub_self];rfl
  ·rw[EE e,Ci (by show 1<=_;lia)];rfl
theorem qA(ws:List (List Nat))(x:List Nat):∀n i,i<=n->∀m,n<=m->(cE ws x m).getD i 0=(cE ws x n).getD i 0:=by
 intro n i hi m hm;induction m with
 |zero=>have:n=0:=(by lia);subst this;rfl
 |succ m ih=>
  by_cases e:n=m+1
  ·subst e;rfl
  ·rw[cE,cV,EF (by rw[dJ];lia)];exact ih (by lia)
theorem kW(ws:List (List Nat))(x y:List Nat):∀n,x.take n=y.take n->cE ws x n=cE ws y n
 |0,_=>rfl
 |n+1,h=>by
  have h':x.take n=y.take n:=by
   have:=congrArg (List.take n) h
   rwa [Ca,Ca,Ct (by lia)] at this
  rw[cE,cE,kW ws x y n h'];unfold aK;rw[h]
theorem nv(q:List Nat->Bool)(g:List Nat->Int):∀(ws:List (List Nat))(k:Nat),(((ws.zipIdx k).filter fun p=>q p.1).map fun p=>g p.1).sum=(ws.map fun w=>if q w=true then g w else 0).sum
 |[],_=>rfl
 |w::ws,k=>by
  rw[Ee,Bs,AQ,Bf,<- nv q g ws (k+1)];cases h:q w with
  |true=>rw[EF rfl,AQ,Bf,EF rfl]
  |false=>rw[EE (by decide),EE (by decide),Cv]
theorem sv{ws:List (List Nat)}(W:Wok ws){x:List Nat}{n:Nat}(hx:x.length=n+1):Wn ws x=(ws.map fun w=>if bj x w=true then Wn ws (x.take (n+1-w.length)) else 0).sum:=by
 unfold Wn;rw[hx,cE,cV,EE (by rw[dJ];lia),EF (by rw[dJ])];have e:((aK ws x (n+1)).map fun s=>(cE ws x n).getD s.2 0)=(aK ws x (n+1)).map fun s=>Wn ws (x.take s.2):=by
  apply Bz;intro s hs;have:=bW W hs;have hl:(x.take s.2).length=s.2:=by rw[AZ];lia
  unfold Wn;rw[hl,qA ws x s.2 s.2 (AH _) n this,kW ws x (x.take s.2) s.2 (by rw[Ca,Nat.min_self])]
 rw[e];unfold aK;rw[Bn];have:=nv (fun w=>bj (x.take (n+1)) w) (fun w=>Wn ws (x.take (n+1-w.length))) ws 0;rw[Bk (by lia)] at this ⊢;exact this
def cw (ws:List (List Nat))(r:List Nat):List Nat:=(r.map fun k=>ws.getD k []).flatten
theorem nM(ws:List (List Nat))(r:List Nat)(k:Nat):cw ws (r++[k])=cw ws r++ws.getD k []:=by
 unfold cw;rw[AU,Dm];show _++([ws.getD k []]:List (List Nat)).flatten=_;rw[DW,List.flatten_nil,Bp]
def nxt (m:Nat)(rs:List (List Nat)):List (List Nat):=rs.flatMap fun r=>(List.range m).map fun k=>r++[k]
def Rr (m:Nat):Nat->List (List Nat)
 |0=>[[]]
 |n+1=>nxt m (Rr m n)
def jk (m:Nat):Nat->List (List Nat)
 |0=>Rr m 0
 |n+1=>jk m n++Rr m (n+1)
theorem dE(m:Nat):∀n r,r∈Rr m n↔r.length=n/\∀k∈r,k<m
 |0,r=>by
  show r∈[[]]↔_;rw[AM];constructor
  ·rintro rfl;exact⟨rfl,fun k h=>by cases h⟩
  ·rintro⟨h,_⟩;exact Bv.mp h
 |n+1,r=>by
  rw[Rr,nxt,BQ];constructor
  ·rintro⟨a,ha,hr⟩;obtain⟨k,hk,rfl⟩:=AJ.mp hr;obtain⟨h1,h2⟩:=(dE m n a).mp ha;refine⟨by rw[AK,h1];rfl,fun j hj=>?_⟩;rcases AO.mp hj with h|h
   ·exact h2 j h
   ·rw[AM.mp h];exact BC.mp hk
  ·rintro⟨h1,h2⟩;rcases Dk r with rfl|⟨a,k,rfl⟩
   ·cases h1
   ·rw[Dl] at h1 h2 ⊢;refine⟨a,(dE m n a).mpr ⟨by rw[AK] at h1;exact Nat.succ.inj h1,fun j hj=>h2 j (Bo _ hj)⟩,AJ.mpr ⟨k,BC.mpr (h2 k (AV _ AS)),rfl⟩⟩
theorem cQ(m:Nat):∀n r,r∈jk m n↔r.length<=n/\∀k∈r,k<m
 |0,r=>by
  rw[jk,dE];constructor
  ·rintro⟨h1,h2⟩;exact⟨by lia,h2⟩
  ·rintro⟨h1,h2⟩;exact⟨by lia,h2⟩
 |n+1,r=>by
  rw[jk,AO,cQ m n,dE];constructor
  ·rintro (⟨h1,h2⟩|⟨h1,h2⟩)<;>exact⟨by lia,h2⟩
  ·rintro⟨h1,h2⟩;by_cases h:r.length=n+1
   ·exact .inr ⟨h,h2⟩
   ·exact .inl ⟨by lia,h2⟩
abbrev rI(r:List Nat):List Int:=r.map fun(k:Nat)=>(k:Int)
theorem gK(r:List Nat)(k:Nat):rI (r++[k])=rI r++[(k:Int)]:=AU
theorem fN(r:List Nat):(rI r).length=r.length:=AI ..
theorem tW{a b:List Int}(hl:a.length=b.length)(h:HT.lexLt a b=true)(x y:Int):HT.lexLt (a++[x]) (b++[y])=true:=by
 induction a generalizing b with
 |nil=>
  cases b with
  |nil=>rw[Ga] at h;cases h
  |cons _ _=>cases hl
 |cons p a ih=>
  cases b with
  |nil=>cases hl
  |cons q b=>
   rw[HT.FR] at h;show HT.lexLt (p::(a++[x])) (q::(b++[y]))=true;rw[HT.FR];by_cases e:p=q
   ·rw[EF e] at h ⊢;exact ih (by simpa using hl) h
   ·rw[EE e] at h ⊢;exact h
theorem rF(a:List Int){x y:Int}(h:x<y):HT.lexLt (a++[x]) (a++[y])=true:=by
 induction a with
 |nil=>
  show HT.lexLt [x] [y]=true;rw[HT.FR,EE (by lia)];exact EG h
 |cons p a ih=>
  show HT.lexLt (p::(a++[x])) (p::(a++[y]))=true;rw[HT.FR,EF rfl];exact ih
theorem sy(m:Nat):∀n,(Rr m n).Pairwise fun a b=>HT.lexLt (rI a) (rI b)=true
 |0=>DY _ _
 |n+1=>by
  rw[Rr,nxt,List.pairwise_flatMap];refine⟨fun a _=>?_,?_⟩
  ·rw[CD];refine List.Pairwise.imp (fun {i j} h=>?_) List.pairwise_lt_range;rw[gK,gK];exact rF _ (by lia)
  ·refine List.Pairwise.imp_of_mem (fun {a b} ha hb h x hx y hy=>?_) (sy m n);obtain⟨i,_,rfl⟩:=AJ.mp hx;obtain⟨j,_,rfl⟩:=AJ.mp hy;rw[gK,gK];exact tW (by rw[fN,fN,((dE m n a).mp ha).1,((dE m n b).mp hb).1]) h _ _
theorem rJ{a b:List Int}(hl:a.length=b.length)(h:HT.lexLt a b=true):kLt a b=true:=by
 unfold kLt lG;rw[EF (by rw[hl])];exact h
theorem oH{a b:List Int}(hl:a.length<b.length):kLt a b=true:=by
 unfold kLt lG;rw[EE (by lia)];exact EG (by lia)
theorem kS(m:Nat):∀n,(jk m n).Pairwise fun a b=>kLt (rI a) (rI b)=true
 |0=>DY _ _
 |n+1=>by
  rw[jk,List.pairwise_append];refine⟨kS m n,?_,fun a ha b hb=>oH ?_⟩
  ·refine List.Pairwise.imp_of_mem (fun {a b} ha hb h=>rJ ?_ h) (sy m (n+1));rw[fN,fN,((dE m _ a).mp ha).1,((dE m _ b).mp hb).1]
  ·have h1:=((cQ m n a).mp ha).1;have h2:=((dE m _ b).mp hb).1;rw[fN,fN];lia
theorem fH(p:List Nat->Bool)(m:Nat):∀rs:List (List Nat),(((nxt m rs).countP p:Nat):Int)=(rs.map fun r=>((List.range m).map fun k=>if p (r++[k])=true then (1:Int) else 0).sum).sum
 |[]=>rfl
 |r::rs=>by
  have ih:=fH p m rs;unfold nxt at ih ⊢;rw[CH,List.countP_append,AQ,Bf,<- ih,CY]
  congr 1
  induction List.range m with
  |nil=>rfl
  |cons k l ih2=>
   rw[AQ,El,AQ,Bf,CY,ih2];split<;>simp<;>lia
theorem fT(p:List Nat->Bool):∀rs:List (List Nat),((rs.countP p:Nat):Int)=(rs.map fun r=>if p r=true then (1:Int) else 0).sum
 |[]=>rfl
 |r::rs=>by
  rw[El,AQ,Bf,CY,fT p rs];split<;>simp<;>lia
def Cn' (ws:List (List Nat))(n:Nat)(x:List Nat):Int:=(((Rr ws.length n).countP fun r=>decide (cw ws r=x):Nat):Int)
theorem lC(a w x:List Nat):(a++w=x)↔(bj x w=true/\a=x.take (x.length-w.length)):=by
 rw[eY];constructor
 ·rintro rfl;refine⟨⟨a,rfl⟩,?_⟩;rw[AK,Nat.add_sub_cancel,CW]
 ·rintro⟨⟨t,rfl⟩,e⟩;rw[AK,Nat.add_sub_cancel,CW] at e;rw[e]
theorem fE(ws:List (List Nat))(f:List Nat->Int):((List.range ws.length).map fun k=>f (ws.getD k []))=ws.map f:=by
 apply List.ext_getElem
 ·rw[AI,AI,BG]
 ·intro i h1 h2;rw[AI] at h2;rw[Ef,Ef,List.getElem_range,Ba,AL h2];rfl
theorem ur(ws:List (List Nat))(n:Nat)(x:List Nat):Cn' ws (n+1) x=(ws.map fun w=>if bj x w=true then Cn' ws n (x.take (x.length-w.length)) else 0).sum:=by
 unfold Cn';rw[Rr,fH,eK,<- fE ws fun w=>if bj x w=true then (((Rr ws.length n).countP fun r=>decide (cw ws r=x.take (x.length-w.length)):Nat):Int) else 0];apply aM;intro k _;by_cases h:bj x (ws.getD k [])=true
 ·rw[EF h,fT];apply aM;intro r _
  congr 1
  rw[nM];apply propext;rw[decide_eq_true_iff,decide_eq_true_iff,lC];exact⟨fun z=>z.2,fun z=>⟨h,z⟩⟩
 ·rw[EE h];refine Eq.trans (aM (g:=fun _=>0) fun r _=>?_) (bF _);rw[EE];rw[decide_eq_true_iff,nM,lC];exact fun z=>h z.1
theorem kK(ws:List (List Nat))(x:List Nat):∀n,(((jk ws.length n).countP fun r=>decide (cw ws r=x):Nat):Int)=((List.range (n+1)).map fun i=>Cn' ws i x).sum
 |0=>by
  show _=Cn' ws 0 x+0;rw[Int.add_zero];rfl
 |n+1=>by
  rw[jk,List.countP_append,CY,kK ws x n,Dc (n:=n+1),AU,CC];show _=_+(Cn' ws (n+1) x+0)
  rw[Int.add_zero];rfl
theorem vZ{ws:List (List Nat)}(W:Wok ws):∀(n:Nat)(x:List Nat),x.length<=n->((List.range (n+1)).map fun i=>Cn' ws i x).sum=Wn ws x:=by
 have c0:∀x,Cn' ws 0 x=if x=[] then 1 else 0:=fun x=>by
  unfold Cn';show(((([]:List Nat)::[]).countP fun r=>decide (cw ws r=x):Nat):Int)=_;rw[El,List.countP_nil,show cw ws []=[] from rfl];by_cases h:x=[]
  ·subst h;rfl
  ·rw[EE h,EE (by rw[decide_eq_true_iff];exact fun z=>h z.symm)];rfl
 intro n;induction n with
 |zero=>
  intro x hx;obtain rfl:=Bv.mp (Nat.le_zero.mp hx);show Cn' ws 0 []+0=_;rw[c0,EF rfl];rfl
 |succ n ih=>
  intro x hx;have e:((List.range (n+1+1)).map fun i=>Cn' ws i x).sum=Cn' ws 0 x+((List.range (n+1)).map fun i=>Cn' ws (i+1) x).sum:=by
   rw[List.range_succ_eq_map,AQ,Bf,Bn];rfl
  rw[e,c0];have e2:((List.range (n+1)).map fun i=>Cn' ws (i+1) x).sum=(ws.map fun w=>if bj x w=true then ((List.range (n+1)).map fun i=>Cn' ws i (x.take (x.length-w.length))).sum else 0).sum:=by
   rw[aM (g:=fun i=>(ws.map fun w=>if bj x w=true then Cn' ws i (x.take (x.length-w.length)) else 0).sum) fun i _=>ur ws i x,eK];apply aM;intro w _;by_cases h:bj x w=true
   ·rw[EF h];apply aM;intro i _;rw[EF h]
   ·rw[EE h];refine Eq.trans (aM (g:=fun _=>0) fun i _=>?_) (bF _);rw[EE h]
  rw[e2];cases hl:x.length with
  |zero=>
   obtain rfl:=Bv.mp hl;rw[EF rfl];have:(ws.map fun w=>if bj [] w=true then ((List.range (n+1)).map fun i=>Cn' ws i (([]:List Nat).take (0-w.length))).sum else 0).sum=0:=by
    refine Eq.trans (aM (g:=fun _=>0) fun w hw=>?_) (bF _);rw[EE];intro h;have h3:=cR h;have h4:=W.l1 w hw;rw[Cd] at h3;lia
   rw[this];rfl
  |succ l=>
   rw[EE (fun z=>by rw[z] at hl;cases hl),Cv,sv W hl];apply aM;intro w hw;by_cases h:bj x w=true
   ·rw[EF h,EF h];have h1:=W.l1 w hw;exact ih _ (by rw[AZ];lia)
   ·rw[EE h,EE h]
theorem fL{ws:List (List Nat)}(W:Wok ws)(n:Nat)(x:List Nat)(h:x.length<=n):(((jk ws.length n).countP fun r=>decide (cw ws r=x):Nat):Int)=Wn ws x:=(kK ws x n).trans (vZ W n x h)
end K3
namespace KM
abbrev Fd:=Nat×List Nat×List Nat
structure Trk(ws:List (List Nat))(x:List Nat)(f:Fd):Prop where
 a:∀i∈f.2.1,i<ws.length
 b:∀i∈f.2.2,i<ws.length
 ne:∃i j s t,f.2.1=i::s/\f.2.2=j::t/\i≠j
 eq:bA ws f.2.1=bA ws f.2.2++x
 len:f.1=(bA ws f.2.1).length
def Sfx (ws:List (List Nat))(x:List Nat):Prop:=∃w∈ws,∃z,w=z++x
abbrev Ent:=List (List Nat×Fd)
def hJ (E:Ent)(x:List Nat):Option Fd:=(E.find? fun e=>decide (e.1=x)).map (·.2)
def kR (E:Ent)(x:List Nat)(f:Fd):Ent:=if (E.any fun e=>decide (e.1=x))=true then E.map (fun e=>if e.1=x then (e.1,f) else e) else E++[(x,f)]
def dU (E:Ent)(x:List Nat):Ent:=E.filter fun e=>decide (e.1≠x)
def bq (dn:List (List Nat))(E:Ent)(s:List Nat×Fd):Ent:=if s.1∈dn then E else match hJ E s.1 with
 |none=>kR E s.1 s.2
 |some f=>if s.2.1<f.1 then kR E s.1 s.2 else E
theorem lq{E:Ent}{x:List Nat}{f:Fd}(h:hJ E x=some f):(x,f)∈E:=by
 unfold hJ at h;obtain⟨e,h1,h2⟩:=BH.mp h;have h3:=List.find?_some h1;have h4:e.1=x:=EK h3;have h5:=Ew h1;have:e=(x,f):=Prod.ext h4 h2;rw[<- this];exact h5
theorem iV{E:Ent}{x:List Nat}(h:hJ E x=none):∀e∈E,e.1≠x:=by
 unfold hJ at h;have h1:=Option.map_eq_none_iff.mp h;intro e he z;have:=List.find?_eq_none.mp h1 e he;exact this (EG z)
theorem gx{E:Ent}(nd:(E.map (·.1)).Nodup){x:List Nat}{f:Fd}(h:(x,f)∈E):hJ E x=some f:=by
 cases e:hJ E x with
 |none=>exact absurd rfl (iV e _ h)
 |some g=>
  have h2:=lq e
  congr 1
  induction E with
  |nil=>cases h
  |cons p r ih=>
   rw[AQ,BK] at nd;rcases AN.mp h with h|h<;>rcases AN.mp h2 with h3|h3
   ·rw[<- h] at h3;exact(Prod.mk.inj h3).2
   ·exact absurd (AJ.mpr ⟨_,h3,by rw[<- h]⟩) nd.1
   ·exact absurd (AJ.mpr ⟨_,h,by rw[<- h3]⟩) nd.1
   ·refine ih nd.2 h ?_ h3;unfold hJ at e ⊢;rw[BB] at e;split at e
    ·rename_i c;have c':p.1=x:=EK c;exact absurd (AJ.mpr ⟨_,h,by rw[c']⟩) nd.1
    ·exact e
theorem eN{E:Ent}{x:List Nat}{f:Fd}{e:List Nat×Fd}(h:e∈kR E x f):e=(x,f)\/(e∈E/\e.1≠x):=by
 unfold kR at h;split at h
 ·obtain⟨d,hd,rfl⟩:=AJ.mp h;by_cases c:d.1=x
  ·rw[EF c,c];exact .inl rfl
  ·rw[EE c];exact .inr ⟨hd,c⟩
 ·rename_i c;rcases AO.mp h with h|h
  ·refine .inr ⟨h,fun z=>c ?_⟩;rw[BO];exact⟨e,h,EG z⟩
  ·exact .inl (AM.mp h)
theorem kl{E:Ent}{x:List Nat}{f:Fd}:(x,f)∈kR E x f:=by
 unfold kR;split
 ·rename_i c;obtain⟨e,he,hx⟩:=BO.mp c;have hx':e.1=x:=EK hx;exact AJ.mpr ⟨e,he,by rw[EF hx',hx']⟩
 ·exact AV _ (AM.mpr rfl)
theorem rj{E:Ent}{x:List Nat}{f:Fd}{e:List Nat×Fd}(h:e∈E)(n:e.1≠x):e∈kR E x f:=by
 unfold kR;split
 ·exact AJ.mpr ⟨e,h,by rw[EE n]⟩
 ·exact Bo _ h
theorem uz{E:Ent}{x:List Nat}{f:Fd}(nd:(E.map (·.1)).Nodup):((kR E x f).map (·.1)).Nodup:=by
 unfold kR;split
 ·have:(E.map fun e=>if e.1=x then (e.1,f) else e).map (·.1)=E.map (·.1):=by
   rw[Bn];refine Bz fun e _=>?_;show(if e.1=x then (e.1,f) else e).1=e.1;split<;>rfl
  rw[this];exact nd
 ·rename_i c;rw[AU,Du];refine⟨nd,by simp,fun a ha b hb z=>?_⟩;obtain⟨e,he,rfl⟩:=AJ.mp ha;have hb':b=x:=by simpa using hb
  exact c (BO.mpr ⟨e,he,EG (z.trans hb')⟩)
theorem Gd{E:Ent}{x:List Nat}{e:List Nat×Fd}:e∈dU E x↔e∈E/\e.1≠x:=by
 unfold dU;rw[BI];refine⟨fun hq107=>?_,fun⟨a,b⟩=>⟨a,EG b⟩⟩;obtain⟨a,b⟩:=hq107;exact⟨a,EK b⟩
theorem qz{E:Ent}{x:List Nat}(nd:(E.map (·.1)).Nodup):((dU E x).map (·.1)).Nodup:=nd.sublist (Ei.map _)
def Has (dn:List (List Nat×Nat))(E:Ent)(y:List Nat)(m:Nat):Prop:=(∃p∈dn,p.1=y/\p.2<=m)\/∃e∈E,e.1=y/\e.2.1<=m
structure Wt(ws:List (List Nat))(dn:List (List Nat×Nat))(E:Ent):Prop where
 trk:∀e∈E,Trk ws e.1 e.2/\Sfx ws e.1
 ndE:(E.map (·.1)).Nodup
 dis:∀e∈E,∀p∈dn,e.1≠p.1
 low:∀p∈dn,∀e∈E,p.2<=e.2.1
theorem bQ(dn:List (List Nat))(E:Ent)(s:List Nat×Fd):(s.1∈dn/\bq dn E s=E)\/(s.1∉dn/\(∃f,hJ E s.1=some f/\f.1<=s.2.1)/\bq dn E s=E)\/(s.1∉dn/\(∀f,hJ E s.1=some f->s.2.1<f.1)/\bq dn E s=kR E s.1 s.2):=by
 unfold bq;by_cases h:s.1∈dn
 ·rw[EF h];exact .inl ⟨h,rfl⟩
 ·rw[EE h];cases e:hJ E s.1 with
  |none=>exact .inr (.inr ⟨h,(fun f z=>(by cases z)),rfl⟩)
  |some f=>
   by_cases c:s.2.1<f.1
   ·simp only[EF c];exact .inr (.inr ⟨h,(fun g z=>(by cases z;exact c)),trivial⟩)
   ·simp only[EE c];exact .inr (.inl ⟨h,⟨f,rfl,by lia⟩,trivial⟩)
theorem Wt.keep{ws:List (List Nat)}{dn:List (List Nat×Nat)}{E:Ent}{s:List Nat×Fd}(h:Wt ws dn E)(ht:Trk ws s.1 s.2)(hs:Sfx ws s.1)(hl:∀p∈dn,p.2<=s.2.1):Wt ws dn (bq (dn.map (·.1)) E s):=by
 rcases bQ (dn.map (·.1)) E s with ⟨_,e⟩|⟨_,_,e⟩|⟨n,_,e⟩
 ·rw[e];exact h
 ·rw[e];exact h
 ·rw[e];refine⟨fun e he=>?_,uz h.ndE,fun e he p hp=>?_,fun p hp e he=>?_⟩
  ·rcases eN he with rfl|⟨he,_⟩
   ·exact⟨ht,hs⟩
   ·exact h.trk e he
  ·rcases eN he with rfl|⟨he,_⟩
   ·exact fun z=>n (AJ.mpr ⟨p,hp,z.symm⟩)
   ·exact h.dis e he p hp
  ·rcases eN he with rfl|⟨he,_⟩
   ·exact hl p hp
   ·exact h.low p hp e he
theorem pU{dn:List (List Nat×Nat)}{E:Ent}{s:List Nat×Fd}{y:List Nat}{m:Nat}(nd:(E.map (·.1)).Nodup)(h:Has dn E y m):Has dn (bq (dn.map (·.1)) E s) y m:=by
 rcases bQ (dn.map (·.1)) E s with ⟨_,e⟩|⟨_,_,e⟩|⟨n,lt,e⟩
 ·rw[e];exact h
 ·rw[e];exact h
 ·rw[e];rcases h with h|⟨d,hd,rfl,hm⟩
  ·exact .inl h
  ·by_cases c:d.1=s.1
   ·refine .inr ⟨(s.1,s.2),kl,c.symm,?_⟩;have:=lt d.2 (gx nd (by rw[<- c];exact hd));show s.2.1<=m;lia
   ·exact .inr ⟨d,rj hd c,rfl,hm⟩
theorem lV{dn:List (List Nat×Nat)}{E:Ent}{s:List Nat×Fd}(hl:∀p∈dn,p.2<=s.2.1):Has dn (bq (dn.map (·.1)) E s) s.1 s.2.1:=by
 rcases bQ (dn.map (·.1)) E s with ⟨h,e⟩|⟨_,⟨f,hf,le⟩,e⟩|⟨n,lt,e⟩
 ·rw[e];obtain⟨p,hp,z⟩:=AJ.mp h;exact .inl ⟨p,hp,z,hl p hp⟩
 ·rw[e];exact .inr ⟨_,lq hf,rfl,le⟩
 ·rw[e];exact .inr ⟨_,kl,rfl,AH _⟩
theorem jr{ws:List (List Nat)}{dn:List (List Nat×Nat)}:∀(ss:List (List Nat×Fd)){E:Ent},Wt ws dn E->(∀s∈ss,Trk ws s.1 s.2/\Sfx ws s.1/\∀p∈dn,p.2<=s.2.1) ->
  Wt ws dn (ss.foldl (bq (dn.map (·.1))) E)/\(∀y m,Has dn E y m->Has dn (ss.foldl (bq (dn.map (·.1))) E) y m)/\∀s∈ss,Has dn (ss.foldl (bq (dn.map (·.1))) E) s.1 s.2.1
 |[],E,h,_=>⟨h,fun _ _ z=>z,fun s hs=>absurd hs (by simp)⟩
 |s::r,E,h,hs=>by
  obtain⟨h1,h2,h3⟩:=hs s AS;obtain⟨g1,g2,g3⟩:=jr r (h.keep h1 h2 h3) fun t ht=>hs t (AY _ ht);rw[CB];refine⟨g1,fun y m z=>g2 y m (pU h.ndE z),fun t ht=>?_⟩;rcases AN.mp ht with rfl|ht
  ·exact g2 _ _ (lV h3)
  ·exact g3 t ht
structure Dij(ws:List (List Nat))(dn:List (List Nat×Nat))(E:Ent):Prop where
 wt:Wt ws dn E
 ndD:(dn.map (·.1)).Nodup
 nil:∀p∈dn,p.1≠[]/\Sfx ws p.1
 first:∀i j x,i<ws.length->j<ws.length->i≠j->ws.getD i []=ws.getD j []++x->Has dn E x (ws.getD i []).length
 within:∀p∈dn,∀k y,k<ws.length->p.1=ws.getD k []++y->Has dn E y p.2
 beyond:∀p∈dn,∀k y,k<ws.length->ws.getD k []=p.1++y->Has dn E y (p.2+y.length)
theorem Dij.start{ws:List (List Nat)}{ss:List (List Nat×Fd)}(h1:∀s∈ss,Trk ws s.1 s.2/\Sfx ws s.1)
  (h2:∀i j x,i<ws.length->j<ws.length->i≠j->ws.getD i []=ws.getD j []++x->∃s∈ss,s.1=x/\s.2.1=(ws.getD i []).length):Dij ws [] (ss.foldl (bq []) []):=by
 obtain⟨g1,g2,g3⟩:=jr (ws:=ws) (dn:=[]) ss (E:=[]) ⟨fun e h=>absurd h (by simp),by simp,fun e h=>absurd h (by simp),fun p h=>absurd h (by simp)⟩ fun s hs=>⟨(h1 s hs).1,(h1 s hs).2,fun p h=>absurd h (by simp)⟩
 refine⟨g1,by simp,fun p h=>absurd h (by simp),fun i j x hi hj n e=>?_,fun p h=>absurd h (by simp),fun p h=>absurd h (by simp)⟩;obtain⟨s,hs,rfl,e2⟩:=h2 i j x hi hj n e;rw[<- e2];exact g3 s hs
theorem Dij.step{ws:List (List Nat)}{dn:List (List Nat×Nat)}{E:Ent}{x:List Nat}{f:Fd}{ss:List (List Nat×Fd)}(h:Dij ws dn E)(hx:(x,f)∈E)(hmin:∀e∈E,f.1<=e.2.1)(hne:x≠[])
  (h1:∀s∈ss,Trk ws s.1 s.2/\Sfx ws s.1/\f.1<=s.2.1)(h2:∀k y,k<ws.length->x=ws.getD k []++y->∃s∈ss,s.1=y/\s.2.1=f.1)(h3:∀k y,k<ws.length->ws.getD k []=x++y->∃s∈ss,s.1=y/\s.2.1=f.1+y.length) :
  Dij ws (dn++[(x,f.1)]) (ss.foldl (bq ((dn.map (·.1))++[x])) (dU E x)):=by
 have em:(dn++[(x,f.1)]).map (·.1)=dn.map (·.1)++[x]:=by rw[AU];rfl
 have lo:∀p∈dn++[(x,f.1)],p.2<=f.1:=fun p hp=>by
  rcases AO.mp hp with hp|hp
  ·exact h.wt.low p hp _ hx
  ·rw[AM.mp hp];exact AH _
 have w0:Wt ws (dn++[(x,f.1)]) (dU E x):=by
  refine⟨fun e he=>h.wt.trk e (Gd.mp he).1,qz h.wt.ndE,fun e he p hp=>?_,fun p hp e he=>?_⟩
  ·obtain⟨he,hn⟩:=Gd.mp he;rcases AO.mp hp with hp|hp
   ·exact h.wt.dis e he p hp
   ·rw[AM.mp hp];exact hn
  ·exact AX (lo p hp) (hmin e (Gd.mp he).1)
 obtain⟨g1,g2,g3⟩:=jr ss w0 fun s hs=>⟨(h1 s hs).1,(h1 s hs).2.1,fun p hp=>AX (lo p hp) (h1 s hs).2.2⟩
 rw[em] at g1 g2 g3;have up:∀y m,Has dn E y m->Has (dn++[(x,f.1)]) (ss.foldl (bq ((dn.map (·.1))++[x])) (dU E x)) y m:=fun y m z=>by
  refine g2 y m ?_;rcases z with ⟨p,hp,z⟩|⟨e,he,rfl,hm⟩
  ·exact .inl ⟨p,Bo _ hp,z⟩
  ·by_cases c:e.1=x
   ·refine .inl ⟨(x,f.1),AV _ (AM.mpr rfl),c.symm,?_⟩;have:=hmin e he;show f.1<=m;lia
   ·exact .inr ⟨e,Gd.mpr ⟨he,c⟩,rfl,hm⟩
 refine⟨g1,?_,fun p hp=>?_,fun i j y hi hj n e=>up _ _ (h.first i j y hi hj n e),fun p hp k y hk e=>?_,fun p hp k y hk e=>?_⟩
 ·rw[em,Du];refine⟨h.ndD,by simp,fun a ha b hb z=>?_⟩;obtain⟨p,hp,rfl⟩:=AJ.mp ha;have hb':b=x:=by simpa using hb
  exact h.wt.dis _ hx p hp (z.trans hb').symm
 ·rcases AO.mp hp with hp|hp
  ·exact h.nil p hp
  ·rw[AM.mp hp];exact⟨hne,(h.wt.trk _ hx).2⟩
 ·rcases AO.mp hp with hp|hp
  ·exact up _ _ (h.within p hp k y hk e)
  ·rw[AM.mp hp] at e ⊢;obtain⟨s,hs,rfl,e2⟩:=h2 k y hk e;have:=g3 s hs;rw[e2] at this;exact this
 ·rcases AO.mp hp with hp|hp
  ·exact up _ _ (h.beyond p hp k y hk e)
  ·rw[AM.mp hp] at e ⊢;obtain⟨s,hs,rfl,e2⟩:=h3 k y hk e;have:=g3 s hs;rw[e2] at this;exact this
theorem Dij.closed{ws:List (List Nat)}{dn:List (List Nat×Nat)}(h:Dij ws dn []):Io ws fun x=>∃p∈dn,p.1=x:=by
 have has:∀{y m},Has dn [] y m->∃p∈dn,p.1=y:=fun z=>by
  rcases z with ⟨p,hp,e,_⟩|⟨e,he,_⟩
  ·exact⟨p,hp,e⟩
  ·cases he
 refine⟨fun i j x hi hj n e=>has (h.first i j x hi hj n e),fun n x y hn ⟨p,hp,e1⟩ e2=>has (h.within p hp n y hn (by rw[e1];exact e2)),fun n x y hn ⟨p,hp,e1⟩ e2=>has (h.beyond p hp n y hn (by rw[e1];exact e2)),fun hq109=>by obtain⟨p,hp,e⟩:=hq109;exact(h.nil p hp).1 e⟩
theorem oQ{α:Type} [DecidableEq α]:∀(U:List α){l:List α},l.Nodup->(∀x∈l,x∈U)->l.length<=U.length
 |[],l,_,h=>by
  cases l with
  |nil=>exact AH _
  |cons a r=>exact absurd (h a AS) (by simp)
 |u::U,l,nd,h=>by
  have h1:=oQ U (l:=l.erase u) (nd.erase u) fun x hx=>by
   have hm:=List.mem_of_mem_erase hx;rcases AN.mp (h x hm) with e|e
   ·exact absurd (by rw[e] at hx;exact hx) (List.Nodup.not_mem_erase nd)
   ·exact e
  have h2:l.length<=(l.erase u).length+1:=by
   rw[List.length_erase];split<;>lia
  rw[Bj];lia
def ends:List Nat->List (List Nat)
 |[]=>[[]]
 |c::r=>(c::r)::ends r
theorem cR:∀w,(ends w).length=w.length+1
 |[]=>rfl
 |c::r=>by rw[ends,Bj,cR r,Bj]
theorem Iq:∀(z:List Nat){w x:List Nat},w=z++x->x∈ends w
 |[],w,x,e=>by
  rw[e];show x∈ends x;cases x<;>simp[ends]
 |c::z,w,x,e=>by
  subst e;exact AY _ (Iq z rfl)
theorem Gm:∀{ws:List (List Nat)}{k:Nat},(∀w∈ws,w.length<=k)->(ws.flatMap ends).length<=ws.length*(k+1)
 |[],_,_=>Bi _
 |w::r,k,h=>by
  have h1:=Gm (ws:=r) (k:=k) fun v hv=>h v (AY _ hv);have h2:=h w AS;rw[CH,AK,cR,Bj,Nat.add_mul];lia
theorem mN{ws l:List (List Nat)}(h8:ws.length<=8)(h40:∀w∈ws,w.length<=40)(nd:l.Nodup)(h:∀x∈l,Sfx ws x):l.length<=328:=by
 have h1:=oQ (ws.flatMap ends) nd fun x hx=>by
  obtain⟨w,hw,z,e⟩:=h x hx;exact BQ.mpr ⟨w,hw,Iq z e⟩
 have h2:=Gm h40;have:ws.length*41<=8*41:=Nat.mul_le_mul_right _ h8;lia
end KM
namespace K3
open PySem PySem.Spec PyProof.Rows L2
section
variable {P:Program}{w:World}{K:PySem.W.Frag}{mg:Str->Option Value}{base:Heap}
open KM
theorem qb(x y:List Nat):Txt.startswith (txt x) (txt y)=decide (x.take y.length=y):=by
 unfold Txt.startswith;have hn:(txt x).length=x.length:=by show x.toArray.size=_;simp
 have hm:(txt y).length=y.length:=by show y.toArray.size=_;simp
 rw[StrLaws.subAt_eq,hm,hn];show(decide (0+y.length<=x.length)&&((x.drop 0).take y.length==y))=_;rw[CO];rw[Fe];simp only[Bx,decide_eq_true_eq,Fl];refine⟨fun h=>h.2,fun h=>⟨?_,h⟩⟩;have:=congrArg List.length h;rw[AZ] at this;lia
theorem bL(x y:List Nat):Txt.startswith (txt x) (txt y)=true↔∃z,x=y++z:=by
 rw[qb,decide_eq_true_eq];constructor
 ·intro h;exact⟨x.drop y.length,by have:=CV y.length x;rw[h] at this;exact this.symm⟩
 ·rintro⟨z,rfl⟩;exact CW
theorem cK(x:List Nat)(e:Nat):Txt.slice (txt x) (some (e:Int)) none=txt (x.drop e):=by
 apply dR;rw[cM];show sH x (some (e:Int)) none=x.drop e;unfold sH;rw[HT.GZ,HT.GA];rcases Nat.le_total e x.length with h|h
 ·rw[Ct h,Bk (by rw[BX];exact AH _)]
 ·rw[Dx h,Em h,Em (AH _)];simp
theorem bV{ws:List (List Nat)}{i:Nat}(h:i<ws.length):(aj ws)[i]?=some (.str (txt (ws.getD i []))):=by
 rw[AW,AL h,Ba,AL h];rfl
theorem aG{ws:List (List Nat)}{i:Nat}(h:i<ws.length):ws.getD i []∈ws:=by
 rw[Ba,AL h];exact Bq h
theorem aS{ws:List (List Nat)}{i:Nat}(h:i<ws.length):atI (aj ws) ((i:Nat):Int)=some (.str (txt (ws.getD i []))):=bh (bV h)
theorem aw(ws:List (List Nat)):(aj ws).length=ws.length:=AI _
abbrev iv(os:List Nat):List V:=(os.map fun n=>((n:Nat):Int)).map V.int
theorem gk(os:List Nat)(n:Nat):iv os++[V.int ((n:Nat):Int)]=iv (os++[n]):=by
 show _=((os++[n]).map _).map V.int;rw[AU,AU];rfl
theorem cX(os:List Nat):(iv os).length=os.length:=by rw[AI,AI]
def LP:Sp:=fun vs H Q _=>∃l ws,vs=[.ref l]/\H l=some (.lst (aj ws))/\Wds ws/\∀p us ps H',Fo H H'->H' p=some (.lst us)->Stp H' us ps->ps.length<=64->(∀i j,(i,j)∈ps↔i<ws.length/\j<ws.length/\i≠j/\∃z,ws.getD i []=ws.getD j []++z)->Q (.ref p) H'
theorem yn{d:DD}(D:Def K mg "first_pairs" (top 27) ["words"] d)(yK:mg "len"=none)(yJ:mg "range"=none):(fk 1 d ["words"] LP):=by
 exists["words","many","pairs"]
 obtain⟨l,ws,rfl,hl,hw,q⟩:=h;have h8:=hw.n8;refine⟨_,(ag (ac 1 (aR Ft yK (0) aC)) (ag (rM 2 (aq (ts:=["longer","shorter"]) (cap:=["many"]) (js:=[1]) rfl rfl rfl rfl rfl rfl (by decide +kernel)) (bb yJ (aD (1) aC)) (ad 0 (nd ["longer","shorter","many"])) (@aV _) (bb yJ (aD (2) aC)) (ad 1 (nd ["longer","shorter","many"])) (@bN _ _ _ (aA Jr (0) (1) (aE _))) (aO (Fn (0) (aD (1) aC) aC)) (by intro _ _;rfl)) (ak (aI (aW (aq (ts:=["longer","shorter"]) (cap:=["words"]) (js:=[0]) rfl rfl rfl rfl rfl rfl (by decide +kernel)) (aN (2)) (@dN _ _ _ _ _ 2 K rfl hc (ay (ad 0 (nd ["longer","shorter","words"])) (ay (ad 1 (nd ["longer","shorter","words"])) (@FG _))) (by rfl) (by rfl)) (@bN _ _ _ (dG (jg EO PySem.F.slot_str_startswith PySem.F.type_str_startswith Gq (aL (show IxR _ (jj K) from Fq) (2) (0)) (aD (aL (show IxR _ (jj K) from Fq) (2) (1)) (by rfl))))) (aO (Fn (0) (aD (1) aC) aC))))))),?_⟩
 walk_at "d"
 refine⟨_,rfl,l,_,rfl,.inl (SqL.of hl),?_⟩;rw[aw];refine⟨_,rfl,((ws.length:Nat):Int),rfl,by lia,by lia,?_⟩;refine wV (lo:=0) (n:=(((ws.length:Nat):Int)).toNat) (fun i ys H'=>Fo H H'/\∃ps,Stp H' ys ps/\ps.length<=8*i/\∀a b,(a,b)∈ps↔a<i/\b<ws.length/\a≠b) ⟨Fo.refl _,[],.nil,AH _,fun a b=>⟨fun h=>absurd h (by simp),fun h=>absurd h.1 (En _)⟩⟩ (fun i ys H' hi z=>by obtain⟨_,ps,h1,h2,_⟩:=z;rw[Paired.length h1];exact av (by lia)) (fun i ys H' hi z=>?_) (fun ys H1 z p1 hp1=>?_)
 ·obtain⟨z1,ps,z2,z3,z4⟩:=z;have hi':i<ws.length:=by lia
  refine⟨_,rfl,((ws.length:Nat):Int),rfl,by lia,by lia,?_⟩;refine vH (lo:=0) (n:=(((ws.length:Nat):Int)).toNat) (fun j σ ys H'=>Fo H H'/\(∃e1,σ=[some (.int (0+(i:Int))),e1,some (.int ((ws.length:Nat):Int))])/\∃ps,Stp H' ys ps/\ps.length<=8*i+j/\∀a b,(a,b)∈ps↔(a<i/\b<ws.length/\a≠b)\/(a=i/\b<j/\a≠b)) ⟨z1,⟨_,rfl⟩,ps,z2,z3,fun a b=>by rw[z4];lia⟩ (fun j σ ys H' hj z=>by obtain⟨_,_,ps,h1,h2,_⟩:=z;rw[Paired.length h1];exact BN (show _<=1000 by lia) (by decide)) (fun j σ ys H' hj z=>?_) (fun σ ys H' z=>?_)
  ·obtain⟨z1,⟨e1,rfl⟩,ps,z2,z3,z4⟩:=z;have hj':j<ws.length:=by lia
   refine⟨_,rfl,_,rfl,rfl,_,rfl,?_⟩;by_cases hij:i=j
   ·subst hij;refine Eq.mpr (EE (by simp)) ?_;exact NxV.mk hj ⟨z1,⟨_,rfl⟩,ps,z2,by lia,fun a b=>by rw[z4];lia⟩
   ·refine Eq.mpr (EF (by simp;lia)) ?_;refine⟨_,rfl,_,rfl,av (by show 2<=1000000;decide),fun a na=>?_⟩;have S1:=af na (.tup [.int (0+(i:Int)),.int (0+(j:Int))]);refine NxV.mk hj ⟨z1.trans S1,⟨_,rfl⟩,ps++[(i,j)],?_,by rw[AK];show ps.length+1<=_;lia,fun x y=>?_⟩
    ·refine Paired.snoc (z2.mono S1) ⟨a,rfl,?_⟩;rw[ae,Cv,Cv]
    ·rw[AO,z4,AM,Prod.mk.injEq];lia
  ·obtain⟨z1,_,ps,z2,z3,z4⟩:=z;exact Nx.mk hi ⟨z1,ps,z2,by lia,fun a b=>by rw[z4];lia⟩
 obtain⟨z1,ps,z2,z3,z4⟩:=z;have S1:=af hp1 (.lst ys);have gp1:upd H1 p1 (.lst ys) p1=some (.lst ys):=ae;have hs1:=z2.mono S1;have SA:=z1.trans S1;have yl:=Paired.length hs1;generalize upd H1 p1 (.lst ys)=H2 at S1 gp1 hs1 SA;refine⟨_,rfl,p1,rfl,⟨_,SqL.of gp1⟩,?_⟩;refine cf (K:=K) (a:=p1) (xs:=ys) (fun k ys' H'=>Fo H2 H'/\ys'.length<=k/\Stp H' ys' ((ps.take k).filter fun s=>Txt.startswith (txt (ws.getD s.1 [])) (txt (ws.getD s.2 [])))) ⟨Fo.refl _,AH _,.nil⟩ (fun k ys' H' hk z=>z.2.1) (av (by lia)) (fun k ys' H' hk z=>SqL.of (z.1 _ _ gp1)) (fun k v ys' H' hv z=>?_) (fun ys' H' z p hp=>?_)
 ·obtain⟨z1,z2',z3'⟩:=z;have hk:k<ys.length:=(Bc.mp hv).1;obtain⟨⟨i,j⟩,a,es,rfl,ha⟩:=Stp.at hs1 hv;obtain⟨hi,hj,_⟩:=(z4 i j).mp (Bg es);have hi:i<ws.length:=by lia
  have et:ps.take (k+1)=ps.take k++[(i,j)]:=by rw[Bh,es];rfl
  have gl:=z1 _ _ (SA _ _ hl);refine⟨a,_,rfl,SqT.of (z1 _ _ ha),rfl,_,_,rfl,_,_,rfl,rfl,?_⟩;refine⟨_,rfl,_,rfl,l,_,_,_,rfl,rfl,SqL.of gl,aS hi,rfl,_,rfl,_,rfl,l,_,_,_,rfl,rfl,SqL.of gl,aS hj,_,_,rfl,rfl,_,rfl,?_⟩;cases hB:Txt.startswith (txt (ws.getD i [])) (txt (ws.getD j [])) with
  |false=>
   refine Nx.mk (i:=k) (n:=ys.length) (P:=fun k ys' H'=>Fo H2 H'/\ys'.length<=k/\Stp H' ys' ((ps.take k).filter fun s=>Txt.startswith (txt (ws.getD s.1 [])) (txt (ws.getD s.2 [])))) hk ?_;refine⟨z1,by lia,?_⟩;rw[et,BR,Bs,hB];simpa using z3'
  |true=>
   refine⟨_,rfl,_,rfl,av (by show 2<=1000000;decide),fun a2 na2=>Nx.mk hk ⟨z1.trans (af na2 _),by rw[AK];exact Ff z2',?_⟩⟩;rw[et,BR,Bs,hB];exact Paired.snoc (z3'.mono (af na2 _)) ⟨a2,rfl,ae⟩
 obtain⟨z1,z2',z3'⟩:=z;rw[yl,Bk (AH _)] at z3';refine q p ys' _ _ (SA.trans (z1.trans (af hp _))) ae (z3'.mono (af hp _)) (AX (Ce _ _) (by lia)) fun i j=>?_;rw[BI,z4];show _/\Txt.startswith (txt (ws.getD i [])) (txt (ws.getD j []))=true↔_;rw[bL];constructor
 ·rintro⟨⟨h1,h2,h3⟩,h4⟩;exact⟨by lia,h2,h3,h4⟩
 ·rintro⟨h1,h2,h3,h4⟩;exact⟨⟨by lia,h2,h3⟩,h4⟩
def KA:Sp:=fun vs H Q _=>∃l ws x,vs=[.ref l,.str (txt x)]/\H l=some (.lst (aj ws))/\Wds ws/\∀p is H',Fo H H'->H' p=some (.lst (iv is))->is.length<=8->(∀i,i∈is↔i<ws.length/\∃z,x=ws.getD i []++z)->Q (.ref p) H'
theorem wu{d:DD}(D:Def K mg "words_within" (top 28) ["words","text"] d)(yN:mg "enumerate"=none):(fk 1 d ["words","text"] KA):=by
 exists["words","text"]
 obtain⟨l,ws,x,rfl,hl,hw,q⟩:=h;have h8:=hw.n8;refine⟨_,(ak (aI (aW (aq (ts:=["number","word"]) (cap:=["text"]) (js:=[1]) rfl rfl rfl rfl rfl rfl (by decide +kernel)) (ot yN (aD (0) aC)) (@dN _ _ _ _ _ 2 K rfl hc (ay (ad 0 (nd ["number","word","text"])) (ay (ad 1 (nd ["number","word","text"])) (@FG _))) (by rfl) (by rfl)) (@bN _ _ _ (dG (jg EO PySem.F.slot_str_startswith PySem.F.type_str_startswith Gq (2) (aD (1) aC)))) (0)))),?_⟩
 walk_at "d"
 refine⟨_,rfl,l,rfl,⟨_,SqL.of hl⟩,?_⟩;have el:=aw ws;refine wR (K:=K) (a:=l) (xs:=aj ws) (fun i ys H'=>Fo H H'/\∃is,ys=iv is/\is.length<=i/\∀a,a∈is↔a<i/\∃z,x=ws.getD a []++z) ⟨Fo.refl H,[],rfl,AH _,fun a=>⟨fun h=>absurd h (by simp),fun h=>absurd h.1 (En _)⟩⟩ (fun i ys H' hi z=>by obtain⟨_,is,rfl,h,_⟩:=z;rw[cX];exact h) (av (by lia)) (fun i ys H' hi z=>SqL.of (z.1 _ _ hl)) (fun i v ys H' p hx z hp=>?_) (fun ys H' z p hp=>?_)
 ·obtain⟨z1,is,rfl,z2,z3⟩:=z;have hi:i<(aj ws).length:=(Bc.mp hx).1;have hi':i<ws.length:=by lia
  rw[bV hi'] at hx;cases hx;have S1:=af hp (.tup [.int (i:Int),.str (txt (ws.getD i []))]);refine⟨p,_,rfl,SqT.of ae,rfl,_,_,rfl,_,_,rfl,rfl,?_⟩;refine⟨_,rfl,rfl,_,rfl,_,_,rfl,rfl,_,rfl,?_⟩;cases hB:Txt.startswith (txt x) (txt (ws.getD i [])) with
  |false=>
   refine Nx.mk (i:=i) (n:=(aj ws).length) (P:=fun i ys H'=>Fo H H'/\∃is,ys=iv is/\is.length<=i/\∀a,a∈is↔a<i/\∃z,x=ws.getD a []++z) hi ?_;refine⟨z1.trans S1,is,rfl,by lia,fun a=>?_⟩;rw[z3];have hn:¬∃z,x=ws.getD i []++z:=fun h=>by rw[(bL _ _).mpr h] at hB;cases hB
   constructor
   ·rintro⟨h1,h2⟩;exact⟨by lia,h2⟩
   ·rintro⟨h1,h2⟩;by_cases e:a=i
    ·subst e;exact absurd h2 hn
    ·exact⟨by lia,h2⟩
  |true=>
   refine⟨_,rfl,Nx.mk hi ⟨z1.trans S1,is++[i],gk is i,by rw[AK];exact Ff z2,fun a=>?_⟩⟩;have hn:=(bL _ _).mp hB;rw[AO,z3,AM];constructor
   ·rintro (⟨h1,h2⟩|rfl)
    ·exact⟨by lia,h2⟩
    ·exact⟨by lia,hn⟩
   ·rintro⟨h1,h2⟩;by_cases e:a=i
    ·exact .inr e
    ·exact .inl ⟨by lia,h2⟩
 ·obtain⟨z1,is,rfl,z2,z3⟩:=z;rw[el] at z2 z3;exact q p is _ (z1.trans (af hp _)) ae (by lia) z3
def KI:Sp:=fun vs H Q _=>∃l ws x,vs=[.ref l,.str (txt x)]/\H l=some (.lst (aj ws))/\Wds ws/\∀p is H',Fo H H'->H' p=some (.lst (iv is))->is.length<=8->(∀i,i∈is↔i<ws.length/\∃z,ws.getD i []=x++z)->Q (.ref p) H'
theorem wF{d:DD}(D:Def K mg "words_beyond" (top 29) ["words","text"] d)(yN:mg "enumerate"=none):(fk 1 d ["words","text"] KI):=by
 exists["words","text"]
 obtain⟨l,ws,x,rfl,hl,hw,q⟩:=h;have h8:=hw.n8;refine⟨_,(ak (aI (aW (aq (ts:=["number","word"]) (cap:=["text"]) (js:=[1]) rfl rfl rfl rfl rfl rfl (by decide +kernel)) (ot yN (aD (0) aC)) (@dN _ _ _ _ _ 2 K rfl hc (ay (ad 0 (nd ["number","word","text"])) (ay (ad 1 (nd ["number","word","text"])) (@FG _))) (by rfl) (by rfl)) (@bN _ _ _ (dG (jg EO PySem.F.slot_str_startswith PySem.F.type_str_startswith Gq (1) (aD (2) aC)))) (0)))),?_⟩
 walk_at "d"
 refine⟨_,rfl,l,rfl,⟨_,SqL.of hl⟩,?_⟩;have el:=aw ws;refine wR (K:=K) (a:=l) (xs:=aj ws) (fun i ys H'=>Fo H H'/\∃is,ys=iv is/\is.length<=i/\∀a,a∈is↔a<i/\∃z,ws.getD a []=x++z) ⟨Fo.refl H,[],rfl,AH _,fun a=>⟨fun h=>absurd h (by simp),fun h=>absurd h.1 (En _)⟩⟩ (fun i ys H' hi z=>by obtain⟨_,is,rfl,h,_⟩:=z;rw[cX];exact h) (av (by lia)) (fun i ys H' hi z=>SqL.of (z.1 _ _ hl)) (fun i v ys H' p hx z hp=>?_) (fun ys H' z p hp=>?_)
 ·obtain⟨z1,is,rfl,z2,z3⟩:=z;have hi:i<(aj ws).length:=(Bc.mp hx).1;have hi':i<ws.length:=by lia
  rw[bV hi'] at hx;cases hx;have S1:=af hp (.tup [.int (i:Int),.str (txt (ws.getD i []))]);refine⟨p,_,rfl,SqT.of ae,rfl,_,_,rfl,_,_,rfl,rfl,?_⟩;refine⟨_,rfl,rfl,_,rfl,_,_,rfl,rfl,_,rfl,?_⟩;cases hB:Txt.startswith (txt (ws.getD i [])) (txt x) with
  |false=>
   refine Nx.mk (i:=i) (n:=(aj ws).length) (P:=fun i ys H'=>Fo H H'/\∃is,ys=iv is/\is.length<=i/\∀a,a∈is↔a<i/\∃z,ws.getD a []=x++z) hi ?_;refine⟨z1.trans S1,is,rfl,by lia,fun a=>?_⟩;rw[z3];have hn:¬∃z,ws.getD i []=x++z:=fun h=>by rw[(bL _ _).mpr h] at hB;cases hB
   constructor
   ·rintro⟨h1,h2⟩;exact⟨by lia,h2⟩
   ·rintro⟨h1,h2⟩;by_cases e:a=i
    ·subst e;exact absurd h2 hn
    ·exact⟨by lia,h2⟩
  |true=>
   refine⟨_,rfl,Nx.mk hi ⟨z1.trans S1,is++[i],gk is i,by rw[AK];exact Ff z2,fun a=>?_⟩⟩;have hn:=(bL _ _).mp hB;rw[AO,z3,AM];constructor
   ·rintro (⟨h1,h2⟩|rfl)
    ·exact⟨by lia,h2⟩
    ·exact⟨by lia,hn⟩
   ·rintro⟨h1,h2⟩;by_cases e:a=i
    ·exact .inr e
    ·exact .inl ⟨by lia,h2⟩
 ·obtain⟨z1,is,rfl,z2,z3⟩:=z;rw[el] at z2 z3;exact q p is _ (z1.trans (af hp _)) ae (by lia) z3
open KM
def Hr (H:Hp)(v:V)(f:Fd):Prop:=∃p la lb,v=.ref p/\H p=some (.tup [.int ((f.1:Nat):Int),.ref la,.ref lb])/\H la=some (.lst (iv f.2.1))/\H lb=some (.lst (iv f.2.2))
theorem Hr.mono{H H':Hp}(S:Fo H H'){v:V}{f:Fd}(h:Hr H v f):Hr H' v f:=by
 obtain⟨p,la,lb,h1,h2,h3,h4⟩:=h;exact⟨p,la,lb,h1,S _ _ h2,S _ _ h3,S _ _ h4⟩
def Lo (H:Hp)(v:V)(s:List Nat×Fd):Prop:=∃p u,v=.ref p/\H p=some (.tup [.str (txt s.1),u])/\Hr H u s.2
abbrev SsL(H:Hp)(us:List V)(ss:List (List Nat×Fd)):Prop:=Paired (Lo H) us ss
theorem Lo.mono{H H':Hp}(S:Fo H H'){v:V}{s:List Nat×Fd}(h:Lo H v s):Lo H' v s:=by
 obtain⟨p,u,h1,h2,h3⟩:=h;exact⟨p,u,h1,S _ _ h2,h3.mono S⟩
theorem SsL.mono{H H':Hp}(S:Fo H H'){us:List V}{ss:List (List Nat×Fd)}(h:SsL H us ss):SsL H' us ss:=Paired.GQ h fun v s z=>z.mono S
theorem gO(ws:List (List Nat))(i:Nat):bA ws [i]=ws.getD i []:=by rw[bz];exact Bp _
theorem fq(ws:List (List Nat))(a:List Nat)(i:Nat):bA ws (a++[i])=bA ws a++ws.getD i []:=by
 unfold bA;rw[AU,Dm];show _++([ws.getD i []]).flatten=_;simp
theorem mS{ws:List (List Nat)}{i j:Nat}{z:List Nat}(hi:i<ws.length)(hj:j<ws.length)(ne:i≠j)(e:ws.getD i []=ws.getD j []++z):Trk ws z ((ws.getD i []).length,[i],[j]):=
 ⟨fun k h=>by rw[AM.mp h];exact hi,fun k h=>by rw[AM.mp h];exact hj,⟨i,j,[],[],rfl,rfl,ne⟩,by show bA ws [i]=bA ws [j]++z;rw[gO,gO];exact e,by show _=(bA ws [i]).length;rw[gO]⟩
def sT (ws:List (List Nat))(s:Nat×Nat):List Nat×Fd:=((ws.getD s.1 []).drop (ws.getD s.2 []).length,(ws.getD s.1 []).length,[s.1],[s.2])
def LO:Sp:=fun vs H Q _=>∃l ws,vs=[.ref l]/\H l=some (.lst (aj ws))/\Wds ws/\∀p us ss H',Fo H H'->H' p=some (.lst us)->SsL H' us ss->ss.length<=64->(∀s∈ss,Trk ws s.1 s.2/\Sfx ws s.1/\s.2.1<=40) ->
 (∀i j x,i<ws.length->j<ws.length->i≠j->ws.getD i []=ws.getD j []++x->∃s∈ss,s.1=x/\s.2.1=(ws.getD i []).length)->Q (.ref p) H'
theorem xA{df d:DD}(D_fp:(dg "first_pairs" 27 ["words"] df 1 LP))(D:Def K mg "first_steps" (top 30) ["words"] d)(yK:mg "len"=none):(fk 2 d ["words"] LO):=by
 exists["words","pairs"]
 obtain⟨l,ws,rfl,hl,hw,q⟩:=h;have h8:=hw.n8;refine⟨_,(ag (ax 1 (dC D_fp.1 D_fp.2 (0) aC)) (ak (aI (aW (aq (ts:=["one","other"]) (cap:=["words"]) (js:=[0]) rfl rfl rfl rfl rfl rfl (by decide +kernel)) (aN (1)) (@dN _ _ _ _ _ 2 K rfl hc (ay (ad 0 (nd ["one","other","words"])) (ay (ad 1 (nd ["one","other","words"])) (@FG _))) (by rfl) (by rfl)) (@aV _) (aO (Fn (bf Gk (aL (show IxR _ (jj K) from Fq) (2) (0)) (bC (aR Fp yK (aL (show IxR _ (jj K) from Fq) (2) (1)) (by rfl))) (@FH _)) (aD (aO (Fn (aR Fp yK (aL (show IxR _ (jj K) from Fq) (2) (0)) (by rfl)) (Fn (bg (aD (0) aC)) (aD (bg (aD (1) aC)) (by rfl)) (by rfl)) eV)) (by rfl)) (by rfl))))))),?_⟩
 walk_at "d"
 refine⟨_,rfl,l,ws,rfl,hl,hw,fun p0 us0 ps H1 S1 g0 hs0 hl0 hp0=>?_⟩;have yl:=Paired.length hs0;refine⟨_,rfl,p0,rfl,⟨_,SqL.of g0⟩,?_⟩;refine cf (K:=K) (a:=p0) (xs:=us0) (fun k ys' H'=>Fo H1 H'/\ys'.length<=k/\SsL H' ys' ((ps.take k).map (sT ws))) ⟨Fo.refl _,AH _,.nil⟩ (fun k ys' H' hk z=>z.2.1) (av (by lia)) (fun k ys' H' hk z=>SqL.of (z.1 _ _ g0)) (fun k v ys' H' hv z=>?_) (fun ys' H' z p hp=>?_)
 ·obtain⟨z1,z2,z3⟩:=z;have hk:k<us0.length:=(Bc.mp hv).1;obtain⟨⟨i,j⟩,a,es,rfl,ha⟩:=Stp.at hs0 hv;obtain⟨hi,hj,_⟩:=(hp0 i j).mp (Bg es);have et:ps.take (k+1)=ps.take k++[(i,j)]:=by rw[Bh,es];rfl
  have gl:=z1 _ _ (S1 _ _ hl);have li:=hw.l40 _ (aG hi);have lj:=hw.l40 _ (aG hj);refine⟨a,_,rfl,SqT.of (z1 _ _ ha),rfl,_,_,rfl,_,_,rfl,rfl,?_⟩;refine⟨_,rfl,_,rfl,l,_,_,_,rfl,rfl,SqL.of gl,aS hi,_,rfl,_,rfl,l,_,_,_,rfl,rfl,SqL.of gl,aS hj,txt (ws.getD j []),rfl,av (by show(ws.getD j []).length<=1000000;lia),_,rfl,txt (ws.getD i []),rfl,av (by show(ws.getD i []).length<=1000000;lia),?_⟩;rw[show Txt.slice (txt (ws.getD i [])) (some (((txt (ws.getD j [])).length:Nat):Int)) none=txt ((ws.getD i []).drop (ws.getD j []).length) from cK _ _];refine⟨_,rfl,_,rfl,l,_,_,_,rfl,rfl,SqL.of gl,aS hi,txt (ws.getD i []),rfl,av (by show(ws.getD i []).length<=1000000;lia),?_⟩;refine⟨_,rfl,av (by show 1<=1000000;decide),fun la nla=>⟨_,rfl,av (by show 1<=1000000;decide),fun lb nlb=>⟨av (by show 3<=1000000;decide),fun pf npf=>⟨av (by show 2<=1000000;decide),fun pp npp=>?_⟩⟩⟩⟩;have S2:=af nla (.lst [.int (i:Int)]);have S3:=af nlb (.lst [.int (j:Int)]);have S4:=af npf (.tup [.int (((txt (ws.getD i [])).length:Nat):Int),.ref la,.ref lb]);have S5:=af npp (.tup [.str (txt ((ws.getD i []).drop (ws.getD j []).length)),.ref pf]);have SS:=S2.trans (S3.trans (S4.trans S5));refine Nx.mk hk ⟨z1.trans SS,by rw[AK];exact Ff z2,?_⟩;rw[et,AU];exact Paired.snoc (SsL.mono SS z3) ⟨pp,.ref pf,rfl,ae,pf,la,lb,rfl,S5 _ _ ae,S5 _ _ (S4 _ _ (S3 _ _ ae)),S5 _ _ (S4 _ _ ae)⟩
 obtain⟨z1,z2,z3⟩:=z;rw[yl,Bk (AH _)] at z3;refine q p ys' _ _ (S1.trans (z1.trans (af hp _))) ae (SsL.mono (af hp _) z3) (by rw[AI];exact hl0) (fun s hs=>?_) fun i j x hi hj ne e=>?_
 ·obtain⟨⟨i,j⟩,hm,rfl⟩:=AJ.mp hs;obtain⟨hi,hj,ne,z,e⟩:=(hp0 i j).mp hm;have ez:(ws.getD i []).drop (ws.getD j []).length=z:=by rw[e];exact BZ
  refine⟨?_,?_,hw.l40 _ (aG hi)⟩
  ·show Trk ws ((ws.getD i []).drop (ws.getD j []).length) _;rw[ez];exact mS hi hj ne e
  ·exact⟨_,aG hi,ws.getD j [],by show _=_++(ws.getD i []).drop (ws.getD j []).length;rw[ez];exact e⟩
 ·refine⟨sT ws (i,j),AJ.mpr ⟨_,(hp0 i j).mpr ⟨hi,hj,ne,x,e⟩,rfl⟩,?_,rfl⟩;show(ws.getD i []).drop (ws.getD j []).length=x;rw[e];exact BZ
theorem cZ{ws:List (List Nat)}(h1:∀cs∈ws,1<=cs.length):∀(t:List Nat),(∀i∈t,i<ws.length)->t.length<=(bA ws t).length
 |[],_=>AH _
 |i::t,h=>by
  have a1:=cZ h1 t fun j hj=>h j (AY _ hj);have a2:=h1 _ (aG (h i AS));rw[bz,AK,Bj];lia
theorem sZ{ws:List (List Nat)}{x:List Nat}{f:Fd}(hw:Wds ws)(h:Trk ws x f):f.2.1.length<=f.1/\f.2.2.length<=f.1:=by
 have a1:=cZ hw.l1 f.2.1 h.a;have a2:=cZ hw.l1 f.2.2 h.b;have e:=congrArg List.length h.eq;rw[AK] at e;have:=h.len;lia
theorem uw{ws:List (List Nat)}{x:List Nat}(hw:Wds ws)(h:Sfx ws x):x.length<=40:=by
 obtain⟨w,hm,z,e⟩:=h;have:=hw.l40 w hm;rw[e,AK] at this;lia
theorem lZ{ws:List (List Nat)}{x y:List Nat}{f:Fd}{n:Nat}(h:Trk ws x f)(hs:Sfx ws x)(hn:n<ws.length)(e:x=ws.getD n []++y):Trk ws y (f.1,f.2.1,f.2.2++[n])/\Sfx ws y:=by
 obtain⟨i,j,s,t,e1,e2,ne⟩:=h.ne;refine⟨⟨h.a,fun k hk=>?_,⟨i,j,s,t++[n],e1,?_,ne⟩,?_,h.len⟩,?_⟩
 ·rcases AO.mp hk with hk|hk
  ·exact h.b k hk
  ·rw[AM.mp hk];exact hn
 ·show f.2.2++[n]=_;rw[e2];rfl
 ·show bA ws f.2.1=bA ws (f.2.2++[n])++y;rw[fq,h.eq,e,By]
 ·obtain⟨w,hm,z,ez⟩:=hs;exact⟨w,hm,z++ws.getD n [],by rw[ez,e,By]⟩
theorem mh{ws:List (List Nat)}{x y:List Nat}{f:Fd}{n:Nat}(h:Trk ws x f)(hn:n<ws.length)(e:ws.getD n []=x++y):Trk ws y (f.1+y.length,f.2.2++[n],f.2.1)/\Sfx ws y:=by
 obtain⟨i,j,s,t,e1,e2,ne⟩:=h.ne;have eq:bA ws (f.2.2++[n])=bA ws f.2.1++y:=by rw[fq,h.eq,e,By]
 refine⟨⟨fun k hk=>?_,h.a,⟨j,i,t++[n],s,?_,e1,EZ ne⟩,eq,?_⟩,_,aG hn,x,e⟩
 ·rcases AO.mp hk with hk|hk
  ·exact h.b k hk
  ·rw[AM.mp hk];exact hn
 ·show f.2.2++[n]=_;rw[e2];rfl
 ·show f.1+y.length=(bA ws (f.2.2++[n])).length;rw[eq,AK,h.len]
def wiS (ws:List (List Nat))(x:List Nat)(n0:Nat)(a b:List Nat)(n:Nat):List Nat×Fd:=(x.drop (ws.getD n []).length,n0,a,b++[n])
def beS (ws:List (List Nat))(x:List Nat)(n0:Nat)(a b:List Nat)(n:Nat):List Nat×Fd:=((ws.getD n []).drop x.length,n0+((ws.getD n []).drop x.length).length,b++[n],a)
abbrev BeL(H:Hp)(us:List V)(bs:List (List Nat×Nat)):Prop:=Paired (fun v b=>∃p,v=.ref p/\H p=some (.tup [.str (txt (b:List Nat×Nat).1),.int ((b.2:Nat):Int)])) us bs
theorem BeL.mono{H H':Hp}(S:Fo H H'){us:List V}{bs:List (List Nat×Nat)}(h:BeL H us bs):BeL H' us bs:=Paired.GQ h fun v s hq110=>by obtain⟨p,e,g⟩:=hq110;exact⟨p,e,S _ _ g⟩
theorem bY{α β:Type}{R:α->β->Prop}:∀{xs:List α}{ys:List β}{i:Nat}{x:α},Paired R xs ys->xs[i]?=some x->∃y,ys[i]?=some y/\R x y
 |_,_,_,_,.nil,h=>by cases h
 |_,_,0,x,.cons r _,h=>by cases h;exact⟨_,rfl,r⟩
 |_,_,i+1,x,.cons _ p,h=>bY (i:=i) p h
theorem dX{α β:Type}{R:α->β->Prop}:∀{xs:List α}{ys:List β}{xs':List α}{ys':List β},Paired R xs ys->Paired R xs' ys'->Paired R (xs++xs') (ys++ys')
 |_,_,_,_,.nil,h=>h
 |_,_,_,_,.cons a r,h=>.cons a (dX r h)
theorem xW{H:Hp}{us:List V}{js:List Nat}{g:Nat->List Nat}{k:Nat}{v:V}(h:BeL H us (js.map fun n=>(g n,n)))(hv:us[k]?=some v):∃n,js[k]?=some n/\∃p,v=.ref p/\H p=some (.tup [.str (txt (g n)),.int ((n:Nat):Int)]):=by
 obtain⟨y,hy,p,e,hp⟩:=bY h hv;rw[AW] at hy;obtain⟨n,hn,rfl⟩:=BH.mp hy;exact⟨n,hn,p,e,hp⟩
theorem tI{os:List Nat}{k:Nat}{v:V}(h:(iv os)[k]?=some v):∃n,os[k]?=some n/\v=.int ((n:Nat):Int):=by
 rw[AW,AW] at h;obtain⟨i,h1,rfl⟩:=BH.mp h;obtain⟨n,h2,rfl⟩:=BH.mp h1;exact⟨n,h2,rfl⟩
def LL:Sp:=fun vs H Q _=>∃l ws x v f,vs=[.ref l,.str (txt x),v]/\H l=some (.lst (aj ws))/\Wds ws/\Hr H v f/\Trk ws x f/\Sfx ws x/\f.1<=100000/\∀p us ss H',Fo H H'->H' p=some (.lst us)->SsL H' us ss->ss.length<=64->(∀s∈ss,Trk ws s.1 s.2/\Sfx ws s.1/\f.1<=s.2.1/\s.2.1<=f.1+40) ->
 (∀k y,k<ws.length->x=ws.getD k []++y->∃s∈ss,s.1=y/\s.2.1=f.1)->(∀k y,k<ws.length->ws.getD k []=x++y->∃s∈ss,s.1=y/\s.2.1=f.1+y.length)->Q (.ref p) H'
theorem xT{dw db d:DD}(zR:(dg "words_within" 28 ["words","text"] dw 1 KA))(zQ:(dg "words_beyond" 29 ["words","text"] db 1 KI))(D:Def K mg "next_steps" (top 31) ["words","left","found"] d)(yK:mg "len"=none):(fk 2 d ["words","left","found"] LL):=by
 exists["words","left","found","length","ahead","behind","within","beyond"]
 obtain⟨l,ws,x,v,f,rfl,hl,hw,hf,ht,hsx,hfb,q⟩:=h;have h8:=hw.n8;refine⟨_,(ag (fm (2) (dD (ay (am 3) (ay (am 4) (ay (am 5) (@FG _)))))) (ag (cG 6 (aq (ts:=["number"]) (cap:=["words","left","length","ahead","behind"]) (js:=[0,1,3,4,5]) rfl rfl rfl rfl rfl rfl (by decide +kernel)) (aN (aY zR.1 zR.2 (Fn (0) (aD (1) aC) aC))) (ad 0 (nd ["number","words","left","length","ahead","behind"])) (@aV _) (aO (Fn (bf Gk (2) (bC (aR Fp yK (aL (show IxR _ (jj K) from Fq) (1) (0)) (by rfl))) (@FH _)) (aD (aO (Fn (3) (Fn (4) (aD (az GF (5) (bg (aD (0) aC))) (by rfl)) aC) aC)) (by rfl)) (by rfl)))) (ag (cG 7 (aq (ts:=["number"]) (cap:=["words","left"]) (js:=[0,1]) rfl rfl rfl rfl rfl rfl (by decide +kernel)) (aN (aY zQ.1 zQ.2 (Fn (0) (aD (1) aC) aC))) (ad 0 (nd ["number","words","left"])) (@aV _) (aO (Fn (bf Gk (aL (show IxR _ (jj K) from Fq) (1) (0)) (bC (aR Fp yK (2) aC)) (@FH _)) (aD (0) aC) (by rfl)))) (ak (aI (az GF (6) (aW (aq (ts:=["over","number"]) (cap:=["length","ahead","behind"]) (js:=[3,4,5]) rfl rfl rfl rfl rfl rfl (by decide +kernel)) (aN (7)) (@dN _ _ _ _ _ 2 K rfl hc (ay (ad 0 (nd ["over","number","length","ahead","behind"])) (ay (ad 1 (nd ["over","number","length","ahead","behind"])) (@FG _))) (by rfl) (by rfl)) (@aV _) (aO (Fn (0) (aD (aO (Fn (az Fy (2) (aR Fp yK (0) aC)) (Fn (az GF (4) (bg (aD (1) aC))) (aD (3) aC) (by rfl)) (by rfl))) (by rfl)) aC))))))))),?_⟩
 walk_at "d"
 obtain⟨pf,la,lb,rfl,gf,ga,gb⟩:=hf;have hbl:=sZ hw ht;have xl:x.length<=40:=uw hw hsx;obtain⟨n0,a,b⟩:=f;have hfb:n0<=100000:=hfb;have hbl:a.length<=n0/\b.length<=n0:=hbl;have ga:H la=some (.lst (iv a)):=ga;have gb:H lb=some (.lst (iv b)):=gb;refine⟨_,rfl,pf,_,rfl,SqT.of gf,rfl,_,_,rfl,_,_,rfl,_,_,rfl,rfl,?_⟩;refine⟨_,rfl,_,rfl,l,ws,x,rfl,hl,hw,fun p1 is H1 S1 g1 n1 hi1=>⟨p1,rfl,⟨_,SqL.of g1⟩,?_⟩⟩;refine cf (K:=K) (a:=p1) (xs:=iv is) (fun k ys' H'=>Fo H1 H'/\ys'.length<=k/\SsL H' ys' ((is.take k).map (wiS ws x n0 a b))) ⟨Fo.refl _,AH _,.nil⟩ (fun k ys' H' hk z=>z.2.1) (av (by rw[cX];lia)) (fun k ys' H' hk z=>SqL.of (z.1 _ _ g1)) (fun k v ys' H' hv z=>?_) (fun ys2 H2 z p2 hp2=>?_)
 ·obtain⟨z1,z2,z3⟩:=z;have hk:k<(iv is).length:=(Bc.mp hv).1;obtain⟨n,en,rfl⟩:=tI hv;obtain⟨hn,y,ey⟩:=(hi1 n).mp (Bg en);have et:is.take (k+1)=is.take k++[n]:=by rw[Bh,en];rfl
  have gl:=z1 _ _ (S1 _ _ hl);have ln:=hw.l40 _ (aG hn);refine⟨_,rfl,_,rfl,_,rfl,l,_,_,_,rfl,rfl,SqL.of gl,aS hn,txt (ws.getD n []),rfl,av (by show(ws.getD n []).length<=1000000;lia),_,rfl,txt x,rfl,av (by show x.length<=1000000;lia),?_⟩;rw[show Txt.slice (txt x) (some (((txt (ws.getD n [])).length:Nat):Int)) none=txt (x.drop (ws.getD n []).length) from cK _ _];refine⟨_,rfl,_,rfl,_,rfl,_,rfl,av (by show 1<=1000000;decide),fun l1 nl1=>?_⟩;have S2:=af nl1 (.lst [.int (n:Int)]);refine⟨lb,l1,_,_,rfl,rfl,S2 _ _ (z1 _ _ (S1 _ _ gb)),ae,av (by rw[cX];show b.length+1<=1000000;lia),fun l2 nl2=>⟨av (by show 3<=1000000;decide),fun p3 np3=>⟨av (by show 2<=1000000;decide),fun p4 np4=>?_⟩⟩⟩;rw[gk] at np3 np4 ⊢;have S3:=af nl2 (.lst (iv (b++[n])));have S4:=af np3 (.tup [.int ((n0:Nat):Int),.ref la,.ref l2]);have S5:=af np4 (.tup [.str (txt (x.drop (ws.getD n []).length)),.ref p3]);have SS:=S2.trans (S3.trans (S4.trans S5));refine Nx.mk hk ⟨z1.trans SS,by rw[AK];exact Ff z2,?_⟩;rw[et,AU];exact Paired.snoc (SsL.mono SS z3) ⟨p4,.ref p3,rfl,ae,p3,la,l2,rfl,S5 _ _ ae,SS _ _ (z1 _ _ (S1 _ _ ga)),S5 _ _ (S4 _ _ ae)⟩
 obtain⟨z1,z2,z3⟩:=z;rw[cX,Bk (AH _)] at z3;have S2:=af hp2 (.lst ys2);have g2:upd H2 p2 (.lst ys2) p2=some (.lst ys2):=ae;have hs2:=SsL.mono S2 z3;have SA:=S1.trans (z1.trans S2);generalize upd H2 p2 (.lst ys2)=H3 at g2 hs2 SA ⊢;clear z1 z2 z3 S2 hp2;refine⟨_,rfl,_,rfl,l,ws,x,rfl,SA _ _ hl,hw,fun q1 js H4 S4 gq nq hj1=>⟨q1,rfl,⟨_,SqL.of gq⟩,?_⟩⟩;refine cf (K:=K) (a:=q1) (xs:=iv js) (fun k ys' H'=>Fo H4 H'/\ys'.length<=k/\BeL H' ys' ((js.take k).map fun n=>((ws.getD n []).drop x.length,n))) ⟨Fo.refl _,AH _,.nil⟩ (fun k ys' H' hk z=>z.2.1) (av (by rw[cX];lia)) (fun k ys' H' hk z=>SqL.of (z.1 _ _ gq)) (fun k v ys' H' hv z=>?_) (fun ys5 H5 z p5 hp5=>?_)
 ·obtain⟨z1,z2,z3⟩:=z;have hk:k<(iv js).length:=(Bc.mp hv).1;obtain⟨n,en,rfl⟩:=tI hv;obtain⟨hn,y,ey⟩:=(hj1 n).mp (Bg en);have et:js.take (k+1)=js.take k++[n]:=by rw[Bh,en];rfl
  have gl:=z1 _ _ (S4 _ _ (SA _ _ hl));have ln:=hw.l40 _ (aG hn);refine⟨_,rfl,_,rfl,l,_,_,_,rfl,rfl,SqL.of gl,aS hn,_,rfl,txt x,rfl,av (by show x.length<=1000000;lia),_,rfl,txt (ws.getD n []),rfl,av (by show(ws.getD n []).length<=1000000;lia),?_⟩;rw[show Txt.slice (txt (ws.getD n [])) (some (((txt x).length:Nat):Int)) none=txt ((ws.getD n []).drop x.length) from cK _ _];refine⟨_,rfl,av (by show 2<=1000000;decide),fun p4 np4=>?_⟩;have S5:=af np4 (.tup [.str (txt ((ws.getD n []).drop x.length)),.int (n:Int)]);refine Nx.mk hk ⟨z1.trans S5,by rw[AK];exact Ff z2,?_⟩;rw[et,AU];exact Paired.snoc (BeL.mono S5 z3) ⟨p4,rfl,ae⟩
 obtain⟨z1,z2,z3⟩:=z;rw[cX,Bk (AH _)] at z3;have S5:=af hp5 (.lst ys5);have g5:upd H5 p5 (.lst ys5) p5=some (.lst ys5):=ae;have hs5:=BeL.mono S5 z3;have SB:=S4.trans (z1.trans S5);generalize upd H5 p5 (.lst ys5)=H6 at g5 hs5 SB ⊢;clear z1 z2 z3 S5 hp5;have yl5:=Paired.length hs5;rw[AI] at yl5;refine⟨_,rfl,_,rfl,p5,rfl,⟨_,SqL.of g5⟩,?_⟩;refine cf (K:=K) (a:=p5) (xs:=ys5) (fun k ys' H'=>Fo H6 H'/\ys'.length<=k/\SsL H' ys' ((js.take k).map (beS ws x n0 a b))) ⟨Fo.refl _,AH _,.nil⟩ (fun k ys' H' hk z=>z.2.1) (av (by lia)) (fun k ys' H' hk z=>SqL.of (z.1 _ _ g5)) (fun k v ys' H' hv z=>?_) (fun ys7 H7 z p7 hp7=>?_)
 ·obtain⟨z1,z2,z3⟩:=z;have hk:k<ys5.length:=(Bc.mp hv).1;obtain⟨n,en,pe,rfl,hpe⟩:=xW hs5 hv;obtain⟨hn,y,ey⟩:=(hj1 n).mp (Bg en);have et:js.take (k+1)=js.take k++[n]:=by rw[Bh,en];rfl
  have ln:=hw.l40 _ (aG hn);have ld:((ws.getD n []).drop x.length).length<=40:=by rw[BX];lia
  refine⟨pe,_,rfl,SqT.of (z1 _ _ hpe),rfl,_,_,rfl,_,_,rfl,rfl,?_⟩;refine⟨_,rfl,_,rfl,_,rfl,txt ((ws.getD n []).drop x.length),rfl,av (by show((ws.getD n []).drop x.length).length<=1000000;lia),_,_,rfl,rfl,?_⟩;refine⟨_,rfl,_,rfl,av (by show 1<=1000000;decide),fun l1 nl1=>?_⟩;have S2:=af nl1 (.lst [.int (n:Int)]);refine⟨lb,l1,_,_,rfl,rfl,S2 _ _ (z1 _ _ (SB _ _ (SA _ _ gb))),ae,av (by rw[cX];show b.length+1<=1000000;lia),fun l2 nl2=>⟨_,rfl,av (by show 3<=1000000;decide),fun p3 np3=>⟨av (by show 2<=1000000;decide),fun p4 np4=>?_⟩⟩⟩;rw[gk] at np3 np4 ⊢;have S3:=af nl2 (.lst (iv (b++[n])));have S4:=af np3 (.tup [.int (((n0:Nat):Int)+(((txt ((ws.getD n []).drop x.length)).length:Nat):Int)),.ref l2,.ref la]);have S5:=af np4 (.tup [.str (txt ((ws.getD n []).drop x.length)),.ref p3]);have SS:=S2.trans (S3.trans (S4.trans S5));refine Nx.mk hk ⟨z1.trans SS,by rw[AK];exact Ff z2,?_⟩;rw[et,AU];exact Paired.snoc (SsL.mono SS z3) ⟨p4,.ref p3,rfl,ae,p3,l2,la,rfl,S5 _ _ ae,S5 _ _ (S4 _ _ ae),SS _ _ (z1 _ _ (SB _ _ (SA _ _ ga)))⟩
 obtain⟨z1,z2,z3⟩:=z;rw[yl5,Bk (AH _)] at z3;have S7:=af hp7 (.lst ys7);have hs7:=SsL.mono S7 z3;have hs2':=SsL.mono (SB.trans (z1.trans S7)) hs2;have l2:=Paired.length hs2;have l7:=Paired.length z3;rw[AI] at l2 l7;refine⟨p2,p7,_,_,rfl,rfl,S7 _ _ (z1 _ _ (SB _ _ g2)),ae,av (by lia),fun p np=>?_⟩;have S8:=af np (.lst (ys2++ys7));refine q p _ _ _ (SA.trans (SB.trans (z1.trans (S7.trans S8)))) ae (SsL.mono S8 (dX hs2' hs7)) (by rw[AK,AI,AI];lia) (fun s hs=>?_) (fun n y hn e=>?_) fun n y hn e=>?_
 ·rcases AO.mp hs with hs|hs
  ·obtain⟨n,hm,rfl⟩:=AJ.mp hs;obtain⟨hn,y,e⟩:=(hi1 n).mp hm;have ez:x.drop (ws.getD n []).length=y:=by rw[e];exact BZ
   obtain⟨t1,t2⟩:=lZ ht hsx hn e;have t1:Trk ws y (n0,a,b++[n]):=t1;refine⟨?_,?_,AH _,Dy _ _⟩
   ·show Trk ws (x.drop (ws.getD n []).length) _;rw[ez];exact t1
   ·show Sfx ws (x.drop (ws.getD n []).length);rw[ez];exact t2
  ·obtain⟨n,hm,rfl⟩:=AJ.mp hs;obtain⟨hn,y,e⟩:=(hj1 n).mp hm;have ez:(ws.getD n []).drop x.length=y:=by rw[e];exact BZ
   obtain⟨t1,t2⟩:=mh ht hn e;have t1:Trk ws y (n0+y.length,b++[n],a):=t1;have ln:=hw.l40 _ (aG hn);have ly:y.length<=40:=by rw[e,AK] at ln;lia
   refine⟨?_,?_,?_,?_⟩
   ·show Trk ws ((ws.getD n []).drop x.length) (n0+((ws.getD n []).drop x.length).length,_,_);rw[ez];exact t1
   ·show Sfx ws ((ws.getD n []).drop x.length);rw[ez];exact t2
   ·exact Dy _ _
   ·show n0+((ws.getD n []).drop x.length).length<=n0+40;rw[ez];lia
 ·refine⟨wiS ws x n0 a b n,Bo _ (AJ.mpr ⟨n,(hi1 n).mpr ⟨hn,y,e⟩,rfl⟩),?_,rfl⟩;show x.drop (ws.getD n []).length=y;rw[e];exact BZ
 ·have ez:(ws.getD n []).drop x.length=y:=by rw[e];exact BZ
  refine⟨beS ws x n0 a b n,AV _ (AJ.mpr ⟨n,(hj1 n).mpr ⟨hn,y,e⟩,rfl⟩),ez,?_⟩;show n0+((ws.getD n []).drop x.length).length=n0+y.length;rw[ez]
open KM
abbrev FF(H:Hp)(kvs:List (Key×V))(E:KM.Ent):Prop:=Paired (fun kv e=>(kv:Key×V).1=.inr (txt (e:List Nat×Fd).1)/\Hr H kv.2 e.2) kvs E
theorem FF.mono{H H':Hp}(S:Fo H H'){kvs:List (Key×V)}{E:KM.Ent}(h:FF H kvs E):FF H' kvs E:=Paired.GQ h fun kv e z=>⟨z.1,z.2.mono S⟩
theorem Gj{x y:List Nat}:(Sum.inr (txt x):Key)=.inr (txt y)↔x=y:=⟨fun h=>dW (Sum.inr.inj h),fun h=>by rw[h]⟩
theorem kJ{H:Hp}{x:List Nat}:∀{kvs:List (Key×V)}{E:KM.Ent},FF H kvs E->hJ E x=none->cb kvs (.inr (txt x))=none
 |_,_,.nil,_=>rfl
 |_,_,.cons (l₁:=kvs) (a:=kv) (b:=e) ⟨h1,h2⟩ r,h=>by
  have ne:e.1≠x:=iV h e AS;rw[bE (by rw[h1];exact fun z=>ne (Gj.mp z))];refine kJ r ?_;unfold hJ at h ⊢;rw[BB,EH ne] at h;exact h
theorem eS{H:Hp}{x:List Nat}{f:Fd}:∀{kvs:List (Key×V)}{E:KM.Ent},FF H kvs E->hJ E x=some f->∃v,cb kvs (.inr (txt x))=some v/\Hr H v f
 |_,_,.nil,h=>by cases h
 |_,_,.cons (a:=kv) (b:=e) ⟨h1,h2⟩ r,h=>by
  by_cases ne:e.1=x
  ·rw[bH (by rw[h1,ne])];unfold hJ at h;rw[BB,EG ne] at h;have:e.2=f:=EM h;rw[<- this];exact⟨_,rfl,h2⟩
  ·rw[bE (by rw[h1];exact fun z=>ne (Gj.mp z))];refine eS r ?_;unfold hJ at h ⊢;rw[BB,EH ne] at h;exact h
theorem pO{H:Hp}{x:List Nat}:∀{kvs:List (Key×V)}{E:KM.Ent},FF H kvs E->(kvs.any fun kv=>decide (kv.1=.inr (txt x)))=(E.any fun e=>decide (e.1=x))
 |_,_,.nil=>rfl
 |_,_,.cons ⟨h1,h2⟩ r=>by
  rw[Cq,Cq,pO r,h1]
  congr 1
  exact decide_eq_decide.mpr Gj
theorem pH{H:Hp}{x:List Nat}{v:V}{f:Fd}(hv:Hr H v f):∀{kvs:List (Key×V)}{E:KM.Ent},FF H kvs E->FF H (kvs.map fun kv=>if kv.1=.inr (txt x) then (kv.1,v) else kv) (E.map fun e=>if e.1=x then (e.1,f) else e)
 |_,_,.nil=>.nil
 |_,_,.cons (a:=kv) (b:=e) ⟨h1,h2⟩ r=>by
  refine .cons ?_ (pH hv r);show(if kv.1=.inr (txt x) then (kv.1,v) else kv).1=.inr (txt (if e.1=x then (e.1,f) else e).1)/\Hr H (if kv.1=.inr (txt x) then (kv.1,v) else kv).2 (if e.1=x then (e.1,f) else e).2;by_cases c:e.1=x
  ·rw[EF c,EF (by rw[h1,c])];exact⟨h1,hv⟩
  ·rw[EE c,EE (by rw[h1];exact fun z=>c (Gj.mp z))];exact⟨h1,h2⟩
theorem qa{H:Hp}{x:List Nat}{v:V}{f:Fd}{kvs:List (Key×V)}{E:KM.Ent}(h:FF H kvs E)(hv:Hr H v f):FF H (cY kvs (.inr (txt x)) v) (kR E x f):=by
 unfold cY kR;rw[pO h];split
 ·exact pH hv h
 ·exact dX h (.cons ⟨rfl,hv⟩ .nil)
theorem ko{H:Hp}{x:List Nat}:∀{kvs:List (Key×V)}{E:KM.Ent},FF H kvs E->FF H (bo kvs (.inr (txt x))) (dU E x)
 |_,_,.nil=>.nil
 |_,_,.cons (a:=kv) (b:=e) ⟨h1,h2⟩ r=>by
  have ih:=ko (x:=x) r;unfold bo dU at ih ⊢;rw[Bs,Bs];by_cases c:e.1=x
  ·rw[EH (fun z=>z (by rw[h1,c])),EH (fun z=>z c)];exact ih
  ·rw[EG (show kv.1≠_ by rw[h1];exact fun z=>c (Gj.mp z)),EG c];exact .cons ⟨h1,h2⟩ ih
def dnK (dn:List (List Nat)):List (Key×V):=dn.map fun x=>(.inr (txt x),.bl true)
theorem sY(x:List Nat):∀dn:List (List Nat),(cb (dnK dn) (.inr (txt x))).isSome=decide (x∈dn)
 |[]=>by rfl
 |y::r=>by
  have ih:=sY x r;show(cb ((.inr (txt y),.bl true)::dnK r) (.inr (txt x))).isSome=_;by_cases c:y=x
  ·rw[bH (by rw[c]),c];simp
  ·rw[bE (fun z=>c (Gj.mp z)),ih];refine decide_eq_decide.mpr ⟨fun z=>AY _ z,fun z=>(AN.mp z).elim (fun q=>absurd q.symm c) id⟩
theorem vD{x:List Nat}{dn:List (List Nat)}(h:x∉dn):cY (dnK dn) (.inr (txt x)) (.bl true)=dnK (dn++[x]):=by
 have e:((dnK dn).any fun kv=>decide (kv.1=.inr (txt x)))=false:=by
  rw[DE];intro kv hk;obtain⟨y,hy,rfl⟩:=AJ.mp hk;intro z;have:y=x:=Gj.mp (EK z);rw[this] at hy;exact h hy
 unfold cY;rw[e];show dnK dn++[_]=_;unfold dnK;rw[AU];rfl
theorem Hr.upd{H:Hp}{a:Addr}{kvs:List (Key×V)}{o:HO}(ha:H a=some (.dK kvs)){v:V}{f:Fd}(h:Hr H v f):Hr (L2.upd H a o) v f:=by
 obtain⟨p,la,lb,h1,h2,h3,h4⟩:=h;have n:∀b u,H b=some u->u≠.dK kvs->b≠a:=fun b u e ne z=>by rw[z,ha] at e;exact ne (EM e).symm
 exact⟨p,la,lb,h1,by rw[ai (n _ _ h2 (fun z=>by cases z))];exact h2,by rw[ai (n _ _ h3 (fun z=>by cases z))];exact h3,by rw[ai (n _ _ h4 (fun z=>by cases z))];exact h4⟩
theorem SsL.upd{H:Hp}{a:Addr}{kvs:List (Key×V)}{o:HO}(ha:H a=some (.dK kvs)){us:List V}{ss:List (List Nat×Fd)}(h:SsL H us ss):SsL (L2.upd H a o) us ss:=Paired.GQ h fun v s ⟨p,u,h1,h2,h3⟩=>
 ⟨p,u,h1,by rw[ai (fun z=>by rw[z,ha] at h2;cases h2)];exact h2,h3.upd ha⟩
theorem FF.upd{H:Hp}{a:Addr}{kvs0:List (Key×V)}{o:HO}(ha:H a=some (.dK kvs0)){kvs:List (Key×V)}{E:KM.Ent}(h:FF H kvs E):FF (L2.upd H a o) kvs E:=Paired.GQ h fun kv e z=>⟨z.1,z.2.upd ha⟩
theorem vC{H:Hp}{a:Addr}{o:HO}(h:H a=some o):L2.upd H a o=H:=by
 funext b
 by_cases e:b=a
 ·rw[e,ae,h]
 ·rw[ai e]
theorem kF{dn:List (List Nat)}:∀(ss:List (List Nat×Fd))(E:KM.Ent),(ss.foldl (bq dn) E).length<=E.length+ss.length
 |[],E=>AH _
 |s::r,E=>by
  have h1:=kF (dn:=dn) r (bq dn E s);have h2:(bq dn E s).length<=E.length+1:=by
   rcases bQ dn E s with ⟨_,e⟩|⟨_,_,e⟩|⟨_,_,e⟩
   ·rw[e];lia
   ·rw[e];lia
   ·rw[e];unfold kR;split
    ·rw[AI];lia
    ·rw[AK];exact AH _
  rw[CB,Bj];lia
def LR:Sp:=fun vs H Q _=>∃a b l kvs E dn us ss,vs=[.ref a,.ref b,.ref l]/\H a=some (.dK kvs)/\FF H kvs E/\a≠b/\H b=some (.dK (dnK dn))/\H l=some (.lst us)/\SsL H us ss/\E.length+ss.length<=1000 /\
 ∀kvs' H',H'=upd H a (.dK kvs')->FF H' kvs' (ss.foldl (bq dn) E)->Q .non H'
theorem yz{d:DD}(D:Def K mg "keep_shorter" (top 32) ["waiting","done","steps"] d):(fk 1 d ["waiting","done","steps"] LR):=by
 exists["waiting","done","steps","left","found"]
 obtain⟨a,b,l,kvs,E',dn,us,ss,rfl,ha,hE,nab,hb,hl,hS,hz,q⟩:=h;refine⟨_,(ak (bB (aN (2)) (dD (ay (ao 3) (ay (ao 4) (@FG _)))) (ak (bS (@PW.pt _ _ _ (fM (sL (ig (fD hr) (3) (1)) (by first|exact gz _ (by decide) (by decide)|rfl)) (dY (@PW.pt _ _ _ (mq (sL (ig (fD hr) (3) (0)) (by first|exact gz _ (by decide) (by decide)|rfl)) (kL (aA JD (aL FQ (4) (ah _)) (aL FQ (jO (fD hr) (0) (3)) (ah _)) (aE _)))))))) (ak (gm (fD hr) (0) (3) (4))) (Fv _))))),?_⟩
 walk_at "d"
 have yl:=Paired.length hS;refine⟨_,rfl,l,rfl,⟨_,SqL.of hl⟩,?_⟩;have nla:l≠a:=bD hl ha (fun z=>by cases z);refine eU (K:=K) (a:=l) (xs:=us) (fun i σ H'=>∃e3 e4 kvs',σ=[some (.ref a),some (.ref b),some (.ref l),e3,e4]/\H'=upd H a (.dK kvs')/\FF H' kvs' ((ss.take i).foldl (bq dn) E')) ⟨_,_,kvs,rfl,(vC ha).symm,hE⟩ (fun i σ H' hi z=>?_) (fun i v σ H' hv z=>?_) (fun σ H' z=>?_)
 ·obtain⟨_,_,kvs',_,rfl,_⟩:=z;exact SqL.of (by rw[ai nla];exact hl)
 ·obtain⟨e3,e4,kvs',rfl,eH,hE'⟩:=z;have hi:i<us.length:=(Bc.mp hv).1;obtain⟨s0,es,p,u,rfl,hp,hu⟩:=bY (by rw[eH];exact SsL.upd ha hS:SsL H' us ss) hv;have ha':H' a=some (.dK kvs'):=by rw[eH];exact ae
  have hb':H' b=some (.dK (dnK dn)):=by rw[eH,ai (EZ nab)];exact hb
  have et:(ss.take (i+1)).foldl (bq dn) E'=bq dn ((ss.take i).foldl (bq dn) E') s0:=by rw[Bh,es,List.foldl_append];rfl
  have few:kvs'.length<sizeLine:=by
   rw[Paired.length hE'];have:=kF (dn:=dn) (ss.take i) E';rw[AZ] at this;exact BN (show _<=1000 by lia) (by decide)
  generalize (ss.take i).foldl (bq dn) E'=Ec at hE' et;refine⟨p,_,rfl,SqT.of hp,rfl,_,_,rfl,_,_,rfl,rfl,?_⟩;refine⟨_,rfl,_,rfl,b,_,rfl,Ht.k (k:=.inr (txt s0.1)) hb',_,rfl,?_⟩;rw[sY];by_cases hd:s0.1∈dn
  ·rw[EG hd];refine⟨_,_,kvs',rfl,eH,?_⟩;rw[et];unfold bq;rw[EF hd];exact hE'
  rw[EH hd];refine⟨_,rfl,_,rfl,a,_,rfl,Ht.k (k:=.inr (txt s0.1)) ha',_,rfl,?_⟩;cases hg:hJ Ec s0.1 with
  |none=>
   rw[kJ hE' hg];refine⟨_,rfl,_,rfl,_,rfl,a,_,rfl,IS.k (k:=.inr (txt s0.1)) ha' few,?_⟩;refine⟨_,_,_,rfl,by rw[eH,ql],?_⟩;rw[et];unfold bq;rw[EE hd,hg];exact FF.upd ha' (qa hE' hu)
  |some f=>
   obtain⟨v',hv',hf⟩:=eS hE' hg;rw[hv'];obtain⟨p1,la1,lb1,eu,g1,_,_⟩:=id hu;obtain⟨p2,la2,lb2,ev,g2,_,_⟩:=id hf;have hv2:Ht H' a (.str (txt s0.1)) (some v'):=by rw[<- hv'];exact Ht.k (k:=.inr (txt s0.1)) ha'
   refine⟨_,rfl,p1,_,0,_,eu,rfl,SqT.of g1,rfl,_,rfl,_,rfl,a,v',rfl,hv2,p2,_,0,_,ev,rfl,SqT.of g2,rfl,_,_,rfl,rfl,decide (s0.2.1<f.1),?_,?_⟩
   ·show V.bl (decide (((s0.2.1:Nat):Int)<((f.1:Nat):Int)))=_
    congr 1
    exact decide_eq_decide.mpr ⟨fun h=>by lia,fun h=>by lia⟩
   by_cases hlt:s0.2.1<f.1
   ·rw[EG hlt];refine⟨_,rfl,_,rfl,_,rfl,a,_,rfl,IS.k (k:=.inr (txt s0.1)) ha' few,?_⟩;refine⟨_,_,_,rfl,by rw[eH,ql],?_⟩;rw[et];unfold bq;rw[EE hd,hg];simp only[EF hlt];exact FF.upd ha' (qa hE' hu)
   ·rw[EH hlt];refine⟨_,_,kvs',rfl,eH,?_⟩;rw[et];unfold bq;rw[EE hd,hg];simp only[EE hlt];exact hE'
 ·obtain⟨e3,e4,kvs',rfl,eH,hE'⟩:=z;rw[yl,Bk (AH _)] at hE';exact q kvs' H' eH hE'
open KM
def IG:Str:="twins_of.<locals>.<lambda>"
def Im:Pos:=⟨106,32,106,61⟩
def yH (T:Addr):Sp:=fun vs H Q _=>∃l ws,vs=[.ref l]/\H l=some (.lst (aj ws))/\Wds ws/\Gb Im IG T H/\(∀dn H',Dij ws dn []->SmB T H H'->Gb Im IG T H'->Q .non H') /\
 ∀p la lb a b dn E f H',Dij ws dn E->([],f)∈E->((∀e∈E,f.1<=e.2.1)/\f.1<=100000)->(f.2=(a,b)\/f.2=(b,a))->a.headD 0<b.headD 0->H' p=some (.tup [.ref la,.ref lb])->H' la=some (.lst (iv a))->H' lb=some (.lst (iv b))->SmB T H H'->Gb Im IG T H'->Q (.ref p) H'
theorem Hr.smb{H H':Hp}{T:Addr}{ps:Array Value}(hT:H T=some (.tbl ps))(S:SmB T H H'){v:V}{f:Fd}(h:Hr H v f):Hr H' v f:=by
 obtain⟨p,la,lb,h1,h2,h3,h4⟩:=h;have n:∀b u,H b=some u->u≠.tbl ps->b≠T:=fun b u e ne z=>by rw[z,hT] at e;exact ne (EM e).symm
 exact⟨p,la,lb,h1,S _ _ (n _ _ h2 (fun z=>by cases z)) h2,S _ _ (n _ _ h3 (fun z=>by cases z)) h3,S _ _ (n _ _ h4 (fun z=>by cases z)) h4⟩
theorem FF.smb{H H':Hp}{T:Addr}{ps:Array Value}(hT:H T=some (.tbl ps))(S:SmB T H H'){kvs:List (Key×V)}{E:KM.Ent}(h:FF H kvs E):FF H' kvs E:=Paired.GQ h fun kv e z=>⟨z.1,z.2.smb hT S⟩
theorem Gb.upd{pos:Pos}{q:Str}{T a:Addr}{H:Hp}{kvs:List (Key×V)}{o:HO}(h:Gb pos q T H)(ha:H a=some (.dK kvs)):Gb pos q T (L2.upd H a o):=by
 obtain⟨ps,h1,h2,h3⟩:=h.ex;refine⟨ps,by rw[ai (fun z=>by rw[z,ha] at h1;cases h1)];exact h1,h2,?_⟩;rcases h3 with h3|⟨c,h3,h4⟩
 ·exact .inl h3
 ·exact .inr ⟨c,h3,by rw[ai (fun z=>by rw[z,ha] at h4;cases h4)];exact h4⟩
theorem dy{dn:List (List Nat)}:∀(ss:List (List Nat×Fd)){E:KM.Ent}{e:List Nat×Fd},e∈ss.foldl (bq dn) E->e∈E\/e∈ss
 |[],E,e,h=>.inl h
 |s::r,E,e,h=>by
  rw[CB] at h;rcases dy r h with h|h
  ·rcases bQ dn E s with ⟨_,z⟩|⟨_,_,z⟩|⟨_,_,z⟩
   ·rw[z] at h;exact .inl h
   ·rw[z] at h;exact .inl h
   ·rw[z] at h;rcases eN h with h|⟨h,_⟩
    ·exact .inr (by rw[h];exact AS)
    ·exact .inl h
  ·exact .inr (AY _ h)
structure Tst(T:Addr)(ws:List (List Nat))(H0:Hp)(Da Wa:Addr)(dn:List (List Nat×Nat))(E:KM.Ent)(kvs:List (Key×V))(H:Hp):Prop where
 sm:SmB T H0 H
 gD:H Da=some (.dK (dnK (dn.map (·.1))))
 gW:H Wa=some (.dK kvs)
 nD:H0 Da=none
 nW:H0 Wa=none
 ne:Da≠Wa
 en:FF H kvs E
 lt:Gb Im IG T H
 dj:Dij ws dn E
 bd:∀e∈E,e.2.1<=40*(dn.length+1)
theorem kY{H:Hp}:∀{kvs:List (Key×V)}{E:KM.Ent},FF H kvs E->kvs.map (·.1)=(E.map fun e=>txt e.1).map Sum.inr
 |_,_,.nil=>rfl
 |_,_,.cons ⟨h1,_⟩ r=>by rw[AQ,AQ,AQ,kY r,h1]
def xj (E:KM.Ent)(k:Str):Int:=((hJ E k.cps.toList).map fun f=>((f.1:Nat):Int)).getD 0
theorem jD{E:KM.Ent}(nd:(E.map (·.1)).Nodup){x:List Nat}{f:Fd}(h:(x,f)∈E):xj E (txt x)=((f.1:Nat):Int):=by
 unfold xj;rw[show(txt x).cps.toList=x from rfl,gx nd h];rfl
theorem KD:Fs ["words","done","waiting","left","found","length","one","other"] ["words"] (ar (top 33)):=by walk_at "s"
theorem yw{dfs dks dns d:DD}{cd T:Addr}(LK:Ll K mg cd T)(hcode:d.fd.code=.ref cd)(D_fs:(dg "first_steps" 30 ["words"] dfs 2 LO))(D_ks:(dg "keep_shorter" 32 ["waiting","done","steps"] dks 1 LR))(D_ns:(dg "next_steps" 31 ["words","left","found"] dns 2 LL))(D:Def K mg "twins_of" (top 33) ["words"] d)(yW:mg "min"=none):(fk 4 d ["words"] (yH T)):=by
 refine D.fn.okC hcode KD (fun vs H Q E h=>?_) (fun A outer s H vs Q E hr h=>?_)
 ·obtain⟨l,ws,rfl,_⟩:=h;rfl
 obtain⟨l,ws,rfl,hl,hw,hT,qN,qS⟩:=h;have hc:=hr.calm;have nd:=KD.nd;have hdp:=BN (AX (Dy _ _) (Dy _ _)) hr.dp;have hu2:A.units+3+1+3+1<cLine:=by have:=hr.un;simp only[Around.deeper] at this;lia
 refine⟨_,(ag (ax 1 (@Ij _ _)) (ag (ac 2 (@Ij _ _)) (ag (bx (aY D_ks.1 D_ks.2 (Fn (2) (Fn (1) (aD (dC D_fs.1 D_fs.2 (0) aC) eV) aC) aC))) (ag (gg (qZ (2)) (ag (ax 3 (oT (cd) (T) (IG) ("text") (["waiting"]) ([2]) LK (aq (ts:=["text"]) (cap:=["waiting"]) (js:=[2]) rfl rfl rfl rfl rfl rfl (by decide +kernel)) (fun _ _ _ _ _=>rfl) hdp (aL (show IxR _ (uO K) from FQ) (jO hu2 (1) (0)) (ah _)) yW Iv (2))) (ag (ax 4 (@rN _ _ _ _ _ _ _ (2) (3) ⟨rfl,rfl,rfl,rfl⟩)) (ag (fm (4) (dD (ay (ao 5) (ay (ao 6) (ay (ao 7) (@FG _)))))) (ag (bS (aA GP (3) (aU _) (aE _)) (ak (aI (dF (aA JD (aL Fq (6) (ah _)) (aL Fq (7) (ah _)) (aE _)) (aO (Fn (6) (aD (7) aC) aC)) (aO (Fn (7) (aD (6) aC) aC))))) (Fv _)) (ag (gm (fD hr) (1) (3) (jK _)) (ak (bx (aY D_ks.1 D_ks.2 (Fn (2) (Fn (1) (aD (aY D_ns.1 D_ns.2 (Fn (0) (Fn (3) (aD (4) aC) aC) aC)) eV) aC) aC)))))))))) (ak (aI (fu _))))))),?_⟩
 walk_at "d"
 have h8:=hw.n8;refine fun Da nDa Wa nWa=>?_;have nDa':H Da=none:=nDa;have neDW:Da≠Wa:=fun z=>by rw[<- z,ae] at nWa;cases nWa
 have nWa':H Wa=none:=by rw[ai (EZ neDW)] at nWa;exact nWa
 have S1:Fo H (upd (upd H Da (.dK [])) Wa (.dK [])):=(af nDa _).trans (af nWa _);have gD1:upd (upd H Da (.dK [])) Wa (.dK []) Da=some (.dK []):=by rw[ai neDW];exact ae
 have gW1:upd (upd H Da (.dK [])) Wa (.dK []) Wa=some (.dK []):=ae;generalize upd (upd H Da (.dK [])) Wa (.dK [])=H1 at S1 gD1 gW1;refine⟨_,rfl,_,rfl,_,rfl,l,ws,rfl,S1 _ _ hl,hw,fun p1 us1 ss1 H2 S2 gp1 hss1 ls1 hs1 hf1=>?_⟩;refine⟨Wa,Da,p1,[],[],[],us1,ss1,rfl,S2 _ _ gW1,.nil,EZ neDW,S2 _ _ gD1,gp1,hss1,by show 0+ss1.length<=1000;lia,fun kvs1 H3 eH3 hE3=>?_⟩;have gW2:=S2 _ _ gW1;have t0:Tst T ws H Da Wa [] (ss1.foldl (bq []) []) kvs1 H3:=by
  refine⟨fun b o nT e=>?_,?_,by rw[eH3];exact ae,nDa',nWa',neDW,hE3,?_,Dij.start (fun s hs=>⟨(hs1 s hs).1,(hs1 s hs).2.1⟩) hf1,fun e he=>?_⟩
  ·have:=S2 _ _ (S1 _ _ e);rw[eH3,ai (aB e nWa')];exact this
  ·rw[eH3,ai neDW];exact S2 _ _ gD1
  ·rw[eH3];exact Gb.upd ((hT.same S1).same S2) gW2
  ·rcases dy _ he with he|he
   ·cases he
   ·have:=(hs1 e he).2.2;show _<=40*(0+1);lia
 clear hE3 hs1 hf1 hss1 gp1;refine⟨fun m σ H'=>∃(dn:List (List Nat×Nat))(E:KM.Ent)(kvs:List (Key×V))(e3 e4 e5 e6 e7:Option V),σ=[some (.ref l),some (.ref Da),some (.ref Wa),e3,e4,e5,e6,e7]/\Tst T ws H Da Wa dn E kvs H'/\m=1000-dn.length,⟨1000,[],_,kvs1,_,_,_,_,_,rfl,t0,rfl⟩,?_⟩;rintro m σ H4 ⟨dn,E',kvs,e3,e4,e5,e6,e7,rfl,t,rfl⟩;have gW:=t.gW;have lE:E'.length<=328:=by
  have:=mN h8 hw.l40 t.dj.wt.ndE (fun x hx=>by obtain⟨e,he,rfl⟩:=AJ.mp hx;exact(t.dj.wt.trk e he).2);rw[AI] at this;exact this
 have lD:dn.length<=328:=by
  have:=mN h8 hw.l40 t.dj.ndD (fun x hx=>by obtain⟨e,he,rfl⟩:=AJ.mp hx;exact(t.dj.nil e he).2);rw[AI] at this;exact this
 have lk:=Paired.length t.en;obtain⟨psT,gT,_⟩:=t.lt.ex;refine⟨_,rfl,!kvs.isEmpty,.inr (.inr ⟨kvs,gW,rfl⟩),?_⟩;cases hke:kvs.isEmpty with
 |true=>
  have ek:kvs=[]:=List.isEmpty_iff.mp hke;have eE:E'=[]:=by
   rw[ek] at lk;exact Bv.mp lk.symm
  have dj:=t.dj;rw[eE] at dj;exact qN dn H4 dj t.sm t.lt
 |false=>
  have hne:E'≠[]:=fun z=>by
   rw[z] at lk;rw[Bv.mp lk] at hke;cases hke
  refine⟨_,fun σ' H' z=>z,?_⟩;refine⟨_,rfl,t.lt,Wa,kvs,E'.map (fun e=>txt e.1),xj E',rfl,gW,kY t.en,(fun z=>hne (List.map_eq_nil_iff.mp z)),fun H5 o k0 S5 hk=>?_,fun k0 H5 hk hmin S5 L5=>?_⟩
  ·obtain⟨⟨x,f⟩,he,rfl⟩:=AJ.mp hk;obtain⟨v,hv,hf⟩:=eS t.en (gx t.dj.wt.ndE he);obtain⟨pf,la,lb,rfl,gf,_,_⟩:=hf.smb gT S5;have gW5:H5 Wa=some (.dK kvs):=S5 _ _ (bD gW gT (fun z=>by cases z)) gW;have npf:pf≠Wa:=bD gf gW5 (fun z=>by cases z);refine⟨_,rfl,_,rfl,Wa,_,rfl,.inl ⟨kvs,.inr (txt x),.inr ⟨o,ae⟩,rfl,hv.symm⟩,pf,_,0,_,rfl,rfl,SqT.of (by rw[ai npf];exact gf),rfl,?_,rfl⟩;show V.int ((f.1:Nat):Int)=V.int (xj E' (txt x));rw[jD t.dj.wt.ndE he]
  obtain⟨⟨x,f⟩,he,rfl⟩:=AJ.mp hk;have hmin':∀e∈E',f.1<=e.2.1:=fun e hm=>by
   have:=hmin (txt e.1) (AJ.mpr ⟨e,hm,rfl⟩);rw[jD t.dj.wt.ndE he,jD t.dj.wt.ndE hm] at this;lia
  have gW5:H5 Wa=some (.dK kvs):=S5 _ _ (bD gW gT (fun z=>by cases z)) gW;have gD5:H5 Da=some (.dK (dnK (dn.map (·.1)))):=S5 _ _ (bD t.gD gT (fun z=>by cases z)) t.gD;have en5:=t.en.smb gT S5;obtain⟨v,hv,hf⟩:=eS en5 (gx t.dj.wt.ndE he);obtain⟨htrk,hsfx⟩:=t.dj.wt.trk _ he;have hfb:=t.bd _ he;refine⟨_,rfl,Wa,rfl,.inl ⟨kvs,.inl gW5⟩,_,rfl,kvs,.inr (txt x),v,gW5,rfl,hv,?_⟩;have hf6:Hr (upd H5 Wa (.dK (bo kvs (.inr (txt x))))) v f:=hf.upd gW5;have en6:FF (upd H5 Wa (.dK (bo kvs (.inr (txt x))))) (bo kvs (.inr (txt x))) (dU E' x):=FF.upd gW5 (ko en5);have gW6:upd H5 Wa (.dK (bo kvs (.inr (txt x)))) Wa=some (.dK (bo kvs (.inr (txt x)))):=ae;have gD6:upd H5 Wa (.dK (bo kvs (.inr (txt x)))) Da=some (.dK (dnK (dn.map (·.1)))):=by rw[ai neDW];exact gD5
  have L6:Gb Im IG T (upd H5 Wa (.dK (bo kvs (.inr (txt x))))):=Gb.upd L5 gW5;have sm6:SmB T H (upd H5 Wa (.dK (bo kvs (.inr (txt x))))):=fun b o nT e=>by
   rw[ai (aB e nWa')];exact S5 b o nT (t.sm b o nT e)
  generalize upd H5 Wa (.dK (bo kvs (.inr (txt x))))=H6 at hf6 en6 gW6 gD6 L6 sm6;obtain⟨pf,la,lb,rfl,gf,ga,gb⟩:=id hf6;refine⟨_,rfl,pf,_,rfl,SqT.of gf,rfl,_,_,rfl,_,_,rfl,_,_,rfl,rfl,?_⟩;refine⟨_,rfl,rfl,decide (x=[]),?_,?_⟩
  ·show V.bl (decide (V.str (txt x)=V.str ""))=_
   congr 1
   refine decide_eq_decide.mpr ⟨fun z=>?_,fun z=>by rw[z];rfl⟩;have z1:txt x="":=by injection z
   have z2:(txt x).cps.toList=("":Str).cps.toList:=by rw[z1]
   exact z2
  by_cases hx:x=[]
  ·rw[EG hx];subst hx;obtain⟨i,j,s1,s2,ea,eb,nij⟩:=htrk.ne;have aa:atI (iv f.2.1) 0=some (.int ((i:Nat):Int)):=by rw[ea];show atI (iv (i::s1)) ((0:Nat):Int)=_;exact bh rfl
   have ab:atI (iv f.2.2) 0=some (.int ((j:Nat):Int)):=by rw[eb];show atI (iv (j::s2)) ((0:Nat):Int)=_;exact bh rfl
   refine⟨_,rfl,la,_,0,_,rfl,rfl,SqL.of ga,aa,_,rfl,lb,_,0,_,rfl,rfl,SqL.of gb,ab,_,_,rfl,rfl,decide (i<j),?_,?_⟩
   ·show V.bl (decide (((i:Nat):Int)<((j:Nat):Int)))=_
    congr 1
    exact decide_eq_decide.mpr ⟨fun h=>by lia,fun h=>by lia⟩
   by_cases hij:i<j
   ·rw[EG hij];refine⟨_,rfl,_,rfl,av (by show 2<=1000000;decide),fun p np=>?_⟩;have S7:=af np (.tup [.ref la,.ref lb]);exact qS p la lb f.2.1 f.2.2 dn E' f _ t.dj he ⟨hmin',by show f.1<=100000;have:f.1<=40*(dn.length+1):=hfb;lia⟩ (.inl rfl) (by rw[ea,eb];exact hij) ae (S7 _ _ ga) (S7 _ _ gb) (sm6.trans (SmB.of S7)) (L6.same S7)
   ·rw[EH hij];refine⟨_,rfl,_,rfl,av (by show 2<=1000000;decide),fun p np=>?_⟩;have S7:=af np (.tup [.ref lb,.ref la]);exact qS p lb la f.2.2 f.2.1 dn E' f _ t.dj he ⟨hmin',by show f.1<=100000;have:f.1<=40*(dn.length+1):=hfb;lia⟩ (.inr rfl) (by rw[ea,eb];show j<i;lia) ae (S7 _ _ gb) (S7 _ _ ga) (sm6.trans (SmB.of S7)) (L6.same S7)
  ·rw[EH hx];have nxd:x∉dn.map (·.1):=fun z=>by
    obtain⟨p,hp,e⟩:=AJ.mp z;exact t.dj.wt.dis _ he p hp e.symm
   refine⟨_,rfl,_,rfl,Da,_,rfl,IS.k (k:=.inr (txt x)) gD6 (BN (show _<=1000 by unfold dnK;rw[AI,AI];lia) (by decide)),?_⟩;rw[vD nxd];have gD7:upd H6 Da (.dK (dnK (dn.map (·.1)++[x]))) Da=some (.dK (dnK (dn.map (·.1)++[x]))):=ae;have gW7:upd H6 Da (.dK (dnK (dn.map (·.1)++[x]))) Wa=some (.dK (bo kvs (.inr (txt x)))):=by rw[ai (EZ neDW)];exact gW6
   have hf7:Hr (upd H6 Da (.dK (dnK (dn.map (·.1)++[x])))) (.ref pf) f:=hf6.upd gD6;have en7:FF (upd H6 Da (.dK (dnK (dn.map (·.1)++[x])))) (bo kvs (.inr (txt x))) (dU E' x):=FF.upd gD6 en6;have L7:Gb Im IG T (upd H6 Da (.dK (dnK (dn.map (·.1)++[x])))):=Gb.upd L6 gD6;have sm7:SmB T H (upd H6 Da (.dK (dnK (dn.map (·.1)++[x])))):=fun b o nT e=>by
    rw[ai (aB e nDa')];exact sm6 b o nT e
   generalize upd H6 Da (.dK (dnK (dn.map (·.1)++[x])))=H7 at gD7 gW7 hf7 en7 L7 sm7;have hlT:l≠T:=by
    obtain⟨ps0,g0,_⟩:=hT.ex;exact bD hl g0 (fun z=>by cases z)
   refine⟨_,rfl,_,rfl,_,rfl,_,rfl,_,rfl,l,ws,x,.ref pf,f,rfl,sm7 _ _ hlT hl,hw,hf7,htrk,hsfx,by show f.1<=100000;have:f.1<=40*(dn.length+1):=hfb;lia,fun p8 us8 ss8 H8 S8 gp8 hss8 ls8 h81 h82 h83=>?_⟩;have ldr:(dU E' x).length<=328:=AX (Ce _ _) lE;refine⟨Wa,Da,p8,_,dU E' x,dn.map (·.1)++[x],us8,ss8,rfl,S8 _ _ gW7,en7.mono S8,EZ neDW,S8 _ _ gD7,gp8,hss8,by lia,fun kvs9 H9 eH9 hE9=>?_⟩;refine⟨1000-(dn.length+1),by lia,dn++[(x,f.1)],ss8.foldl (bq (dn.map (·.1)++[x])) (dU E' x),kvs9,_,_,_,_,_,rfl,?_,by rw[AK];rfl⟩;have gW8:=S8 _ _ gW7;refine⟨fun b o nT e=>?_,?_,by rw[eH9];exact ae,nDa',nWa',neDW,hE9,?_,Dij.step t.dj he hmin' hx (fun s hs=>⟨(h81 s hs).1,(h81 s hs).2.1,(h81 s hs).2.2.1⟩) h82 h83,fun e hem=>?_⟩
   ·rw[eH9,ai (aB e nWa')];exact S8 _ _ (sm7 b o nT e)
   ·rw[eH9,ai neDW,AU];exact S8 _ _ gD7
   ·rw[eH9];exact Gb.upd (L7.same S8) gW8
   ·rw[AK];show e.2.1<=40*(dn.length+1+1);rcases dy _ hem with hm|hm
    ·have:=t.bd e (Gd.mp hm).1;lia
    ·have h1:=(h81 e hm).2.2.2;have:f.1<=40*(dn.length+1):=hfb;lia
def wK (T:Addr):Sp:=fun vs H Q _=>∃l us ws,vs=[.ref l]/\H l=some (.lst us)/\Mks H us ws/\Wds ws/\Gb Im IG T H/\(∀dn H',Dij ws dn []->SmB T H H'->Gb Im IG T H'->Q .non H') /\
 ∀p la lb a b dn E f H',Dij ws dn E->([],f)∈E->((∀e∈E,f.1<=e.2.1)/\f.1<=100000)->(f.2=(a,b)\/f.2=(b,a))->a.headD 0<b.headD 0->H' p=some (.tup [.ref la,.ref lb])->H' la=some (.lst (iv a))->H' lb=some (.lst (iv b))->SmB T H H'->Gb Im IG T H'->Q (.ref p) H'
theorem vS{dm dt d:DD}{T:Addr}(yX:(dg "maker_words" 16 ["makers"] dm 5 Js))(D_to:(dg "twins_of" 33 ["words"] dt 4 (yH T)))(D:Def K mg "twins" (top 34) ["makers"] d):(fk 6 d ["makers"] (wK T)):=by
 exists["makers"]
 obtain⟨l,us,ws,rfl,hl,hm,hw,hT,qN,qS⟩:=h;refine⟨_,(ak (aI (dC D_to.1 D_to.2 (dC yX.1 yX.2 (0) aC) eV))),?_⟩
 walk_at "d"
 refine⟨_,rfl,l,us,ws,rfl,hl,hm,hw,fun p H1 S1 gp=>?_⟩;exact⟨p,ws,rfl,gp,hw,hT.same S1,fun dn H' h1 h2 h3=>qN dn H' h1 ((SmB.of S1).trans h2) h3,fun p la lb a b dn E f H' h1 h2 h3 h4 h5 h6 h7 h8 h9 h10=>qS p la lb a b dn E f H' h1 h2 h3 h4 h5 h6 h7 h8 ((SmB.of S1).trans h9) h10⟩
def cL (ws:List (List Nat)):Nat->List Int
 |0=>[1]
 |n+1=>cL ws n++[((ws.filter fun w=>decide (w.length<=n+1)).map fun w=>(cL ws n).getD (n+1-w.length) 0).sum]
theorem fR(ws:List (List Nat)):∀n,(cL ws n).length=n+1
 |0=>rfl
 |n+1=>by rw[cL,AK,fR ws n];rfl
def JZ:Sp:=fun vs H Q _=>∃n m:Int,vs=[.int n,.int m]/\0<=n/\n<=m/\Q .non H
theorem wY{d:DD}(D:Def K mg "check_letters" (top 21) ["n","most"] d):(fk 1 d ["n","most"] JZ):=by
 exists["n","most"]
 obtain⟨n,m,rfl,h0,h1,q⟩:=h;refine⟨_,(ak (bS (iI (lA IJ IJ (ah _) (0) (1) (by with_unfolding_all rfl))) (ak (@Gs _ _)) (Fv _))),?_⟩
 walk_at "d"
 refine⟨_,rfl,_,_,rfl,rfl,true,?_,?_⟩
 ·show V.bl (decide ((0:Int)<=n))=_;rw[EG h0]
 refine⟨_,rfl,_,_,rfl,rfl,true,?_,?_⟩
 ·show V.bl (decide (n<=m))=_;rw[EG h1]
 exact q
def Lf:Sp:=fun vs H Q _=>∃l us ws,∃n:Nat,vs=[.ref l,.int (n:Int)]/\H l=some (.lst us)/\Mks H us ws/\Wds ws/\n<=400/\∀H',Fo H H'->Q (.int ((cL ws n).getD n 0)) H'
theorem wA{dm dk d:DD}{lt:Tok}(m_ml:mg "MOST_LETTERS_OF_ROWS"=some (.int 400 lt))(yX:(dg "maker_words" 16 ["makers"] dm 5 Js))(zg:(dg "check_letters" 21 ["n","most"] dk 1 JZ))(D:Def K mg "count_of_rows" (top 22) ["makers","n"] d)(yJ:mg "range"=none)(yK:mg "len"=none)(yQ:mg "sum"=none):(fk 6 d ["makers","n"] Lf):=by
 exists["makers","n","words","counts","length"]
 obtain⟨l,us,ws,n,rfl,hl,hm,hw,h400,q⟩:=h;refine⟨_,(ag (ax 2 (dC yX.1 yX.2 (0) aC)) (ag (bx (aY zg.1 zg.2 (Fn (1) (aD (dO (.int 400) m_ml ⟨_,rfl⟩) aC) aC))) (ag (ac 3 (bg (aD (ah _) ba))) (ag (bB (hV yJ (Fn (ah _) (aD (az Fy (1) (ah _)) (by rfl)) ba)) (am 4) (ak (bx (iE (3) (aJ (bX hc) yQ GS (aD (aW (aq (ts:=["word"]) (cap:=["counts","length"]) (js:=[3,4]) rfl rfl rfl rfl rfl rfl (by decide +kernel)) (aN (2)) (ad 0 (nd ["word","counts","length"])) (@bN _ _ _ (aA IJ (aR Fp yK (0) aC) (2) (aE _))) (aL (show IxR _ (jj K) from Fq) (1) (az GI (2) (aR Fp yK (0) aC)))) (by rfl))) eV)))) (ak (aI (aL Fq (3) (1)))))))),?_⟩
 walk_at "d"
 refine⟨_,rfl,l,us,ws,rfl,hl,hm,hw,fun p1 H1 S1 g1=>?_⟩;refine⟨_,rfl,_,_,rfl,by lia,by lia,?_⟩;refine⟨av (by show 1<=1000000;decide),fun L nL=>?_⟩;have F0:=(Hs.start H1).new nL (.lst [.int 1]);refine⟨_,rfl,_,_,rfl,rfl,?_⟩;refine⟨1,(n:Int)+1,rfl,⟨by decide,by decide,by lia,by lia⟩,?_⟩;have en:((n:Int)+1-1).toNat=n:=by lia
 rw[en];refine⟨fun i m σ H'=>m=n-i/\i<=n/\(∃e',σ=[some (.ref l),some (.int (n:Int)),some (.ref p1),some (.ref L),e'])/\Hs H1 [(L,.lst (ivs (cL ws i)))] H',⟨_,rfl,Bi _,⟨_,rfl⟩,F0⟩,fun i m σ H' z=>?_⟩;obtain⟨rfl,hi,⟨e',rfl⟩,F⟩:=z;by_cases hend:i=n
 ·subst hend;refine .inl ⟨AH _,_,rfl,_,rfl,L,_,_,_,rfl,rfl,SqL.of (F.get 0),kU (j:=i) (by rw[fR];lia),?_⟩;exact q H' (S1.trans F.all)
 have hlt:i<n:=by lia
 refine .inr ⟨hlt,fun σ' H''=>(∃e',σ'=[some (.ref l),some (.int (n:Int)),some (.ref p1),some (.ref L),e'])/\Hs H1 [(L,.lst (ivs (cL ws (i+1))))] H'',fun σ' H'' z=>⟨n-(i+1),by lia,rfl,hlt,z.1,z.2⟩,fun v H'' z=>?_⟩;obtain⟨rfl,ev⟩:=z;obtain rfl:v=.int ((i+1:Nat):Int):=by rw[ev];congr 1;lia
 have wl:=fR ws i;have w8:=hw.n8;have g1':=F.all _ _ g1;have gL:=F.get 0;have el:(aj ws).length=ws.length:=AI ..;refine⟨_,rfl,.inl ⟨rfl,_,SqL.of gL⟩,_,rfl,p1,rfl,⟨_,SqL.of g1'⟩,?_⟩;refine cf (K:=K) (a:=p1) (xs:=aj ws) (fun k ys H2=>Fo H'' H2/\ys.length<=k/\ys=ivs (((ws.take k).filter fun w=>decide (w.length<=i+1)).map fun w=>(cL ws i).getD (i+1-w.length) 0)) ⟨Fo.refl H'',AH _,rfl⟩ (fun k ys H2 hk z=>z.2.1) (av (by lia)) (fun k ys H2 hk z=>SqL.of (z.1 _ _ g1')) (fun k v ys H2 hv z=>?_) (fun ys H2 z p' hp'=>?_)
 ·obtain⟨z1,z2,rfl⟩:=z;have hk:k<(aj ws).length:=(Bc.mp hv).1;have hk':k<ws.length:=by lia
  have ev:v=.str (txt ws[k]):=by
   rw[AW,AL hk'] at hv;exact(EM hv).symm
  subst ev;have hm':ws[k]∈ws:=Bq hk';have h40:=hw.l40 _ hm';have h1:=hw.l1 _ hm';have et:ws.take (k+1)=ws.take k++[ws[k]]:=by rw[Bh,AL hk'];rfl
  have lk:(txt ws[k]).length=ws[k].length:=rfl;refine⟨_,rfl,txt ws[k],rfl,av (by lia),_,rfl,_,_,rfl,rfl,decide (ws[k].length<=i+1),?_,?_⟩
  ·show V.bl (decide (((ws[k].length:Nat):Int)<=((i+1:Nat):Int)))=_
   congr 1
   exact decide_eq_decide.mpr (by lia)
  cases hB:decide (ws[k].length<=i+1) with
  |false=>
   show Nx (aj ws).length k (fun k ys H2=>Fo H'' H2/\ys.length<=k/\ys=ivs (((ws.take k).filter fun w=>decide (w.length<=i+1)).map fun w=>(cL ws i).getD (i+1-w.length) 0)) _ _;refine Nx.mk hk ⟨z1,by lia,?_⟩;rw[et,BR,Bs,hB];simp
  |true=>
   have hB':=EK hB;have e1:((i+1:Nat):Int)-((ws[k].length:Nat):Int)=((i+1-ws[k].length:Nat):Int):=by lia
   refine⟨_,rfl,_,rfl,_,rfl,txt ws[k],rfl,av (by lia),_,_,rfl,rfl,L,_,_,.int ((cL ws i).getD (i+1-ws[k].length) 0),rfl,rfl,SqL.of (z1 _ _ gL),?_,Nx.mk hk ⟨z1,by rw[AK];exact Ff z2,?_⟩⟩
   ·show atI _ (((i+1:Nat):Int)-((ws[k].length:Nat):Int))=_;rw[e1];exact kU (by lia)
   ·rw[et,BR,Bs,hB];simp[ivs]
 ·obtain⟨z1,z2,rfl⟩:=z;rw[el,Bk (AH _)];refine⟨p',_,rfl,SqL.of ae,L,ivs (cL ws i),_,rfl,rfl,?_,?_,?_⟩
  ·exact af hp' _ _ _ (z1 _ _ gL)
  ·refine Be (show _<1000000 from ?_) (av (AH _));rw[AI];lia
  ·refine⟨⟨_,rfl⟩,?_⟩;have F1:=F.mono (z1.trans (af hp' (.lst (ivs ((ws.filter fun w=>decide (w.length<=i+1)).map fun w=>(cL ws i).getD (i+1-w.length) 0)))));have F2:=F1.put 0 (.lst (ivs (cL ws (i+1))));rw[cL] at F2 ⊢;simpa [ivs] using F2
end
theorem rq(y:List Nat):bj y []=true:=(eY y []).mpr ⟨y,Bp y⟩
theorem iw(y v:List Nat)(d c:Nat):bj (y++[d]) (v++[c])=(decide (d=c)&&bj y v):=by
 rw[Fe,Bx,decide_eq_true_iff,eY,eY];constructor
 ·rintro⟨t,h⟩;rw[<- By] at h;obtain⟨h1,h2⟩:=List.append_inj' h rfl;exact⟨(List.cons.inj h2).1.symm,t,h1⟩
 ·rintro⟨rfl,t,rfl⟩;exact⟨t,by rw[By]⟩
def FI:Nat->List (List Nat)
 |0=>[[]]
 |n+1=>(FI n).map (fun x=>x++[108])++(FI n).map (fun x=>x++[114])
theorem FL:∀n x,x∈FI n->x.length=n/\∀c∈x,GG c
 |0,x,h=>by
  have:x=[]:=by simpa [FI] using h
  subst this;exact⟨rfl,fun c h=>by cases h⟩
 |n+1,x,h=>by
  rw[FI,AO,AJ,AJ] at h;rcases h with ⟨y,hy,rfl⟩|⟨y,hy,rfl⟩
  ·obtain⟨i1,i2⟩:=FL n y hy;refine⟨by rw[AK,i1];rfl,fun c hc=>?_⟩;rcases AO.mp hc with h|h
   ·exact i2 c h
   ·exact .inl (by simpa using h)
  ·obtain⟨i1,i2⟩:=FL n y hy;refine⟨by rw[AK,i1];rfl,fun c hc=>?_⟩;rcases AO.mp hc with h|h
   ·exact i2 c h
   ·exact .inr (by simpa using h)
theorem Gg:∀n,(FI n).length=2^n
 |0=>rfl
 |n+1=>by rw[FI,AK,AI,AI,Gg n,Nat.pow_succ];lia
theorem rG(r:List Nat):∀(N:Nat)(f:List Nat->Int),(∀c∈r,GG c)->r.length<=N->((FI N).map fun x=>if bj x r.reverse=true then f (x.take (N-r.length)) else 0).sum=((FI (N-r.length)).map f).sum:=by
 induction r with
 |nil=>
  intro N f _ _;apply aM;intro x hx;rw[List.reverse_nil,EF (rq x),Cd,Nat.sub_zero,Bk (by rw[(FL N x hx).1];exact AH _)]
 |cons c r ih=>
  intro N f hr hN;cases N with
  |zero=>exact absurd hN (by simp)
  |succ M=>
   have hM:r.length<=M:=by simpa using hN
   have el:M+1-(c::r).length=M-r.length:=by rw[Bj];lia
   rw[el,FI,AU,CC,Bn,Bn];have key:∀d:Nat,((FI M).map ((fun x=>if bj x (c::r).reverse=true then f (x.take (M-r.length)) else 0) ∘ fun x=>x++[d])).sum=if d=c then ((FI (M-r.length)).map f).sum else 0:=by
    intro d;by_cases e:d=c
    ·rw[EF e,<- ih M f (fun c hc=>hr c (AY _ hc)) hM];apply aM;intro x hx;show(if bj (x++[d]) (c::r).reverse=true then f ((x++[d]).take (M-r.length)) else 0)=_;rw[Dz,iw,EG e,Bool.true_and,List.take_append_of_le_length (by rw[(FL M x hx).1];lia)]
    ·rw[EE e];refine Eq.trans (aM (g:=fun _=>0) fun x hx=>?_) (bF (FI M));show(if bj (x++[d]) (c::r).reverse=true then f ((x++[d]).take (M-r.length)) else 0)=_;rw[Dz,iw,EH e,Bool.false_and];rfl
   rw[key 108,key 114];rcases hr c AS with rfl|rfl
   ·rw[EF rfl,EE (by decide),Int.add_zero]
   ·rw[EE (by decide),EF rfl,Cv]
theorem pM{w:List Nat}{N:Nat}(f:List Nat->Int)(hw:∀c∈w,GG c)(hN:w.length<=N):((FI N).map fun x=>if bj x w=true then f (x.take (N-w.length)) else 0).sum=((FI (N-w.length)).map f).sum:=by
 have:=rG w.reverse N f (fun c hc=>hw c (List.mem_reverse.mp hc)) (by rw[BM];exact hN);rw[Do,BM] at this;exact this
theorem wX(ws:List (List Nat)):∀n i,i<=n->∀m,n<=m->(cL ws m).getD i 0=(cL ws n).getD i 0:=by
 intro n i hi m hm;induction m with
 |zero=>have:n=0:=(by lia);subst this;rfl
 |succ m ih=>
  by_cases e:n=m+1
  ·subst e;rfl
  ·rw[cL,cV,EF (by rw[fR];lia)];exact ih (by lia)
theorem kr(q:List Nat->Bool)(g:List Nat->Int):∀ws:List (List Nat),((ws.filter q).map g).sum=(ws.map fun w=>if q w=true then g w else 0).sum
 |[]=>rfl
 |w::ws=>by
  rw[Bs,AQ,Bf,<- kr q g ws];cases h:q w with
  |true=>rw[EF rfl,AQ,Bf,EF rfl]
  |false=>rw[EE (by decide),EE (by decide),Cv]
theorem gM{ws:List (List Nat)}(W:Wds ws):∀n,((FI n).map (Wn ws)).sum=(cL ws n).getD n 0:=by
 intro n;induction n using Nat.strongRecOn with
 |_ n ih=>
  cases n with
  |zero=>rfl
  |succ n=>
   rw[cL,cV,EE (by rw[fR];lia),EF (by rw[fR]),kr];have e:((FI (n+1)).map (Wn ws)).sum=((FI (n+1)).map fun x=>(ws.map fun w=>if bj x w=true then Wn ws (x.take (n+1-w.length)) else 0).sum).sum:=by
    apply aM;intro x hx;exact sv W.ok (FL _ x hx).1
   rw[e,eK];apply aM;intro w hw;have h1:=W.l1 w hw;by_cases hl:w.length<=n+1
   ·rw[pM (Wn ws) (W.lr w hw) hl,ih (n+1-w.length) (by lia),EF (EG hl),wX ws (n+1-w.length) _ (AH _) n (by lia)]
   ·rw[EE (by rw[EH hl];decide)];refine Eq.trans (aM (g:=fun _=>0) fun x hx=>?_) (bF (FI (n+1)));rw[EE];intro h;have:=cR h;rw[(FL _ x hx).1] at this;lia
section
variable {P:Program}{w:World}{K:PySem.W.Frag}{mg:Str->Option Value}{base:Heap}
open KM
structure Cw(ws:List (List Nat))(k:List (List Nat)):Prop where
 so:sortedS (k.map txt)=true
 nd:k.Nodup
 ps:∀z∈k,Ps ws z
theorem ic(ws:List (List Nat)):Can (Cw ws):=fun a b ha hb h=>by
 have p:a.Perm b:=by
  refine(Ey ha.nd hb.nd).mpr fun z=>h z
 have:=(me (.refl _) (.refl _) ha.so hb.so).mpr p;exact CZ (fun x y e=>dW e) |>.mp this
theorem nU(x:List Nat)(r:List (List Nat)):inV (.str (txt x)) (aj r)=decide (x∈r):=by
 unfold inV;rw[Fe,BO,decide_eq_true_iff];constructor
 ·rintro⟨v,hv,e⟩;obtain⟨y,hy,rfl⟩:=AJ.mp hv;have e':decide (txt y=txt x)=true:=e;rw[<- dW (EK e')];exact hy
 ·intro h;exact⟨_,AJ.mpr ⟨x,h,rfl⟩,(show decide (txt x=txt x)=true from EG rfl)⟩
theorem fU(r:List (List Nat)):(aj r).all He=true:=BU.mpr fun v hv=>by
 obtain⟨y,_,rfl⟩:=AJ.mp hv;rfl
theorem zw:("":Str)=txt []:=by decide +kernel
theorem oS(y:List Nat)(c:Nat):Txt.startswith (txt y) (txt [c])=true↔∃z,y=c::z:=bL y [c]
def LN:Sp:=fun vs H Q _=>∃l t ws r c,vs=[.ref l,.ref t,.str (txt [c])]/\H l=some (.lst (aj ws))/\H t=some (.tup (aj r))/\ws.length<=9/\r.length<=63/\(∀w∈ws,w.length<=40)/\Few ws/\Cw ws r /\
 ∀p k' H',Fo H H'->H' p=some (.tup (aj k'))->Cw ws k'->KM.Stp ws r c k'->Q (.ref p) H'
theorem yh{d:DD}(D:Def K mg "rests_behind" (top 23) ["words","rests","letter"] d)(yP:mg "list"=none)(yO:mg "tuple"=none)(yS:mg "sorted"=none):(fk 1 d ["words","rests","letter"] LN):=by
 exists["words","rests","letter","begun"]
 obtain⟨l,t,ws,r,c,rfl,hl,ht,n9,r63,h40,few,cw,q⟩:=h;have hh:=hr.hd;refine⟨_,(ag (ax 3 (az GF (br FZ yP GJ (aD (1) aC)) (oE (dF (aA GN (aU _) (1) rfl) (0) (bg (@FE _)))))) (ak (aI (br FT yO GB (aD (mI hh (ng (aq (ts:=["rest"]) (cap:=["letter"]) (js:=[2]) rfl rfl rfl rfl rfl rfl (by decide +kernel)) (aN (3)) (ad 0 (nd ["rest","letter"])) (@bN _ _ _ (dG (jg EO PySem.F.slot_str_startswith PySem.F.type_str_startswith Gq (0) (aD (1) aC)))) (bf Gk (0) (bC (ah _)) (@FH _))) yS Hz) eV))))),?_⟩
 walk_at "d"
 refine⟨_,rfl,t,aj r,rfl,.inr (SqT.of ht),fun B nB=>?_⟩;have S1:=af nB (.lst (aj r));have gB:upd H B (.lst (aj r)) B=some (.lst (aj r)):=ae;generalize upd H B (.lst (aj r))=H1 at S1 gB ⊢;refine⟨fun v H'=>∃C vs,v=.ref C/\Fo H1 H'/\H' C=some (.lst (aj vs))/\vs.length<=9/\(∀x∈vs,x.length<=40)/\∀x,x∈vs↔[]∈r/\x∈ws,?_,fun v H2 z=>?_⟩
 ·refine⟨_,rfl,t,aj r,rfl,.inr (SqT.of (S1 _ _ ht)),rfl,fU r,_,rfl,?_⟩;rw[zw,show(if false=true then !inV (V.str (txt [])) (aj r) else inV (V.str (txt [])) (aj r))=decide ([]∈r) from nU [] r];by_cases h0:[]∈r
  ·rw[EG h0];exact⟨_,rfl,l,ws,rfl,Fo.refl _,S1 _ _ hl,n9,h40,fun x=>⟨fun h=>⟨h0,h⟩,fun h=>h.2⟩⟩
  ·rw[EH h0];exact⟨Bi _,fun C nC=>⟨C,[],rfl,af nC _,ae,Bi _,fun x hx=>(by cases hx),fun x=>⟨fun h=>(by cases h),fun h=>absurd h.1 h0⟩⟩⟩
 obtain⟨C,vs,rfl,S2,gC,v9,v40,hv⟩:=z;refine⟨B,C,aj r,aj vs,rfl,rfl,S2 _ _ gB,gC,av (by rw[aw,aw];lia),fun D' nD=>?_⟩;have S3:=af nD (.lst (aj r++aj vs));have gD:upd H2 D' (.lst (aj r++aj vs)) D'=some (.lst (aj (r++vs))):=by rw[ae];show _=some (HO.lst ((r++vs).map _));rw[AU]
 generalize upd H2 D' (.lst (aj r++aj vs))=H3 at S3 gD ⊢;have b72:(r++vs).length<=72:=by rw[AK];lia
 have bmem:∀x,x∈r++vs↔x∈r\/([]∈r/\x∈ws):=fun x=>by rw[AO,hv x]
 have b40:∀x∈r++vs,x.length<=40:=fun x hx=>by
  rcases AO.mp hx with h|h
  ·obtain⟨u,_,hu⟩:=cw.ps x h;have:=h40 _ hu;rw[AK] at this;lia
  ·exact v40 x h
 generalize r++vs=bs at gD b72 bmem b40;have el:=aw bs;refine⟨_,rfl,D',rfl,⟨_,SqL.of gD⟩,?_⟩;refine vd (K:=K) (a:=D') (xs:=aj bs) (fun i ys H'=>H'=H3/\ys.length<=i/\∀z,z∈ys↔∃u,c::u∈bs.take i/\z=txt u) ⟨rfl,AH _,fun z=>⟨fun h=>(by cases h),fun h=>by obtain⟨u,h,_⟩:=h;cases h⟩⟩ (fun i ys H' hi z=>z.2.1) (by lia) (fun i ys H' hi z=>by rw[z.1];exact SqL.of gD) (fun i v ys H' hv' z=>?_) (fun ys H' z=>?_)
 ·obtain⟨rfl,z2,z3⟩:=z;have hi:i<(aj bs).length:=(Bc.mp hv').1;have hi':i<bs.length:=by lia
  rw[bV hi'] at hv';cases hv';have et:bs.take (i+1)=bs.take i++[bs.getD i []]:=by rw[Bh,Ba,AL hi'];rfl
  have lx:=b40 _ (aG hi');refine⟨_,rfl,rfl,_,rfl,_,_,rfl,rfl,_,rfl,?_⟩;cases hB:Txt.startswith (txt (bs.getD i [])) (txt [c]) with
  |false=>
   refine NxS.mk (i:=i) (n:=(aj bs).length) (P:=fun i ys H''=>H''=H'/\ys.length<=i/\∀z,z∈ys↔∃u,c::u∈bs.take i/\z=txt u) hi ⟨rfl,by lia,fun z=>?_⟩;rw[z3 z,et];refine⟨fun⟨u,h,e⟩=>⟨u,Bo _ h,e⟩,fun hq111=>?_⟩;obtain⟨u,h,e⟩:=hq111;refine⟨u,?_,e⟩;rcases AO.mp h with h|h
   ·exact h
   ·have:=AM.mp h;rw[(oS _ _).mpr ⟨u,this.symm⟩] at hB;cases hB
  |true=>
   obtain⟨u0,e0⟩:=(oS _ _).mp hB;refine⟨_,rfl,_,rfl,_,rfl,av (by show(bs.getD i []).length<=1000000;lia),_,rfl,NxS.mk hi ⟨rfl,by rw[Bj];lia,fun z=>?_⟩⟩;rw[show Txt.slice (txt (bs.getD i [])) (some 1) none=txt ((bs.getD i []).drop 1) from cK _ 1,e0,et,e0];show z∈txt u0::ys↔_;rw[AN,z3 z];constructor
   ·rintro (rfl|⟨u,h,e⟩)
    ·exact⟨u0,AV _ (AM.mpr rfl),rfl⟩
    ·exact⟨u,Bo _ h,e⟩
   ·rintro⟨u,h,e⟩;rcases AO.mp h with h|h
    ·exact .inr ⟨u,h,e⟩
    ·have:=(List.cons.inj (AM.mp h)).2;rw[e,this];exact .inl rfl
 obtain⟨rfl,z2,z3⟩:=z;rw[el,Bw] at z3;have hm:∀u,txt u∈ddS ys↔c::u∈bs:=fun u=>by
  rw[Gi,z3];exact⟨fun⟨u',h,e⟩=>by rw[dW e];exact h,fun h=>⟨u,h,rfl⟩⟩
 have hps:∀u,c::u∈bs->Ps ws u:=fun u h=>by
  rcases (bmem _).mp h with h|⟨_,h⟩
  ·obtain⟨v,_,hv⟩:=cw.ps _ h;exact⟨v++[c],by simp,by rw[By];exact hv⟩
  ·exact⟨[c],by simp,h⟩
 obtain⟨U,lU,hU⟩:=few;have few':(ddS ys).length<64:=by
  have h1:=GV U (l:=(ddS ys).map fun z=>z.cps.toList) (CD.mpr ((Iu ys).imp fun {a b} ne e=>ne ((iW a).trans ((congrArg txt e).trans (iW b).symm)))) fun x hx=>by
   obtain⟨z,hz,rfl⟩:=AJ.mp hx;refine hU _ (hps _ ((hm _).mp ?_));rw[<- iW];exact hz
  rw[AI] at h1;lia
 refine⟨few',fun L2 zs pz sz nL=>?_⟩;have S4:=af nL (.lst (zs.map V.str));obtain⟨ks,rfl⟩:∃ks:List (List Nat),zs=ks.map txt:=by
  refine⟨zs.map fun z=>z.cps.toList,?_⟩;rw[Bn]
  conv=>lhs;rw[<- List.map_id zs]
  exact Bz fun z _=>iW z
 have kmem:∀u,u∈ks↔c::u∈bs:=fun u=>by
  rw[<- hm u,<- pz.mem_iff,AJ];exact⟨fun h=>⟨u,h,rfl⟩,fun⟨u',h,e⟩=>by rw[<- dW e];exact h⟩
 refine⟨L2,_,rfl,.inl ⟨SqL.of ae,fun p np=>?_⟩⟩;have S5:=af np (.tup ((ks.map txt).map V.str));refine q p ks _ (S1.trans (S2.trans (S3.trans (S4.trans S5)))) (by rw[ae,Bn];rfl) ⟨sz,?_,fun z hz=>hps z ((kmem z).mp hz)⟩ fun z=>?_
 ·have:=pz.nodup_iff.mpr (Iu ys);exact(CD.mp this).imp fun ne e=>ne (by rw[e])
 ·rw[kmem z,bmem]
open KM
theorem wQ(cs:List Nat)(i:Nat):(txt cs).cps[i]?=cs[i]?:=by show cs.toArray[i]?=_;simp
theorem kC{cs:List Nat}{g:TG}{tb:TS}{D:Ends}{σ:L2.St}{H:Hp}(Pv:Nat->L2.St->Hp->Prop)(h0:Pv 0 σ H)
  (hs:∀i (hi:i<cs.length) σ H,Pv i σ H->g (.str ⟨#[cs[i]]⟩) σ H fun σ2 H2=>tb {D with nx:=Pv (i+1),ct:=Pv (i+1),bk:=D.nx} σ2 H2)(hd:∀σ H,Pv cs.length σ H->D.nx σ H) :
  ∃W:Nat->Nat->L2.St->Hp->Prop,(∃m,W 0 m σ H)/\∀i m σ H,W i m σ H ->
   ((Its (txt cs)).stop i H/\D.nx σ H)\/((Its (txt cs)).go i H/\∃N:L2.St->Hp->Prop,(∀σ' H',N σ' H'->∃m',m'<m/\W (i+1) m' σ' H')/\∀x H',(Its (txt cs)).yld i H x H'->g x σ H' fun σ2 H2=>tb {D with nx:=N,ct:=N,bk:=D.nx} σ2 H2):=by
 refine⟨fun i m σ H=>m=cs.length-i/\i<=cs.length/\Pv i σ H,⟨cs.length,by simp,Bi _,h0⟩,?_⟩;rintro i m σ H ⟨rfl,hi,p⟩;by_cases hlt:i<cs.length
 ·refine .inr ⟨hlt,Pv (i+1),fun σ' H' p'=>⟨cs.length-(i+1),by lia,rfl,hlt,p'⟩,fun x H' y=>?_⟩;obtain⟨e,c,hc,rfl⟩:=y;subst e;rw[wQ,AL hlt] at hc;cases hc;exact hs i hlt σ _ p
 ·have e:i=cs.length:=by lia
  subst e;exact .inl ⟨AH _,hd σ H p⟩
abbrev kk(r:List (List Nat)):List Key:=r.map fun x=>(Sum.inr (txt x):Key)
theorem ye(r:List (List Nat)):(kk r).map kV=aj r:=by
 show(r.map _).map _=r.map _;rw[Bn];rfl
theorem pI{a b:List (List Nat)}(h:kk a=kk b):a=b:=(CZ fun x y e=>dW (Sum.inr.inj e)).mp h
theorem wI{a b:List (List Nat)}:kk a=kk b↔a=b:=⟨pI,fun h=>by rw[h]⟩
abbrev kvT(T:Kv):List (List Key×V):=T.map fun e=>(kk e.1,V.int ((e.2:Nat):Int))
theorem sM(k:List (List Nat)):∀T:Kv,cb (kvT T) (kk k)=(dS T k).map fun m=>V.int ((m:Nat):Int)
 |[]=>rfl
 |e::r=>by
  have ih:=sM k r;show cb ((kk e.1,V.int ((e.2:Nat):Int))::kvT r) (kk k)=_;unfold dS at ih ⊢;by_cases c:e.1=k
  ·rw[bH (show kk e.1=kk k by rw[c]),BB,EG c];rfl
  ·rw[bE (fun z=>c (pI z)),ih,BB,EH c]
theorem wL(k:List (List Nat))(T:Kv):((kvT T).any fun kv=>decide (kv.1=kk k))=(T.any fun e=>decide (e.1=k)):=by
 show((T.map _).any _)=_;rw[DA]
 congr 1
 funext e
 exact decide_eq_decide.mpr wI
theorem vU(k:List (List Nat))(m:Nat)(T:Kv):cY (kvT T) (kk k) (.int ((m:Nat):Int))=kvT (uT T k m):=by
 unfold cY uT;rw[wL];split
 ·show(T.map _).map _=(T.map _).map _;rw[Bn,Bn];refine Bz fun e _=>?_;show(if kk e.1=kk k then (kk e.1,V.int ((m:Nat):Int)) else (kk e.1,V.int ((e.2:Nat):Int)))=(fun e:List (List Nat)×Nat=>(kk e.1,V.int ((e.2:Nat):Int))) (if e.1=k then (e.1,m) else e)
  by_cases c:e.1=k
  ·rw[EF c,EF (by rw[c])]
  ·rw[EE c,EE (fun z=>c (pI z))]
 ·show T.map _++[_]=(T++[_]).map _;rw[AU];rfl
noncomputable def fK(ws:List (List Nat))(k:List (List Nat))(c:Nat):List (List Nat):=Classical.epsilon fun k'=>Cw ws k'/\KM.Stp ws k c k'
theorem yq{ws k k':List (List Nat)}{c:Nat}(h1:Cw ws k')(h2:KM.Stp ws k c k'):fK ws k c=k':=by
 have:=Classical.epsilon_spec (p:=fun k'=>Cw ws k'/\KM.Stp ws k c k') ⟨k',h1,h2⟩;exact ic ws _ _ this.1 h1 fun z=>(this.2 z).trans (h2 z).symm
def SmO (a:Addr)(H H':Hp):Prop:=∀b o,b≠a->H b=some o->H' b=some o
structure Wc(ws:List (List Nat)):Prop where
 w:Wds ws
 l12:∀w∈ws,w.length<=12
 few:Few ws
theorem wC{ws k:List (List Nat)}(f:Few ws)(c:Cw ws k):k.length<=63:=by
 obtain⟨U,h1,h2⟩:=f;exact AX (GV U c.nd fun x hx=>h2 x (c.ps x hx)) h1
def LJ:Sp:=fun vs H Q _=>∃l a ws T n,vs=[.ref l,.ref a]/\H l=some (.lst (aj ws))/\H a=some (.dT (kvT T))/\Wc ws/\Tab (Cw ws) ws n T/\Lft ws n T /\
 ∀p T' H',SmO a H H'->H p=none->H' p=some (.dT (kvT T'))->Tab (Cw ws) ws (n+1) T'->Lft ws (n+1) T'->Q (.ref p) H'
theorem xB{dr d:DD}(D_rb:(dg "rests_behind" 23 ["words","rests","letter"] dr 1 LN))(D:Def K mg "next_counts" (top 24) ["words","counts"] d):(fk 2 d ["words","counts"] LJ):=by
 exists["words","counts","told","rests","many","letter","behind"]
 obtain⟨l,a,ws,T,n,rfl,hl,ha,W,hT,hx,q⟩:=h;refine⟨_,(ag (ax 2 (@Ik _ _)) (ag (bB (ji (1)) (dD (ay (ao 3) (ay (ao 4) (@FG _)))) (ak (bB (pN (aU _)) (ao 5) (ag (ax 6 (aY D_rb.1 D_rb.2 (Fn (0) (Fn (3) (aD (5) aC) aC) aC))) (ak (gm (fD hr) (2) (6) (az Fy (@rX _ _ _ _ _ _ _ _ _ (fD hr) (2) (6) (ah _) ⟨rfl,rfl,rfl,rfl⟩) (4)))))))) (ak (aI (2))))),?_⟩
 walk_at "d"
 refine fun p np=>⟨_,rfl,a,kvT T,rfl,?_,fun o=>?_⟩
 ·rw[ai (fun z=>by rw[z,np] at ha;cases ha)];exact ha
 have npa:p≠a:=fun z=>by rw[z,ha] at np;cases np
 have nla:l≠a:=bD hl ha (fun z=>by cases z);have w9:=W.w.n8;have w40:=W.w.l40;obtain⟨Sx,hSx⟩:∃Sx:Hp->Kv->Prop,Sx=fun H' T1=>SmO a H H'/\H' a=some (.frz o (.dT (kvT T)))/\H' p=some (.dT (kvT T1)):=⟨_,rfl⟩
 have sx:∀{H' T1},Sx H' T1->SmO a H H'/\H' a=some (.frz o (.dT (kvT T)))/\H' p=some (.dT (kvT T1)):=fun h=>by rw[hSx] at h;exact h
 have mx:∀{H' T1},SmO a H H'->H' a=some (.frz o (.dT (kvT T)))->H' p=some (.dT (kvT T1))->Sx H' T1:=fun h1 h2 h3=>by rw[hSx];exact⟨h1,h2,h3⟩
 have go:∀{H' H'' T1},Sx H' T1->Fo H' H''->Sx H'' T1:=fun h S=>mx (fun b u ne e=>S _ _ ((sx h).1 b u ne e)) (S _ _ (sx h).2.1) (S _ _ (sx h).2.2);clear hSx;refine lW (a:=a) (o:=o) (kvs:=kvT T) (fun i σ H'=>∃e3 e4 e5 e6 T1,σ=[some (.ref l),some (.ref a),some (.ref p),e3,e4,e5,e6]/\Sx H' T1/\Gx (bR (fK ws) (T.take i)) T1/\Hop (Cw ws) ws T (bR (fK ws) (T.take i))/\∀e∈T.take i,∀c,c=108\/c=114->Cw ws (fK ws e.1 c)/\KM.Stp ws e.1 c (fK ws e.1 c)) ⟨_,_,_,_,[],rfl,mx (fun b u ne e=>?_) ae (by rw[ai npa,ae];rfl),Gx.nil,fun t ht=>(by cases ht),fun e he=>(by cases he)⟩ (fun i σ H' hi z=>?_) (fun i e p0 b σ H' he hb hp0 z=>?_) (fun σ H' z=>?_)
 ·rw[ai ne,ai (fun z=>by rw[z,np] at e;cases e)];exact e
 ·obtain⟨_,_,_,_,T1,_,z1,_⟩:=z;exact(sx z1).2.1
 rotate_left
 ·obtain⟨e3,e4,e5,e6,T1,rfl,z1,z2,z3,z4⟩:=z;have el:(kvT T).length=T.length:=AI _;rw[el,Bw] at z2 z3 z4;refine⟨_,rfl,q p T1 H' (sx z1).1 np (sx z1).2.2 (hT.next (ic ws) z4 z2) fun e he=>?_⟩;exact(z2.left hx z3 _ (AJ.mpr ⟨e,he,rfl⟩)).2
 obtain⟨e3,e4,e5,e6,T1,rfl,z1,z2,z3,z4⟩:=z;have hi:i<T.length:=by
  have:=(Bc.mp he).1;rw[AI] at this;exact this
 obtain⟨⟨r,m⟩,er⟩:∃e,T[i]?=some e:=⟨_,AL hi⟩
 rw[AW,er] at he;cases he;have hb':H' b=some (.tup (aj r)):=by rw[<- ye];exact hb
 have eT:=Bg er;have cr:=hT.can _ eT;have S0:=af hp0 (.tup [.ref b,.int ((m:Nat):Int)]);refine⟨p0,_,rfl,SqT.of ae,rfl,_,_,rfl,_,_,rfl,rfl,?_⟩;have y1:=go z1 S0;have gb:=S0 _ _ hb';generalize upd H' p0 (.tup [.ref b,.int ((m:Nat):Int)])=H2 at y1 gb ⊢;refine⟨txt [108,114],congrArg V.str (by decide +kernel),by decide +kernel,?_⟩;refine kC (cs:=[108,114]) (fun j σ H'=>∃e5 e6 T1,σ=[some (.ref l),some (.ref a),some (.ref p),some (.ref b),some (.int ((m:Nat):Int)),e5,e6]/\Sx H' T1/\H' b=some (.tup (aj r))/\Gx (bR (fK ws) (T.take i)++([108,114].take j).map fun c=>(fK ws r c,m)) T1/\Hop (Cw ws) ws T (bR (fK ws) (T.take i)++([108,114].take j).map fun c=>(fK ws r c,m))/\∀c∈[108,114].take j,Cw ws (fK ws r c)/\KM.Stp ws r c (fK ws r c)) ⟨_,_,T1,rfl,y1,gb,by rw[CI,Cb,Bp];exact z2,by rw[CI,Cb,Bp];exact z3,fun c hc=>by cases hc⟩ (fun j hj σ H' z=>?_) (fun σ H' z=>?_)
 rotate_left
 ·obtain⟨e5,e6,T1,rfl,w1,w2,w3,w4,w5⟩:=z;have et:T.take (i+1)=T.take i++[(r,m)]:=by rw[Bh,er];rfl
  have es:bR (fK ws) (T.take (i+1))=bR (fK ws) (T.take i)++([108,114].take [108,114].length).map fun c=>(fK ws r c,m):=by
   rw[et];unfold bR;rw[List.flatMap_append];rfl
  refine⟨_,_,_,_,T1,rfl,w1,by rw[es];exact w3,by rw[es];exact w4,fun e he c hc=>?_⟩;rw[et] at he;rcases AO.mp he with he|he
  ·exact z4 e he c hc
  ·rw[AM.mp he];exact w5 c (by rcases hc with rfl|rfl<;>decide)
 obtain⟨e5,e6,T1',rfl,w1,w2,w3,w4,w5⟩:=z;have hcj:[108,114][j]=108\/[108,114][j]=114:=by
  rcases j with _|_|j
  ·exact .inl rfl
  ·exact .inr rfl
  ·exact absurd hj (by simp)
 have etk:[108,114].take (j+1)=[108,114].take j++[[108,114][j]]:=by rw[Bh,AL hj];rfl
 generalize [108,114][j]=c at hcj etk ⊢;have gl:H' l=some (.lst (aj ws)):=(sx w1).1 _ _ nla hl;refine⟨_,rfl,_,rfl,_,rfl,l,b,ws,r,c,rfl,gl,w2,by lia,wC W.few cr,w40,W.few,cr,fun p1 k' H1 S1 g1 c1 s1=>?_⟩;have ek:=yq c1 s1;have v1:=go w1 S1;have gp:=(sx v1).2.2;have g1':H1 p1=some (.tup ((kk k').map kV)):=by rw[ye];exact g1
 have hop':Hop (Cw ws) ws T (bR (fK ws) (T.take i)++([108,114].take (j+1)).map fun c=>(fK ws r c,m)):=fun t ht=>by
  rw[etk,AU,<- By] at ht;rcases AO.mp ht with ht|ht
  ·exact w4 t ht
  ·have:t=(fK ws r c,m):=by simpa using ht
   rw[this];exact⟨_,eT,c,hcj,by rw[ek];exact c1,by rw[ek];exact s1⟩
 have lenT:T1'.length<=8388608:=Gx.few (ic ws) W.l12 hx w3 w4;have gv:(cb (kvT T1') (kk k')).getD (.int 0)=.int (((dS T1' k').getD 0:Nat):Int):=by rw[sM];cases dS T1' k'<;>rfl
 refine⟨_,rfl,p,rfl,.inr ⟨_,.inl gp⟩,_,rfl,_,Ht.t gp g1',_,rfl,_,_,gv,rfl,?_⟩;refine⟨_,rfl,_,rfl,p,_,rfl,IS.t gp g1' (BN (show(kvT T1').length<=8388608 by rw[AI];exact lenT) (by decide)),?_⟩;have eput:cY (kvT T1') (kk k') (.int ((((dS T1' k').getD 0:Nat):Int)+((m:Nat):Int)))=kvT (uS T1' (k',m)):=by
  rw[show(((dS T1' k').getD 0:Nat):Int)+((m:Nat):Int)=(((dS T1' k').getD 0+m:Nat):Int) by lia,vU];rfl
 show ∃e5 e6 T1,_;refine⟨_,_,uS T1' (k',m),rfl,mx (fun x u ne e=>?_) ?_ ?_,?_,?_,hop',fun d hd=>?_⟩
 ·rw[ai (fun z=>by rw[z,np] at e;cases e)];exact(sx v1).1 x u ne e
 ·rw[ai (EZ npa)];exact(sx v1).2.1
 ·rw[ae,eput]
 ·rw[ai (bD (S1 _ _ w2) gp (fun z=>by cases z))];exact S1 _ _ w2
 ·rw[etk,AU,<- By,<- ek];exact w3.add _
 ·rw[etk] at hd;rcases AO.mp hd with hd|hd
  ·exact w5 d hd
  ·rw[AM.mp hd,ek];exact⟨c1,s1⟩
open KM
theorem GL:∀l:Kv,(l.map fun e=>((e.2:Nat):Int)).sum=(((l.map (·.2)).sum:Nat):Int)
 |[]=>rfl
 |e::r=>by rw[AQ,Bf,GL r,AQ,Bf];lia
def Ku:Sp:=fun vs H Q _=>∃l us ws,∃n:Nat,vs=[.ref l,.int (n:Int)]/\H l=some (.lst us)/\Mks H us ws/\Wc ws/\n<=40/\∀H',Fo H H'->Q (.int ((cT ws n:Nat):Int)) H'
theorem wG{dm dk dn d:DD}{lt lt2:Tok}(m_mt:mg "MOST_LETTERS_OF_TABLES"=some (.int 40 lt))(m_lc:mg "LONGEST_COUNTED_MAKER"=some (.int 12 lt2))(yX:(dg "maker_words" 16 ["makers"] dm 5 Js))(zg:(dg "check_letters" 21 ["n","most"] dk 1 JZ))(D_nc:(dg "next_counts" 24 ["words","counts"] dn 2 LJ))(D:Def K mg "count_of_tables" (top 25) ["makers","n"] d)(yJ:mg "range"=none)(yK:mg "len"=none)(yQ:mg "sum"=none)(Au:mg "any"=none):(fk 6 d ["makers","n"] Ku):=by
 exists["makers","n","words","counts","length"]
 obtain⟨l,us,ws,n,rfl,hl,hm,W,n40,q⟩:=h;refine⟨_,(ag (ax 2 (dC yX.1 yX.2 (0) aC)) (ag (bx (aY zg.1 zg.2 (Fn (1) (aD (dO (.int 40) m_mt ⟨_,rfl⟩) aC) aC))) (ag (bS (dG (aJ (rn hc) Au Kx (aD (aW (aq (ts:=["word"]) (cap:=[]) (js:=[]) rfl rfl rfl rfl rfl rfl (by decide +kernel)) (aN (2)) (ad 0 (nd ["word"])) (@aV _) (dP GY (aR Fp yK (0) aC) (dO (.int 12) m_lc ⟨_,rfl⟩) (aE _))) (by rfl)))) (ak (@Gs _ _)) (Fv _)) (ag (ax 3 (@mT _ _ _ _ _ _ (fD hr) (aO (aD (aU _) ba)) (ah _))) (ag (bB (bb yJ (aD (1) aC)) (ao 4) (ak (ax 3 (aY D_nc.1 D_nc.2 (Fn (2) (aD (3) aC) aC))))) (ak (aI (aJ (bX hc) yQ GS (aD (aW (aq (ts:=["rests","many"]) (cap:=[]) (js:=[]) rfl rfl rfl rfl rfl rfl (by decide +kernel)) (ji (3)) (@dN _ _ _ _ _ 2 K rfl hc (ay (ad 0 (nd ["rests","many"])) (ay (ad 1 (nd ["rests","many"])) (@FG _))) (by rfl) (by rfl)) (@bN _ _ _ (aA (show OpR _ _ (rIn K false) from GN) (aU _) (0) rfl)) (1)) (by rfl)))))))))),?_⟩
 walk_at "d"
 refine⟨_,rfl,l,us,ws,rfl,hl,hm,W.w,fun p1 H1 S1 g1=>?_⟩;refine⟨_,rfl,(n:Int),40,rfl,by lia,by lia,?_⟩;have el:=aw ws;have w8:=W.w.n8;refine⟨_,rfl,p1,rfl,⟨_,SqL.of g1⟩,?_⟩;refine cf (K:=K) (a:=p1) (xs:=aj ws) (fun i ys H'=>H'=H1/\ys=(List.replicate i false).map V.bl) ⟨rfl,rfl⟩ (fun i ys H' hi z=>by rw[z.2,AI,Cz];exact AH _) (av (by lia)) (fun i ys H' hi z=>by rw[z.1];exact SqL.of g1) (fun i v ys H' hv z=>?_) (fun ys H' z p2 hp2=>?_)
 ·obtain⟨rfl,rfl⟩:=z;have hi:i<(aj ws).length:=(Bc.mp hv).1;have hi':i<ws.length:=by lia
  rw[bV hi'] at hv;cases hv;have l12:=W.l12 _ (aG hi');refine⟨_,rfl,_,rfl,av (by show(ws.getD i []).length<=1000000;lia),_,_,rfl,rfl,Nx.mk hi ⟨rfl,?_⟩⟩;show _++[V.bl (decide ((12:Int)<(((ws.getD i []).length:Nat):Int)))]=_;rw[EH (show ¬((12:Int)<(((ws.getD i []).length:Nat):Int)) by lia),List.replicate_succ',AU];rfl
 obtain⟨rfl,rfl⟩:=z;have S2:=af hp2 (.lst ((List.replicate (aj ws).length false).map V.bl));refine⟨p2,_,rfl,SqL.of ae,_,rfl,?_⟩;rw[show(List.replicate (aj ws).length false).any id=false from DE.mpr fun b hb=>by rw[List.eq_of_mem_replicate hb];decide];have gw:=S2 _ _ g1;have S12:=S1.trans S2;generalize upd H' p2 (.lst ((List.replicate (aj ws).length false).map V.bl))=H2 at S2 gw S12 ⊢;refine fun p3 np3=>⟨av (by show 1<=1000000;decide),fun B nB=>⟨[.inr (txt [])],B,?_,rfl,?_,?_⟩⟩
 ·rw[ai (fun z=>by rw[<- z,ae] at nB;cases nB)];exact ae
 ·rw[ae,zw];rfl
 have S3:Fo H2 (upd (upd (upd H2 p3 (.dT [])) B (.tup [.str ""])) p3 (.dT [([.inr (txt [])],.int 1)])):=fun b u e=>by
  have n3:b≠p3:=fun z=>by rw[z,np3] at e;cases e
  rw[ai n3];refine af nB _ _ _ ?_;rw[ai n3];exact e
 have g3:upd (upd (upd H2 p3 (.dT [])) B (.tup [.str ""])) p3 (.dT [([.inr (txt [])],.int 1)]) p3=some (.dT (kvT [([[]],1)])):=ae;have ne0:ws≠[]:=fun z=>by have:=W.w.n1;rw[z] at this;exact absurd this (by decide)
 have cw0:Cw ws [[]]:=⟨rfl,by simp,fun z hz=>by
  rw[AM.mp hz];cases hw:ws with
  |nil=>exact absurd hw ne0
  |cons w0 r=>
   have h1:=W.w.l1 w0 (by rw[hw];exact AS)
   exact⟨w0,fun z=>by rw[z] at h1;exact absurd h1 (by decide),by rw[Bp];exact AS⟩⟩
 have T0:=Tab.start ws cw0;have L0:Lft ws 0 [([[]],1)]:=fun e he=>by
  rw[AM.mp he];exact⟨[],by show[]∈[[]];simp,IsK.start ws⟩
 refine⟨_,rfl,(n:Int),rfl,by lia,by lia,?_⟩;generalize upd (upd (upd H2 p3 (.dT [])) B (.tup [.str ""])) p3 (.dT [([.inr (txt [])],.int 1)])=H3 at S3 g3 ⊢;refine bZ (lo:=0) (n:=((n:Int)).toNat) (fun i σ H'=>∃a T e4,σ=[some (.ref l),some (.int n),some (.ref p1),some (.ref a),e4]/\Fo H2 H'/\H2 a=none/\H' a=some (.dT (kvT T))/\Tab (Cw ws) ws i T/\Lft ws i T) ⟨p3,_,_,rfl,S3,np3,g3,T0,L0⟩ (fun i σ H' hi z=>?_) (fun σ H' z=>?_)
 ·obtain⟨a,T,e4,rfl,y1,y2,y3,y4,y5⟩:=z;refine⟨_,rfl,_,rfl,p1,a,ws,T,i,rfl,y1 _ _ gw,y3,W,y4,y5,fun p T' H'' sm np gp tb lf=>?_⟩;refine⟨p,T',_,rfl,fun b u e=>sm b u (fun z=>by rw[z,y2] at e;cases e) (y1 _ _ e),?_,gp,tb,lf⟩;cases hp:H2 p with
  |none=>rfl
  |some u=>rw[y1 _ _ hp] at np;cases np
 obtain⟨a,T,e4,rfl,y1,y2,y3,y4,y5⟩:=z;rw[Bu] at y4 y5;refine⟨_,rfl,a,kvT T,rfl,y3,fun o=>?_⟩;have few:T.length<=8388608:=by
  have:=kD (ic ws) W.l12 y4.nd fun k hk=>by
   obtain⟨e,he,rfl⟩:=AJ.mp hk;exact⟨y4.can e he,y5 e he⟩
  rw[AI] at this;exact this
 have ekl:(kvT T).length=T.length:=AI _;have S4:Fo H2 (upd H' a (.frz o (.dT (kvT T)))):=fun b u e=>by rw[ai (fun z=>by rw[z,y2] at e;cases e)];exact y1 _ _ e
 have g4:upd H' a (.frz o (.dT (kvT T))) a=some (.frz o (.dT (kvT T))):=ae;generalize upd H' a (.frz o (.dT (kvT T)))=H4 at S4 g4 ⊢;refine yp (a:=a) (o:=o) (kvs:=kvT T) (fun i ys H'=>Fo H4 H'/\ys=(((T.take i).filter fun e=>decide ([]∈e.1)).map fun e=>((e.2:Nat):Int)).map V.int) ⟨Fo.refl _,rfl⟩ (fun i ys H' hi z=>by rw[z.2,AI,AI];exact AX (Ce _ _) (by rw[AZ];lia)) (AX (show _<=8388608 by lia) (by decide)) (fun i ys H' hi z=>z.1 _ _ g4) (fun i e ys H' p0 b he z np0 hb=>?_) (fun ys H' z p5 hp5=>?_)
 ·obtain⟨z1,rfl⟩:=z;have hi0:i<(kvT T).length:=(Bc.mp he).1;have hi:i<T.length:=by lia
  obtain⟨⟨r,m⟩,er⟩:∃e,T[i]?=some e:=⟨_,AL hi⟩
  rw[AW,er] at he;cases he;have hb':H' b=some (.tup (aj r)):=by rw[<- ye];exact hb
  have S0:=af np0 (.tup [.ref b,.int ((m:Nat):Int)]);have et:T.take (i+1)=T.take i++[(r,m)]:=by rw[Bh,er];rfl
  refine⟨p0,_,rfl,SqT.of ae,rfl,_,_,rfl,_,_,rfl,rfl,?_⟩;refine⟨_,rfl,b,aj r,rfl,.inr (SqT.of (S0 _ _ hb')),rfl,fU r,_,rfl,?_⟩;rw[zw,show(if false=true then !inV (V.str (txt [])) (aj r) else inV (V.str (txt [])) (aj r))=decide ([]∈r) from nU [] r];cases h0:decide ([]∈r) with
  |true=>
   refine⟨_,rfl,Nx.mk hi0 ⟨z1.trans S0,?_⟩⟩;rw[et,BR,Bs,h0,EF rfl,AU,AU];rfl
  |false=>
   refine Nx.mk (i:=i) (n:=(kvT T).length) (P:=fun i ys H'=>Fo H4 H'/\ys=(((T.take i).filter fun e=>decide ([]∈e.1)).map fun e=>((e.2:Nat):Int)).map V.int) hi0 ⟨z1.trans S0,?_⟩;rw[et,BR,Bs,h0,EE (by decide),DC,Bp]
 obtain⟨z1,rfl⟩:=z;rw[ekl,Bw];refine⟨p5,_,rfl,SqL.of ae,?_⟩;have es:((T.filter fun e=>decide ([]∈e.1)).map fun e=>((e.2:Nat):Int)).sum=((cT ws n:Nat):Int):=by
  rw[GL,jI,<- y4.made (ic ws) fun w hw z=>by have:=W.w.l1 w hw;rw[z] at this;exact absurd this (by decide)]
  congr 3
  funext e
  by_cases h:[]∈e.1
  ·rw[aZ h,aZ (EG h)]
  ·rw[aX h,aX (fun z=>h (EK z))]
 rw[es];exact q _ (S12.trans (S4.trans (z1.trans (af hp5 _))))
end
end K3
namespace KM
section
variable (R:List Nat->List Nat->Prop)
def IsR (k:List (List Nat))(x:List Nat):Prop:=∀z,z∈k↔R x z
def StR (k:List (List Nat))(c:Nat)(k':List (List Nat)):Prop:=∀x,IsR R k x->IsR R k' (c::x)
structure HY(C:List (List Nat)->Prop)(n:Nat)(T:Kv):Prop where
 nd:(T.map (·.1)).Nodup
 can:∀e∈T,C e.1
 val:∀e∈T,e.2=cnt (IsR R e.1) (tx n)
 all:∀x∈tx n,(∃z,R x z)->∃e∈T,IsR R e.1 x
 ex:∀e∈T,∃x∈tx n,IsR R e.1 x
end
section
variable {R:List Nat->List Nat->Prop}{C:List (List Nat)->Prop}{n:Nat}{T T' S:Kv}
theorem IsR.uniq(hC:Can C){a b:List (List Nat)}{x:List Nat}(ha:C a)(hb:C b)(h1:IsR R a x)(h2:IsR R b x):a=b:=hC a b ha hb fun z=>(h1 z).trans (h2 z).symm
theorem HY.sum(hC:Can C)(h:HY R C n T)(P:List (List Nat)->Prop):(T.map fun e=>ind (P e.1)*e.2).sum=cnt (fun x=>∃k∈T.map (·.1),P k/\IsR R k x) (tx n):=by
 have e1:(T.map fun e=>ind (P e.1)*e.2)=(T.map (·.1)).map fun k=>ind (P k)*cnt (IsR R k) (tx n):=by
  rw[Bn];refine Bz fun e he=>?_;show _=ind (P e.1)*cnt (IsR R e.1) (tx n);rw[h.val e he]
 rw[e1];refine eL (F:=IsR R) (P:=P) h.nd (fun x a ha b hb h1 h2=>?_) (tx n);obtain⟨ea,ha',rfl⟩:=AJ.mp ha;obtain⟨eb,hb',rfl⟩:=AJ.mp hb;exact IsR.uniq hC (h.can _ ha') (h.can _ hb') h1 h2
theorem HY.made(hC:Can C)(h:HY R C n T)(o:List Nat){p:List Nat->Prop}(ho:∀x∈tx n,R x o↔p x):(T.map fun e=>ind (o∈e.1)*e.2).sum=cnt p (tx n):=by
 rw[h.sum hC fun k=>o∈k];refine bT fun x hx=>?_;rw[<- ho x hx];constructor
 ·rintro⟨k,_,hk,hf⟩;exact(hf o).mp hk
 ·intro hr;obtain⟨e,he,hf⟩:=h.all x hx ⟨o,hr⟩;exact⟨e.1,AJ.mpr ⟨e,he,rfl⟩,(hf o).mpr hr,hf⟩
def uP (R:List Nat->List Nat->Prop)(C:List (List Nat)->Prop)(T S:Kv):Prop:=∀t∈S,∃e∈T,∃c,(c=108\/c=114)/\C t.1/\StR R e.1 c t.1
theorem Gx.Kw(hx:HY R C n T)(s:Gx S T')(hS:uP R C T S):∀k∈T'.map (·.1),C k/\∃x∈tx (n+1),IsR R k x:=fun k hk=>by
 obtain⟨t,ht,rfl⟩:=AJ.mp ((s.ks k).mp hk);obtain⟨e,he,c,hc,h1,h2⟩:=hS t ht;obtain⟨x,hx1,hx2⟩:=hx.ex e he;obtain⟨l1,l2⟩:=FN.mp hx1;exact⟨h1,c::x,FN.mpr ⟨by rw[Bj,l1],fun d hd=>(AN.mp hd).elim (fun q=>by rw[q];exact hc) (l2 d)⟩,h2 x hx2⟩
theorem HY.next{f:List (List Nat)->Nat->List (List Nat)}(hC:Can C)(h:HY R C n T)(live:∀c x z,R (c::x) z->∃z,R x z)(hf:∀e∈T,∀c,c=108\/c=114->C (f e.1 c)/\StR R e.1 c (f e.1 c))(s:Gx (bR f T) T'):HY R C (n+1) (T'.filter fun e=>decide (e.1≠[])):=by
 have hop:uP R C T (bR f T):=fun t ht=>by
  obtain⟨e,he,q⟩:=BQ.mp ht;simp only[AN,Bt,or_false] at q;rcases q with rfl|rfl
  ·exact⟨e,he,108,.inl rfl,hf e he 108 (.inl rfl)⟩
  ·exact⟨e,he,114,.inr rfl,hf e he 114 (.inr rfl)⟩
 have lf:=Gx.Kw h s hop;have mem:∀{e},e∈T'.filter (fun e=>decide (e.1≠[]))->e∈T'/\e.1≠[]:=fun he=>let ⟨a,b⟩:=BI.mp he;⟨a,EK b⟩;refine⟨(Ei.map _).nodup s.nd,fun e he=>(lf _ (AJ.mpr ⟨e,(mem he).1,rfl⟩)).1,fun e' he'=>?_,fun x hx hz=>?_,fun e he=>(lf _ (AJ.mpr ⟨e,(mem he).1,rfl⟩)).2⟩
 ·obtain⟨he',ne⟩:=mem he';have hc':=(lf _ (AJ.mpr ⟨e',he',rfl⟩)).1;rw[s.val e' he',fj,dz];show _=cnt (IsR R e'.1) ((tx n).flatMap fun x=>[108::x,114::x]);rw[gu];have one:∀c,c=108\/c=114->(T.map fun e=>ind (f e.1 c=e'.1)*e.2).sum=cnt (fun x=>IsR R e'.1 (c::x)) (tx n):=fun c hc=>by
   rw[h.sum hC fun k=>f k c=e'.1];refine bT fun x hx=>?_;constructor
   ·rintro⟨k,hk',e2,hi⟩;obtain⟨e,he,rfl⟩:=AJ.mp hk';rw[<- e2];exact(hf e he c hc).2 x hi
   ·intro hi;obtain⟨z,hz⟩:=List.exists_mem_of_ne_nil _ ne;obtain⟨e,he,hx'⟩:=h.all x hx (live c x z ((hi z).mp hz));obtain⟨h1,h2⟩:=hf e he c hc;exact⟨e.1,AJ.mpr ⟨e,he,rfl⟩,IsR.uniq hC h1 hc' (h2 x hx') hi,hx'⟩
  rw[one 108 (.inl rfl),one 114 (.inr rfl)]
 ·obtain⟨y,hy,hx'⟩:=BQ.mp (show x∈(tx n).flatMap fun x=>[108::x,114::x] from hx);have go:∀c,c=108\/c=114->x=c::y->∃e∈T'.filter (fun e=>decide (e.1≠[])),IsR R e.1 x:=fun c hc ex=>by
   subst ex;obtain⟨z,hz⟩:=hz;obtain⟨e,he,hi⟩:=h.all y hy (live c y z hz);have st:=(hf e he c hc).2 y hi;obtain⟨e',h1,h2⟩:=AJ.mp ((s.ks (f e.1 c)).mpr ((iQ f T _).mpr ⟨e,he,by rcases hc with rfl|rfl<;>simp⟩));refine⟨e',BI.mpr ⟨h1,EG fun n0=>?_⟩,by rw[h2];exact st⟩;have:=(st z).mpr hz;rw[<- h2,n0] at this;cases this
  simp only[AN,Bt,or_false] at hx';rcases hx' with q|q
  ·exact go 108 (.inl rfl) q
  ·exact go 114 (.inr rfl) q
theorem iF(hC:Can C){ws:List (List Nat)}(hcd:∀x y z,x∈tx n->y∈tx n->cd ws x=cd ws y->R x z->R y z){ks:List (List (List Nat))}(nd:ks.Nodup)(h:∀k∈ks,C k/\∃x∈tx n,IsR R k x):ks.length<=8388608:=by
 have hf:∀k:List (List Nat),∃c:List Nat,k∈ks->∃x∈tx n,IsR R k x/\cd ws x=c:=fun k=>by
  by_cases hk:k∈ks
  ·obtain⟨_,x,h1,h2⟩:=h k hk;exact⟨_,fun _=>⟨x,h1,h2,rfl⟩⟩
  ·exact⟨[],fun q=>absurd q hk⟩
 generalize hg:(fun k=>(hf k).choose)=f;have key':∀k∈ks,∃x∈tx n,IsR R k x/\cd ws x=f k:=fun k hk=>by rw[<- hg];exact(hf k).choose_spec hk
 have inj:(ks.map f).Nodup:=by
  refine CD.mpr (nd.imp_of_mem fun {a b} ha hb ne e=>ne ?_);obtain⟨x,hx,ix,cx⟩:=key' a ha;obtain⟨y,hy,iy,cy⟩:=key' b hb;have ec:cd ws x=cd ws y:=by rw[cx,cy,e]
  exact hC a b (h a ha).1 (h b hb).1 fun z=>by
   rw[ix z,iy z];exact⟨hcd x y z hx hy ec,hcd y x z hy hx ec.symm⟩
 have:=GV (tx (min 11 n+12)) inj fun c hc=>by
  obtain⟨k,hk,rfl⟩:=AJ.mp hc;obtain⟨x,hx,_,cx⟩:=key' k hk;rw[<- cx];exact sW hx
 rw[AI,Jd] at this;exact AX this (AX (Dq (by decide) (show min 11 n+12<=23 by lia)) (by decide))
end
def Src (ws:List (List Nat))(x:List Nat)(j p:Nat):Prop:=∃y,x=((ws.getD j []).take p).reverse++y/\RR ws y []
def RP (ws:List (List Nat))(x z:List Nat):Prop:=(z=[0,0]/\RR ws x [])\/∃j p,z=[j,p]/\0<p/\p<(ws.getD j []).length/\Src ws x j p
def enc (ws:List (List Nat))(j p:Nat):List Nat:=[if p+1<(ws.getD j []).length then j else 0,(p+1) % (ws.getD j []).length]
def At (ws k:List (List Nat))(j p:Nat):Prop:=([j,p]∈k/\0<p)\/(p=0/\j<ws.length/\∃i,[i,0]∈k)
theorem sg{ws:List (List Nat)}{x:List Nat}{j:Nat}:Src ws x j 0↔RR ws x []:=by
 unfold Src;rw[CI];exact⟨fun⟨y,h1,h2⟩=>by rw[h1];exact h2,fun h=>⟨x,rfl,h⟩⟩
theorem kg{ws:List (List Nat)}{x:List Nat}{c j p:Nat}(hp:p<(ws.getD j []).length):Src ws (c::x) j (p+1)↔Src ws x j p/\(ws.getD j [])[p]?=some c:=by
 unfold Src;rw[Bh,AL hp,CG];simp only[Option.toList,Dz,List.reverse_nil,List.nil_append,List.cons_append,List.cons.injEq,Option.some.injEq];constructor
 ·rintro⟨y,⟨h1,h2⟩,h3⟩;exact⟨⟨y,h2,h3⟩,h1.symm⟩
 ·rintro⟨⟨y,h2,h3⟩,h1⟩;exact⟨y,⟨h1.symm,h2⟩,h3⟩
theorem cI{ws:List (List Nat)}{j p:Nat}(hp:p<(ws.getD j []).length):j<ws.length:=by
 rcases Nat.lt_or_ge j ws.length with h|h
 ·exact h
 ·rw[Ba,Ci h] at hp;cases hp
theorem sr{ws k:List (List Nat)}{x:List Nat}(h:IsR (RP ws) k x){j p:Nat}(hp:p<(ws.getD j []).length):At ws k j p↔Src ws x j p:=by
 have h0:∀i,[i,0]∈k↔i=0/\RR ws x []:=fun i=>by
  rw[h];constructor
  ·rintro (⟨e,r⟩|⟨j,p,e,h1,_⟩)
   ·exact⟨(List.cons.inj e).1,r⟩
   ·have:=(List.cons.inj (List.cons.inj e).2).1;lia
  ·rintro⟨rfl,r⟩;exact .inl ⟨rfl,r⟩
 unfold At;by_cases p0:p=0
 ·subst p0;rw[sg];constructor
  ·rintro (⟨_,z⟩|⟨_,_,i,hi⟩)
   ·cases z
   ·exact((h0 i).mp hi).2
  ·exact fun r=>.inr ⟨rfl,cI hp,0,(h0 0).mpr ⟨rfl,r⟩⟩
 ·constructor
  ·rintro (⟨hm,_⟩|⟨z,_⟩)
   ·rcases (h _).mp hm with ⟨e,_⟩|⟨j',p',e,_,_,s⟩
    ·have:=(List.cons.inj (List.cons.inj e).2).1;lia
    ·have e1:=(List.cons.inj e).1;have e2:=(List.cons.inj (List.cons.inj e).2).1;subst e1 e2;exact s
   ·exact absurd z p0
  ·exact fun s=>.inl ⟨(h _).mpr (.inr ⟨j,p,rfl,by lia,hp,s⟩),by lia⟩
theorem uK{ws k k':List (List Nat)}{c:Nat}(ne:∀w∈ws,w≠[])(hk:∀z,z∈k'↔∃j p,At ws k j p/\(ws.getD j [])[p]?=some c/\z=enc ws j p):StR (RP ws) k c k':=fun x h z=>by
 have e1:z∈k'↔∃j p,p<(ws.getD j []).length/\Src ws (c::x) j (p+1)/\z=enc ws j p:=by
  rw[hk];constructor
  ·rintro⟨j,p,a,g,e⟩;have hp:=(Bc.mp g).1;exact⟨j,p,hp,(kg hp).mpr ⟨(sr h hp).mp a,g⟩,e⟩
  ·rintro⟨j,p,hp,s,e⟩;obtain⟨s1,s2⟩:=(kg hp).mp s;exact⟨j,p,(sr h hp).mpr s1,s2,e⟩
 rw[e1];constructor
 ·rintro⟨j,p,hp,s,rfl⟩;unfold enc;by_cases hl:p+1<(ws.getD j []).length
  ·rw[EF hl,Eo hl];exact .inr ⟨j,p+1,rfl,by lia,hl,s⟩
  ·have el:p+1=(ws.getD j []).length:=by lia
   rw[EE hl,el,Nat.mod_self];refine .inl ⟨rfl,?_⟩;obtain⟨y,h1,h2⟩:=s;rw[el,Bw] at h1;have hj:=cI hp;have hm:ws.getD j []∈ws:=by rw[Ba,AL hj];exact Bq hj
   exact(cF ws _ []).mpr (.inr ⟨ws.getD j [],y,ne _ hm,h1,h2,by rw[Bp];exact hm⟩)
 ·rintro (⟨rfl,r⟩|⟨j,p,rfl,p0,hp,s⟩)
  ·rcases (cF ws _ []).mp r with ⟨z,_⟩|⟨v,y,v0,h1,h2,h3⟩
   ·cases z
   rw[Bp] at h3;obtain⟨j,hj,ej⟩:=Cf.mp h3;have ev:ws.getD j []=v:=by rw[Ba,AL hj];exact ej
   have lv:=BP.mpr v0;refine⟨j,v.length-1,by rw[ev];lia,⟨y,by rw[ev,show v.length-1+1=v.length by lia,Bw];exact h1,h2⟩,?_⟩;unfold enc;rw[ev,show v.length-1+1=v.length by lia,EE (Bl _),Nat.mod_self]
  ·refine⟨j,p-1,by lia,by rw[show p-1+1=p by lia];exact s,?_⟩;unfold enc;rw[show p-1+1=p by lia,EF hp,Eo hp]
theorem tE{ws:List (List Nat)}(c:Nat)(x z:List Nat)(h:RP ws (c::x) z):∃z,RP ws x z:=by
 have go:∀{y v:List Nat},v≠[]->c::x=v.reverse++y->RR ws y []->(∃u,v++u∈ws)->∃z,RP ws x z:=by
  intro y v v0 e r ⟨u,hu⟩;obtain⟨v',d,rfl⟩:∃v' d,v=v'++[d]:=⟨v.dropLast,v.getLast v0,(List.dropLast_concat_getLast v0).symm⟩
  rw[CG] at e;obtain⟨_,e2⟩:=List.cons.inj (show c::x=d::(v'.reverse++y) from e);by_cases hv:v'=[]
  ·subst hv;exact⟨[0,0],.inl ⟨rfl,by rw[e2];exact r⟩⟩
  ·obtain⟨j,hj,ej⟩:=Cf.mp hu;have ev:ws.getD j []=v'++[d]++u:=by rw[Ba,AL hj];exact ej
   refine⟨[j,v'.length],.inr ⟨j,v'.length,rfl,BP.mpr hv,by rw[ev];simp,y,?_,r⟩⟩;rw[ev,By,CW];exact e2
 rcases h with ⟨_,r⟩|⟨j,p,_,p0,hp,y,h1,h2⟩
 ·rcases (cF ws _ []).mp r with ⟨z,_⟩|⟨v,y,v0,h1,h2,h3⟩
  ·cases z
  ·exact go v0 h1 h2 ⟨[],h3⟩
 ·have hj:=cI hp;refine go (v:=(ws.getD j []).take p) (fun z=>?_) h1 h2 ⟨(ws.getD j []).drop p,by rw[CV,Ba,AL hj];exact Bq hj⟩;have l0:=congrArg List.length z;rw[AZ,Cd] at l0;lia
theorem uZ{ws:List (List Nat)}(h12:∀w∈ws,w.length<=12){n:Nat}(x y z:List Nat)(hx:x∈tx n)(hy:y∈tx n)(e:cd ws x=cd ws y)(h:RP ws x z):RP ws y z:=by
 rcases h with ⟨rfl,r⟩|⟨j,p,rfl,p0,hp,t,h1,h2⟩
 ·exact .inl ⟨rfl,oz h12 hx hy e r⟩
 ·refine .inr ⟨j,p,rfl,p0,hp,?_⟩;have hj:=cI hp;have hm:ws.getD j []∈ws:=by rw[Ba,AL hj];exact Bq hj
  have l12:=h12 _ hm;have lp:((ws.getD j []).take p).length=p:=by rw[AZ];lia
  have lx:=(FN.mp hx).1;have ly:=(FN.mp hy).1;unfold cd at e;obtain⟨e,e3⟩:=Dp e (by simp only[AK,AZ,AI,BG];lia);obtain⟨e1,e2⟩:=Dp e (by simp only[AZ];lia);have ev:((ws.getD j []).take p).reverse=x.take p:=by rw[h1,List.take_left' (by rw[BM,lp])]
  have et:t=x.drop p:=by rw[h1,List.drop_left' (by rw[BM,lp])]
  refine⟨y.drop p,?_,?_⟩
  ·have:y.take p=x.take p:=by
    have a:(x.take 11).take p=x.take p:=by rw[Ca];congr 1;lia
    have b:(y.take 11).take p=y.take p:=by rw[Ca];congr 1;lia
    rw[<- a,<- b,e1]
   rw[ev,<- this,CV]
  ·have hq:p-1<11:=by lia
   have ej:p-1+1=p:=by lia
   have g:=congrArg (fun l:List Nat=>l[p-1]?) e2;simp only[AW,Dg hq,Option.map_some] at g;have g':=qh (p:=RR ws (x.drop (p-1+1)) []) (EM g) (by rw[ej,<- et];exact h2);rw[ej] at g';exact g'
theorem gH(ws:List (List Nat)):IsR (RP ws) [[0,0]] []:=fun z=>by
 rw[AM];constructor
 ·rintro rfl;exact .inl ⟨rfl,rfl⟩
 ·rintro (⟨e,_⟩|⟨j,p,_,p0,hp,y,h1,_⟩)
  ·exact e
  ·have:=congrArg List.length h1;rw[AK,BM,AZ,Cd] at this;lia
theorem HY.start{C:List (List Nat)->Prop}(ws:List (List Nat))(h:C [[0,0]]):HY (RP ws) C 0 [([[0,0]],1)]:=by
 have e0:∀x∈tx 0,x=[]:=fun x hx=>Bv.mp (FN.mp hx).1;refine⟨by simp,fun e he=>?_,fun e he=>?_,fun x hx _=>⟨_,AM.mpr rfl,?_⟩,fun e he=>⟨[],by simp[tx],?_⟩⟩
 ·rw[AM.mp he];exact h
 ·rw[AM.mp he];have:cnt (IsR (RP ws) [[0,0]]) (tx 0)=1+0:=by
   rw[show tx 0=[[]] from rfl,cnt_cons,jL,aZ (gH ws)]
  exact this.symm
 ·rw[e0 x hx];exact gH ws
 ·rw[AM.mp he];exact gH ws
theorem HY.told{C:List (List Nat)->Prop}{ws:List (List Nat)}{n:Nat}{T:Kv}(hC:Can C)(ne:∀w∈ws,w≠[])(h:HY (RP ws) C n T):(T.map fun e=>ind ([0,0]∈e.1)*e.2).sum=cT ws n:=by
 refine h.made hC [0,0] fun x hx=>?_;rw[<- vz ne x.length x (AH _)];constructor
 ·rintro (⟨_,r⟩|⟨j,p,e,p0,_⟩)
  ·exact r
  ·have:=(List.cons.inj (List.cons.inj e).2).1;lia
 ·exact fun r=>.inl ⟨rfl,r⟩
end KM
namespace L2
open PySem PySem.Spec PyProof.Rows
open PySem.MeetsSeq PySem.SeqAt
theorem fV{A:Around}{k:Nat}(hr:Gy k A):A.units+2<cLine:=BN (Nat.add_le_add_left (by decide:2<=64) _) hr.units
section
variable {X:Cx}
def wa (K:W.Frag):R2:=fun x y H Q=>∃l xs ds d,y=.ref l/\SqT K H l xs/\DatAll K H xs ds/\Gh K H x d/\PyData.canLayAll0 ds=true/\d.canLay0=true/\d.depth<=60/\Q (.bl (ds.any fun e=>PyData.eqv e d)) H
theorem uH(hu:X.A.units+64<cLine):OpR X (compareOp .In) (wa X.K):=by
 intro pins s σ H x y v u Q I rx ry h;obtain⟨l,xs,ds,d,rfl,hq,hD,hx,lD,lx,dep,q⟩:=h;cases ry;obtain⟨its,r,pl,hz⟩:=I.tuple hq;obtain⟨bs,rb⟩:=I.reads hx rx;have ln:=fW hD;have rl:=r.length;have rdAt:∀(m:Nat)(h:m<its.length),∃dm as,ds[m]?=some dm/\Reads s.heap its[m] dm as:=fun m h=>by
  have h1:xs[m]?=some xs[m]:=AL (by lia);have h2:ds[m]?=some ds[m]:=AL (by lia);obtain⟨w',hw,rw'⟩:=r.get h1;obtain⟨as,ra⟩:=I.reads (hZ hD h1 h2) rw';rw[AL h] at hw;cases hw;exact⟨_,as,h2,ra⟩
 classical
 let ev:Value->Bool:=fun w'=>if k:∃d':PyData,d'.canLay0=true/\∃as,Reads s.heap w' d' as then PyData.eqv k.choose d else false
 have evAt:∀(w':Value)(d':PyData)(as:List Addr),d'.canLay0=true->Reads s.heap w' d' as->ev w'=PyData.eqv d' d:=fun w' d' as c rr=>by
  have k:∃d':PyData,d'.canLay0=true/\∃as,Reads s.heap w' d' as:=⟨d',c,as,rr⟩
  show(if k:_ then _ else _)=_;rw[dif_pos k];obtain⟨as',rr'⟩:=k.choose_spec.2;rw[Reads.unique _ _ _ _ _ k.choose_spec.1 rr' rr]
 refine SeqAt.in_tupleAt ev pl (fun w' hw=>?_) ⟨.bl _,H,I,rfl,?_⟩
 ·obtain⟨m,hm,rfl⟩:=Cf.mp (show w'∈its by simpa using hw);obtain⟨dm,as,h2,ra⟩:=rdAt m hm;rw[evAt _ _ _ (Hu lD h2) ra];refine SeqAt.eqAt_reads dm d _ s its[m] v as bs ra rb (Hu lD h2) lx ?_;have:=DJ dm.depth d.depth;show X.A.units+1+_<_;lia
 ·have e:its.toArray.any ev=ds.any fun e=>PyData.eqv e d:=by
   rw[show its.toArray.any ev=its.any ev by simp,Fe,BO,BO];constructor
   ·rintro⟨w',hw,e⟩;obtain⟨m,hm,rfl⟩:=Cf.mp hw;obtain⟨dm,as,h2,ra⟩:=rdAt m hm;rw[evAt _ _ _ (Hu lD h2) ra] at e;exact⟨dm,Bg h2,e⟩
   ·rintro⟨dm,hm,e⟩;obtain⟨m,h2⟩:=Dv hm;have hl:=(Bc.mp h2).1;have hm':m<its.length:=by lia
    obtain⟨dm',as,h3,ra⟩:=rdAt m hm';rw[h2] at h3;cases h3;exact⟨_,Bq hm',by rw[evAt _ _ _ (Hu lD h2) ra];exact e⟩
  rw[e];exact q
variable {o i e f value k v l:Expr}{pos pos' apos cpos:Pos}{td ty tx tv tk tl:TE}{tg:Expr}(P:Program)(w:World)
theorem lh(hP:X.prog=P)(hw:X.w=w)(hu:X.A.units+2<cLine)(ho:PE X o td)(hi:PE X i ty)(hs:xi i):PE X (.Subscript o i pos) (ve P w td ty):=by subst hP hw;exact uB hu ho hi hs
theorem nu(hP:X.prog=P)(hw:X.w=w)(hu:X.A.units+2<cLine)(ho:PE X o td)(he:PE X e ty)(hf:PE X f tx)(m:M2 X o "get" apos e f cpos):PE X (.Call (.Attribute o "get" apos) [e,f] [] cpos) (si P w td ty tx):=by subst hP hw;exact qH hu ho he hf m
theorem pW(hP:X.prog=P)(hw:X.w=w)(hu:X.A.units+2<cLine)(ho:PE X o td)(he:PE X e ty)(hf:PE X f tx)(m:M2 X o "pop" apos e f cpos):PE X (.Call (.Attribute o "pop" apos) [e,f] [] cpos) (sC P w td ty tx):=by subst hP hw;exact qw hu ho he hf m
theorem qx(hP:X.prog=P)(hw:X.w=w)(hu:X.A.units+2<cLine)(ho:PE X o td)(hi:PE X i ty)(hv:PE X value tv)(hs:swapsWith value (some (.Subscript o i pos')) pos.line X.env=pure false):PS X (.Assign [.Subscript o i pos'] value pos) (vG P w td ty tv):=by subst hP hw;exact tQ hu ho hi hv hs
theorem qX(hP:X.prog=P)(hw:X.w=w):PE X (.Dict [] [] pos) (uW P w):=by subst hP hw;exact Kf
theorem mf(hP:X.prog=P)(hw:X.w=w)(hu:X.A.units+2<cLine)(hk:PE X k tk)(hv:PE X v tv):PE X (.Dict [some k] [v] pos) (qi P w tk tv):=by subst hP hw;exact mR hu hk hv
theorem jd(hP:X.prog=P)(hw:X.w=w)(hl:PE X l tl):PI X tg l (sN P w tl):=by subst hP hw;exact se hl
end
section
variable {P:Program}{w:World}{H H':Hp}{a:Addr}{kvs:List (DK×V)}
theorem DU.mono(d:DU P w H a kvs)(ht:∀b ys,H b=some (.tup ys)->H' b=some (.tup ys))(e:H' a=H a):DU P w H' a kvs:=let ⟨xs,x,g⟩:=d;⟨xs,⟨x.sys,x.few,x.ku.keeps ht,x.nd⟩,e.trans g⟩
theorem DUf.mono{o:Obj}(d:DUf P w o H a kvs)(ht:∀b ys,H b=some (.tup ys)->H' b=some (.tup ys))(e:H' a=H a):DUf P w o H' a kvs:=let ⟨xs,x,g⟩:=d;⟨xs,⟨x.sys,x.few,x.ku.keeps ht,x.nd⟩,e.trans g⟩
theorem DU.there(d:DU P w H a kvs):∃u,H a=some u:=let ⟨_,_,g⟩:=d;⟨_,g⟩
theorem DUf.there{o:Obj}(d:DUf P w o H a kvs):∃u,H a=some u:=let ⟨_,_,g⟩:=d;⟨_,g⟩
theorem DU.same(d:DU P w H a kvs)(S:Fo H H'):DU P w H' a kvs:=d.mono (fun _ _ q=>S _ _ q) (by obtain⟨u,e⟩:=d.there;exact(S _ _ e).trans e.symm)
theorem DUf.same{o:Obj}(d:DUf P w o H a kvs)(S:Fo H H'):DUf P w o H' a kvs:=d.mono (fun _ _ q=>S _ _ q) (by obtain⟨u,e⟩:=d.there;exact(S _ _ e).trans e.symm)
theorem DU.nt(d:DU P w H a kvs)(ys:List V):H a≠some (.tup ys)/\H a≠some (.lst ys):=by
 obtain⟨_,_,g⟩:=d;exact⟨fun z=>(by rw[g] at z;cases z),fun z=>(by rw[g] at z;cases z)⟩
end
end L2
namespace K3
open PySem PySem.Spec PyProof.Rows L2 KM
abbrev pn(z:List Nat):List Int:=z.map fun m=>((m:Nat):Int)
abbrev pk(z:List Nat):List Key:=z.map fun m=>(Sum.inl ((m:Nat):Int):Key)
abbrev pd(k:List (List Nat)):DK:=k.map pk
theorem sE{a b:List Nat}(h:pn a=pn b):a=b:=(CZ fun x y e=>Int.ofNat.inj e).mp h
theorem uV(z:List Nat):(pk z).map kV=(pn z).map V.int:=by
 show(z.map _).map _=(z.map _).map _;rw[Bn,Bn];rfl
theorem sI{a b:List Nat}(h:pk a=pk b):a=b:=(CZ fun x y e=>Int.ofNat.inj (Sum.inl.inj e)).mp h
theorem pR{a b:List (List Nat)}(h:pd a=pd b):a=b:=(CZ fun x y e=>sI e).mp h
theorem wy{a b:List (List Nat)}:pd a=pd b↔a=b:=⟨pR,fun h=>by rw[h]⟩
abbrev kvU(T:Kv):List (DK×V):=T.map fun e=>(pd e.1,V.int ((e.2:Nat):Int))
theorem qk(k:List (List Nat)):∀T:Kv,cb (kvU T) (pd k)=(dS T k).map fun m=>V.int ((m:Nat):Int)
 |[]=>rfl
 |e::r=>by
  have ih:=qk k r;show cb ((pd e.1,V.int ((e.2:Nat):Int))::kvU r) (pd k)=_;unfold dS at ih ⊢;by_cases c:e.1=k
  ·rw[bH (show pd e.1=pd k by rw[c]),BB,EG c];rfl
  ·rw[bE (fun z=>c (pR z)),ih,BB,EH c]
theorem wx(k:List (List Nat))(T:Kv):((kvU T).any fun kv=>decide (kv.1=pd k))=(T.any fun e=>decide (e.1=k)):=by
 show((T.map _).any _)=_;rw[DA]
 congr 1
 funext e
 exact decide_eq_decide.mpr wy
theorem wk(k:List (List Nat))(m:Nat)(T:Kv):cY (kvU T) (pd k) (.int ((m:Nat):Int))=kvU (uT T k m):=by
 unfold cY uT;rw[wx];split
 ·show(T.map _).map _=(T.map _).map _;rw[Bn,Bn];refine Bz fun e _=>?_;show(if pd e.1=pd k then (pd e.1,V.int ((m:Nat):Int)) else (pd e.1,V.int ((e.2:Nat):Int)))=(fun e:List (List Nat)×Nat=>(pd e.1,V.int ((e.2:Nat):Int))) (if e.1=k then (e.1,m) else e)
  by_cases c:e.1=k
  ·rw[EF c,EF (by rw[c])]
  ·rw[EE c,EE (fun z=>c (pR z))]
 ·show T.map _++[_]=(T++[_]).map _;rw[AU];rfl
theorem uv(T:Kv):bo (kvU T) []=kvU (T.filter fun e=>decide (e.1≠[])):=by
 unfold bo;show(T.map _).filter _=(T.filter _).map _;rw[List.filter_map]
 congr 1
 refine List.filter_congr fun e _=>?_;show decide (pd e.1≠[])=decide (e.1≠[]);refine decide_eq_decide.mpr (not_congr ⟨fun h=>?_,fun h=>by rw[h];rfl⟩);exact List.map_eq_nil_iff.mp h
theorem tD{T:Kv}(h:cb (kvU T) []=none):T.filter (fun e=>decide (e.1≠[]))=T:=by
 rw[List.filter_eq_self];intro e he;refine EG fun z=>?_;have:=qI h;exact this (AJ.mpr ⟨(pd e.1,V.int ((e.2:Nat):Int)),AJ.mpr ⟨e,he,rfl⟩,by show pd e.1=[];rw[z];rfl⟩)
def lX (ws:List (List Nat))(z:List Nat):Prop:=z=[0,0]\/∃j p,z=[j,p]/\0<p/\p<(ws.getD j []).length
structure Cp(ws k:List (List Nat)):Prop where
 so:k.Pairwise fun a b=>¬pn b<pn a
 nd:k.Nodup
 ps:∀z∈k,lX ws z
theorem iO(ws:List (List Nat)):Can (Cp ws):=fun a b ha hb h=>by
 have p:a.Perm b:=(Ey ha.nd hb.nd).mpr fun z=>h z;refine List.Perm.eq_of_pairwise (le:=fun a b=>¬pn b<pn a) (fun x y _ _ h1 h2=>sE ?_) ha.so hb.so p;exact DZ h1 h2
theorem nN{ws:List (List Nat)}{z:List Nat}(h:lX ws z):∃a b,z=[a,b]:=by
 rcases h with rfl|⟨j,p,rfl,_⟩
 ·exact⟨0,0,rfl⟩
 ·exact⟨j,p,rfl⟩
theorem vX{ws:List (List Nat)}{j p:Nat}(hp:p<(ws.getD j []).length):lX ws (enc ws j p):=by
 unfold enc;by_cases h:p+1<(ws.getD j []).length
 ·rw[EF h,Eo h];exact .inr ⟨j,p+1,rfl,by lia,h⟩
 ·rw[EE h,show p+1=(ws.getD j []).length by lia,Nat.mod_self];exact .inl rfl
def Lg:List (List Nat)->Nat->List (List Nat)
 |[],_=>[]
 |w::r,j=>(List.range (w.length-1)).map (fun p=>[j,p+1])++Lg r (j+1)
theorem Ig:∀(ws:List (List Nat))(j:Nat),(Lg ws j).length<=(ws.map List.length).sum
 |[],_=>AH _
 |w::r,j=>by
  have:=Ig r (j+1);show(_++Lg r (j+1)).length<=_;rw[AK,AI,BG,AQ,Bf];lia
theorem IA:∀(ws:List (List Nat))(i j p:Nat),0<p->p<(ws.getD i []).length->[j+i,p]∈Lg ws j
 |[],i,j,p,_,h=>by simp at h
 |w::r,0,j,p,h0,h=>by
  refine Bo _ (AJ.mpr ⟨p-1,BC.mpr ?_,by rw[show p-1+1=p by lia];rfl⟩);have:p<w.length:=h;lia
 |w::r,i+1,j,p,h0,h=>by
  refine AV _ ?_;have:=IA r i (j+1) p h0 h;rw[show j+1+i=j+(i+1) by lia] at this;exact this
theorem sk{ws k:List (List Nat)}(h:(ws.map List.length).sum<=60)(nd:k.Nodup)(ps:∀z∈k,lX ws z):k.length<64:=by
 have:=GV ([0,0]::Lg ws 0) nd fun z hz=>by
  rcases ps z hz with rfl|⟨j,p,rfl,h0,h1⟩
  ·exact AS
  ·have:=IA ws j 0 p h0 h1;rw[Cg] at this;exact AY _ this
 have l:=Ig ws 0;rw[Bj] at this;lia
def tZ (zs:List (List Nat))(z:List Nat):List (List Nat):=if z∈zs then zs else zs++[z]
theorem Ia{zs:List (List Nat)}{z x:List Nat}:x∈tZ zs z↔x∈zs\/x=z:=by
 unfold tZ;split
 ·exact⟨.inl,fun h=>h.elim id fun e=>by rw[e];assumption⟩
 ·rw[AO,AM]
theorem uL{zs:List (List Nat)}{z:List Nat}(h:zs.Nodup):(tZ zs z).Nodup:=by
 unfold tZ;split
 ·exact h
 ·exact Ji h (by assumption)
abbrev kvB(zs:List (List Nat)):List (List Key×V):=zs.map fun z=>(pk z,V.bl true)
theorem uY(zs:List (List Nat))(z:List Nat):cY (kvB zs) (pk z) (.bl true)=kvB (tZ zs z):=by
 have e:((kvB zs).any fun kv=>decide (kv.1=pk z))=decide (z∈zs):=by
  show((zs.map _).any _)=_;rw[DA,Fe,BO,decide_eq_true_iff];constructor
  ·rintro⟨x,hx,h⟩;rw[<- sI (EK (p:=pk x=pk z) h)];exact hx
  ·exact fun h=>⟨z,h,EG (p:=pk z=pk z) rfl⟩
 unfold cY tZ;rw[e];by_cases h:z∈zs
 ·rw[EF (EG h),EF h];show(zs.map _).map _=zs.map _;rw[Bn];refine Bz fun x _=>?_;show(if pk x=pk z then (pk x,V.bl true) else (pk x,V.bl true))=(pk x,V.bl true)
  split<;>rfl
 ·rw[EE (by rw[EH h];decide),EE h];show zs.map _++[_]=(zs++[z]).map _;rw[AU];rfl
noncomputable def fP(ws:List (List Nat))(k:List (List Nat))(c:Nat):List (List Nat):=Classical.epsilon fun k'=>Cp ws k'/\∀z,z∈k'↔∃j p,At ws k j p/\(ws.getD j [])[p]?=some c/\z=enc ws j p
theorem yo{ws k k':List (List Nat)}{c:Nat}(h1:Cp ws k')(h2:∀z,z∈k'↔∃j p,At ws k j p/\(ws.getD j [])[p]?=some c/\z=enc ws j p):fP ws k c=k':=by
 have:=Classical.epsilon_spec (p:=fun k'=>Cp ws k'/\∀z,z∈k'↔∃j p,At ws k j p/\(ws.getD j [])[p]?=some c/\z=enc ws j p) ⟨k',h1,h2⟩;exact iO ws _ _ this.1 h1 fun z=>(this.2 z).trans (h2 z).symm
def xm (ws:List (List Nat))(c:Nat)(a z:List Nat):Prop:=∃j p,((0<p/\a=[j,p])\/(p=0/\j<ws.length/\∃i,a=[i,0]))/\(ws.getD j [])[p]?=some c/\z=enc ws j p
theorem tY{ws k:List (List Nat)}{c:Nat}{z:List Nat}:(∃a∈k,xm ws c a z)↔∃j p,At ws k j p/\(ws.getD j [])[p]?=some c/\z=enc ws j p:=by
 constructor
 ·rintro⟨a,ha,j,p,q|q,h2,h3⟩
  ·obtain⟨q1,rfl⟩:=q;exact⟨j,p,.inl ⟨ha,q1⟩,h2,h3⟩
  ·obtain⟨q1,q2,i,rfl⟩:=q;exact⟨j,p,.inr ⟨q1,q2,i,ha⟩,h2,h3⟩
 ·rintro⟨j,p,q|q,h2,h3⟩
  ·exact⟨_,q.1,j,p,.inl ⟨q.2,rfl⟩,h2,h3⟩
  ·obtain⟨q1,q2,i,q3⟩:=q;exact⟨_,q3,j,p,.inr ⟨q1,q2,i,rfl⟩,h2,h3⟩
def ie (z:List Nat):PyData:=.tuple ((pn z).map PyData.int)
theorem gj{K:W.Frag}{H:Hp}:∀ns:List Int,DatAll K H (ns.map V.int) (ns.map PyData.int)
 |[]=>.nil
 |n::r=>.cons (.int n) (gj r)
theorem sX{K:W.Frag}{H:Hp}:∀{rs:List Addr}{k:List (List Nat)},Paired (fun r (k:List Key)=>H r=some (.tup (k.map kV))) rs (pd k)->DatAll K H (rs.map V.ref) (k.map ie)
 |[],[],.nil=>.nil
 |r::rs,z::k,.cons h t=>.cons (.tup (SqT.of (by rw[<- uV];exact h)) (gj _)) (sX t)
theorem eR:∀ns:List Int,PyData.canLayAll0 (ns.map PyData.int)=true
 |[]=>rfl
 |n::r=>by
  show(PyData.canLay0 (.int n)&&PyData.canLayAll0 (r.map PyData.int))=true;rw[eR r];rfl
theorem kZ(z:List Nat):(ie z).canLay0=true:=eR _
theorem IW:∀k:List (List Nat),PyData.canLayAll0 (k.map ie)=true
 |[]=>rfl
 |z::r=>by
  show((ie z).canLay0&&PyData.canLayAll0 (r.map ie))=true;rw[IW r,kZ];rfl
theorem Hl:∀a b:List Int,PyData.eqv (.tuple (a.map PyData.int)) (.tuple (b.map PyData.int))=decide (a=b)
 |[],[]=>rfl
 |[],_::_=>rfl
 |_::_,[]=>rfl
 |x::a,y::b=>by
  have ih:=Hl a b;show(decide (x=y)&&PyData.eqv (.tuple (a.map PyData.int)) (.tuple (b.map PyData.int)))=_;rw[ih,Fe,Bx,decide_eq_true_iff,decide_eq_true_iff,decide_eq_true_iff,List.cons.injEq]
theorem wJ(k:List (List Nat))(z:List Nat):((k.map ie).any fun e=>PyData.eqv e (ie z))=decide (z∈k):=by
 rw[DA,Fe,BO,decide_eq_true_iff];constructor
 ·rintro⟨x,hx,h⟩;have h':PyData.eqv (ie x) (ie z)=true:=h;rw[show PyData.eqv (ie x) (ie z)=decide (pn x=pn z) from Hl _ _] at h';rw[<- sE (EK h')];exact hx
 ·intro h;exact⟨z,h,(show PyData.eqv (ie z) (ie z)=true from(Hl _ _).trans (EG rfl))⟩
theorem jW{ws:List (List Nat)}:∀{t:List Nat},(∀i∈t,i<ws.length)->Pr ws (bA ws t)
 |[],_=>.nil
 |i::t,h=>by
  rw[bz];exact(Pr.one (aG (h i AS))).app (jW fun j hj=>h j (AY _ hj))
theorem vf{ws:List (List Nat)}{w:List Nat}(h:w∈ws):∃i,i<ws.length/\ws.getD i []=w:=by
 obtain⟨i,hi,e⟩:=List.getElem_of_mem h;exact⟨i,hi,by rw[Ba,AL hi];exact e⟩
theorem pE{ws:List (List Nat)}{x:List Nat}(h:Pr ws x):∃t,(∀i∈t,i<ws.length)/\bA ws t=x:=by
 induction h with
 |nil=>exact⟨[],fun i h=>absurd h (by simp),rfl⟩
 |snoc _ hw ih=>
  obtain⟨t,h1,h2⟩:=ih;obtain⟨i,hi,e⟩:=vf hw;refine⟨t++[i],fun j hj=>?_,by rw[fq,h2,e]⟩;rcases AO.mp hj with hj|hj
  ·exact h1 j hj
  ·rw[AM.mp hj];exact hi
theorem Kd{ws:List (List Nat)}{x:List Nat}:In ws x↔Pr ws x:=⟨fun⟨t,h1,h2⟩=>by rw[<- h2];exact jW h1,fun h=>pE h⟩
theorem jU(p:List Nat->Prop)(f:List Nat->List Nat):∀l:List (List Nat),cnt p (l.map f)=cnt (fun x=>p (f x)) l
 |[]=>rfl
 |x::r=>by rw[AQ,KM.cnt_cons,KM.cnt_cons,jU p f r]
theorem Gp:∀(n:Nat)(p:List Nat->Prop),cnt p (FI n)=cnt (fun x=>p x.reverse) (tx n)
 |0,p=>rfl
 |n+1,p=>by
  show cnt p ((FI n).map (fun x=>x++[108])++(FI n).map (fun x=>x++[114]))=cnt (fun x=>p x.reverse) ((tx n).flatMap fun x=>[108::x,114::x]);rw[oP,jU,jU,gu,Gp n,Gp n];have e:∀(c:Nat)(x:List Nat),(c::x).reverse=x.reverse++[c]:=fun c x=>Dz;simp only[e]
theorem jR(p:List Nat->Prop)(f:List Nat->Int):∀l:List (List Nat),(∀x∈l,f x=((ind (p x):Nat):Int))->(l.map f).sum=((cnt p l:Nat):Int)
 |[],_=>rfl
 |x::r,h=>by
  rw[AQ,Bf,KM.cnt_cons,jR p f r (fun y hy=>h y (AY _ hy)),h x AS];exact(CY _ _).symm
theorem xQ(m n:Nat):(jk m n).Nodup:=(kS m n).imp fun {a b} h e=>by
 subst e;unfold kLt lG at h;rw[EF rfl,Ga] at h;cases h
theorem uj{α:Type}:∀{l:List α}{a b:α},a∈l->b∈l->a≠b->2<=l.length
 |[],_,_,h,_,_=>by cases h
 |[x],a,b,h,k,n=>absurd ((AM.mp h).trans (AM.mp k).symm) n
 |_::_::l,_,_,_,_,_=>by show 2<=l.length+1+1;lia
theorem rO{ws:List (List Nat)}(W:Wds ws){a b x:List Nat}(ha:∀i∈a,i<ws.length)(hb:∀i∈b,i<ws.length)(ne:a≠b)(ea:bA ws a=x)(eb:bA ws b=x):2<=Wn ws x:=by
 have c:=fL W.ok x.length x (AH _);have la:=cZ W.l1 a ha;have lb:=cZ W.l1 b hb;rw[ea] at la;rw[eb] at lb;have:2<=(jk ws.length x.length).countP fun r=>decide (cw ws r=x):=by
  rw[List.countP_eq_length_filter];exact uj (BI.mpr ⟨(cQ _ _ _).mpr ⟨la,ha⟩,EG ea⟩) (BI.mpr ⟨(cQ _ _ _).mpr ⟨lb,hb⟩,EG eb⟩) ne
 lia
theorem tV{hs:List (List Nat)}(W:Wds hs)(ud:UD hs){row:List Nat}(hr:∀i∈row,i<hs.length):Wn hs (bA hs row)=1:=by
 have ecw:∀r:List Nat,cw hs r=bA hs r:=fun _=>rfl;have lr:=cZ W.l1 row hr;have c:=fL W.ok (bA hs row).length (bA hs row) (AH _);rw[<- c];have hm:row∈jk hs.length (bA hs row).length:=(cQ _ _ _).mpr ⟨lr,hr⟩;have e1:(jk hs.length (bA hs row).length).countP (fun r=>decide (cw hs r=bA hs row))=(jk hs.length (bA hs row).length).countP (fun r=>r==row):=by
  refine List.countP_congr fun r hm'=>?_;have hk:=((cQ _ _ _).mp hm').2;rw[decide_eq_true_iff,Fl,ecw];exact⟨fun e=>ud r row hk hr e,fun e=>by rw[e]⟩
 rw[e1];have:(jk hs.length (bA hs row).length).count row=1:=Nat.le_antisymm (List.nodup_iff_count.mp (xQ _ _) row) (List.count_pos_iff.mpr hm);show(((jk hs.length (bA hs row).length).count row:Nat):Int)=1;rw[this];rfl
theorem gQ(f g:List Nat->Int):∀l:List (List Nat),(∀x∈l,f x<=g x)->(l.map f).sum<=(l.map g).sum/\((∃x∈l,f x<g x)->(l.map f).sum<(l.map g).sum)
 |[],_=>⟨CP _,fun⟨_,h,_⟩=>by cases h⟩
 |x::r,h=>by
  obtain⟨i1,i2⟩:=gQ f g r fun y hy=>h y (AY _ hy);have h0:=h x AS;rw[AQ,Bf,AQ,Bf];refine⟨by lia,fun hq112=>?_⟩;obtain⟨y,hy,hl⟩:=hq112;rcases AN.mp hy with rfl|hy
  ·lia
  ·have:=i2 ⟨y,hy,hl⟩;lia
theorem IF:∀(n:Nat)(x:List Nat),x.length=n->(∀c∈x,GG c)->x∈FI n
 |0,x,h,_=>by rw[Bv.mp h];exact AM.mpr rfl
 |n+1,x,h,hc=>by
  rcases Dk x with rfl|⟨y,c,rfl⟩
  ·cases h
  rw[Dl] at h hc ⊢;rw[AK] at h;have hy:=IF n y (Nat.succ.inj h) fun d hd=>hc d (Bo _ hd);rw[FI,AO,AJ,AJ];rcases hc c (AV _ (AM.mpr rfl)) with rfl|rfl
  ·exact .inl ⟨y,hy,rfl⟩
  ·exact .inr ⟨y,hy,rfl⟩
theorem sq(ws:List (List Nat))(n:Nat):((FI n).map fun x=>((ind (Pr ws x):Nat):Int)).sum=((cT ws n:Nat):Int):=by
 rw[jR (Pr ws) _ (FI n) fun x _=>rfl];unfold cT;rw[Gp n (Pr ws)];exact congrArg _ (bT fun x _=>Kd.symm)
theorem kN{ws:List (List Nat)}(W:Wds ws)(x:List Nat):((ind (Pr ws x):Nat):Int)<=Wn ws x:=by
 obtain⟨h1,h2⟩:=kP W.ok x;by_cases h:Pr ws x
 ·rw[aZ h];have:=h2.mpr h;lia
 ·rw[aX h];exact h1
theorem qc{hs:List (List Nat)}(W:Wds hs)(ud:UD hs)(n:Nat):(cL hs n).getD n 0=((cT hs n:Nat):Int):=by
 rw[<- gM W n,jR (Pr hs) (Wn hs) (FI n) fun x _=>?_]
 ·unfold cT;rw[Gp n (Pr hs)];exact congrArg _ (bT fun x _=>Kd.symm)
 ·by_cases h:Pr hs x
  ·rw[aZ h];obtain⟨t,h1,h2⟩:=pE h;rw[<- h2];exact tV W ud h1
  ·rw[aX h];obtain⟨h1,h2⟩:=kP W.ok x;have:¬0<Wn hs x:=fun z=>h (h2.mp z);show _=(0:Int)
   lia
theorem tR{ws:List (List Nat)}(W:Wds ws)(n:Nat):((cT ws n:Nat):Int)<=(cL ws n).getD n 0:=by
 rw[<- gM W n,<- sq];exact(gQ _ _ _ fun x _=>kN W x).1
theorem tL{ws:List (List Nat)}(W:Wds ws){a b:List Nat}(ha:∀i∈a,i<ws.length)(hb:∀i∈b,i<ws.length)(ne:a≠b)(e:bA ws b=bA ws a):((cT ws (bA ws a).length:Nat):Int)<(cL ws (bA ws a).length).getD (bA ws a).length 0:=by
 rw[<- gM W,<- sq];refine(gQ _ _ _ fun x _=>kN W x).2 ⟨bA ws a,IF _ _ rfl fun c hc=>?_,?_⟩
 ·obtain⟨y,hy,hc⟩:=List.mem_flatten.mp hc;obtain⟨i,hi,rfl⟩:=AJ.mp hy;exact W.lr _ (aG (ha i hi)) c hc
 ·rw[aZ (jW ha)];have:=rO W ha hb ne rfl e;show(1:Int)<_;lia
theorem rV{ws:List (List Nat)}(W:Wds ws)(n:Nat):((FI n).filter fun x=>decide (0<Wn ws x)).length=cT ws n:=by
 have e:∀l:List (List Nat),(l.filter fun x=>decide (0<Wn ws x)).length=cnt (Pr ws) l:=fun l=>by
  induction l with
  |nil=>rfl
  |cons x r ih=>
   rw[Bs,KM.cnt_cons,<- ih];by_cases h:Pr ws x
   ·rw[aZ h,EF (EG ((kP W.ok x).2.mpr h)),Bj];lia
   ·rw[aX h,EE (by rw[EH fun z=>h ((kP W.ok x).2.mp z)];decide)];lia
 rw[e];unfold cT;rw[Gp n (Pr ws)];exact bT fun x _=>Kd.symm
end K3
namespace K3
open PySem PySem.Spec PyProof.Rows L2
section
variable {P:Program}{w:World}{K:PySem.W.Frag}{mg:Str->Option Value}{base:Heap}
open KM
theorem uD{T:Kv}(nd:(T.map (·.1)).Nodup){e:List (List Nat)×Nat}(he:e∈T):dS T e.1=some e.2:=by
 cases h:dS T e.1 with
 |none=>exact absurd (AJ.mpr ⟨e,he,rfl⟩) (ik h)
 |some m=>rw[Hq nd (fo h) he]
theorem jx{α β:Type}{R:α->β->Prop}{l l':List α}(p:l'.Perm l):∀{m:List β},Paired R l m->∃m',m'.Perm m/\Paired R l' m':=by
 induction p with
 |nil=>intro m h;exact⟨m,.refl _,h⟩
 |cons x _ ih=>
  intro m h;cases h with
  |cons a t=>
   obtain⟨m',h1,h2⟩:=ih t;exact⟨_::m',.cons _ h1,.cons a h2⟩
 |swap x y l=>
  intro m h;cases h with
  |cons a t=>
   cases t with
   |cons b t=>exact⟨_::_::_,.swap _ _ _,.cons b (.cons a t)⟩
 |trans _ _ ih1 ih2=>
  intro m h;obtain⟨m1,h1,h2⟩:=ih2 h;obtain⟨m2,h3,h4⟩:=ih1 h2;exact⟨m2,h3.trans h1,h4⟩
theorem pZ(z:List Nat):(ie z).depth<=60:=by
 have e:(ie z).depth=PyData.depthAll ((pn z).map PyData.int)+1:=by simp[ie,PyData.depth]
 have d:∀ns:List Int,PyData.depthAll (ns.map PyData.int)=0:=fun ns=>by
  induction ns with
  |nil=>rfl
  |cons n r ih=>show max 0 (PyData.depthAll (r.map PyData.int))=0;rw[ih];rfl
 rw[e,d];decide
theorem uM{ws:List (List Nat)}{T S:Kv}(h:∀e∈S,e∈T)(z:∀e∈S,∀c,c=108\/c=114->Cp ws (fP ws e.1 c)/\StR (RP ws) e.1 c (fP ws e.1 c)):uP (RP ws) (Cp ws) T (bR (fP ws) S):=fun t ht=>by
 obtain⟨e,he,q⟩:=BQ.mp ht;simp only[AN,Bt,or_false] at q;rcases q with rfl|rfl
 ·exact⟨e,h e he,108,.inl rfl,z e he 108 (.inl rfl)⟩
 ·exact⟨e,h e he,114,.inr rfl,z e he 114 (.inr rfl)⟩
theorem fewR{ws:List (List Nat)}{n:Nat}{T S T':Kv}(W:Wc ws)(h:HY (RP ws) (Cp ws) n T)(s:Gx S T')(hS:uP (RP ws) (Cp ws) T S):(kvU T').length<=8388608:=by
 have:=iF (iO ws) (fun x y z hx hy=>uZ W.l12 x y z hx hy) s.nd (Gx.Kw h s hS);rw[AI] at this ⊢;exact this
abbrev PsA(H:Hp):List V->List (Nat×Nat)->Prop:=Paired fun v (p:Nat×Nat)=>∃a,v=V.ref a/\H a=some (.tup [.int ((p.1:Nat):Int),.int ((p.2:Nat):Int)])
theorem PsA.same{H H':Hp}{us:List V}{ps:List (Nat×Nat)}(h:PsA H us ps)(S:Fo H H'):PsA H' us ps:=Paired.GQ h fun _ _ hq113=>by obtain⟨a,e,g⟩:=hq113;exact⟨a,e,S _ _ g⟩
theorem PsA.upd{H:Hp}{d:Addr}{o:HO}{kvs:List (List Key×V)}{us:List V}{ps:List (Nat×Nat)}(h:PsA H us ps)(g:H d=some (.dT kvs)):PsA (L2.upd H d o) us ps:=Paired.GQ h fun _ _ hq114=>by obtain⟨a,e,ga⟩:=hq114;exact⟨a,e,by rw[ai (bD ga g (fun z=>by cases z))];exact ga⟩
theorem nQ{ws:List (List Nat)}{c x y:Nat}{ps:List (Nat×Nat)}(h:∀p:Nat×Nat,p∈ps↔(0<y/\p=(x,y))\/(y=0/\p.2=0/\p.1<ws.length))(z:List Nat):xm ws c [x,y] z↔∃p∈ps,(ws.getD p.1 [])[p.2]?=some c/\z=enc ws p.1 p.2:=by
 constructor
 ·rintro⟨j,p,q|q,h2,h3⟩
  ·obtain⟨q1,q2⟩:=q;cases q2;exact⟨(x,y),(h _).mpr (.inl ⟨q1,rfl⟩),h2,h3⟩
  ·obtain⟨rfl,q2,i,q3⟩:=q;cases q3;exact⟨(j,0),(h _).mpr (.inr ⟨rfl,rfl,q2⟩),h2,h3⟩
 ·rintro⟨⟨j,p⟩,hp,h2,h3⟩;rcases (h _).mp hp with ⟨q1,q2⟩|⟨q1,q2,q3⟩
  ·cases q2;exact⟨x,y,.inl ⟨q1,rfl⟩,h2,h3⟩
  ·have q2:p=0:=q2;subst q1 q2;exact⟨j,0,.inr ⟨rfl,q3,x,rfl⟩,h2,h3⟩
theorem yc(a b:Nat):decide (V.str ⟨#[a]⟩=V.str (txt [b]))=decide (a=b):=by
 refine decide_eq_decide.mpr ⟨fun h=>?_,fun h=>by rw[h];rfl⟩;have e:(⟨#[a]⟩:Str)=txt [b]:=by injection h
 have e2:#[a]=[b].toArray:=congrArg Str.cps e;have e3:[a]=[b]:=by simpa using congrArg Array.toList e2
 exact(List.cons.inj e3).1
abbrev KsA(H:Hp):List Addr->List (List Nat)->Prop:=Paired fun a z=>H a=some (.tup ((pk z).map kV))
theorem iz{H:Hp}:∀{us:List V}{zs:List (List Nat)},Paired (fun v (k:List Key)=>∃b,v=V.ref b/\H b=some (.tup (k.map kV))) us ((kvB zs).map (·.1))->∃ks:List Addr,us=ks.map V.ref/\KsA H ks zs
 |_,[],.nil=>⟨[],rfl,.nil⟩
 |_,z::zs,.cons h t=>by
  obtain⟨b,rfl,g⟩:=h;obtain⟨ks,rfl,q⟩:=iz t;exact⟨b::ks,rfl,.cons g q⟩
theorem KsA.same{H H':Hp}{ks:List Addr}{zs:List (List Nat)}(h:KsA H ks zs)(S:Fo H H'):KsA H' ks zs:=Paired.GQ h fun _ _ e=>S _ _ e
theorem KsA.mem{H:Hp}{ks:List Addr}{zs:List (List Nat)}(h:KsA H ks zs):∀k∈ks,∃z∈zs,H k=some (.tup ((pk z).map kV)):=by
 induction h with
 |nil=>intro k hk;cases hk
 |cons a _ ih=>
  intro k hk;rcases AN.mp hk with rfl|hk
  ·exact⟨_,AS,a⟩
  ·obtain⟨z,hz,e⟩:=ih k hk;exact⟨z,AY _ hz,e⟩
theorem jV{α β:Type}{R:α->β->Prop}{l:List α}{m:List β}(h:Paired R l m):∀y∈m,∃x∈l,R x y:=by
 induction h with
 |nil=>intro y hy;cases hy
 |cons a _ ih=>
  intro y hy;rcases AN.mp hy with rfl|hy
  ·exact⟨_,AS,a⟩
  ·obtain⟨x,hx,e⟩:=ih y hy;exact⟨x,AY _ hx,e⟩
theorem qj{α β:Type}{R:α->β->Prop}{p:α->α->Prop}{q:β->β->Prop}(hpq:∀a b x y,R a x->R b y->p a b->q x y){l:List α}{m:List β}(h:Paired R l m)(hp:l.Pairwise p):m.Pairwise q:=by
 induction h with
 |nil=>exact .nil
 |cons a t ih=>
  obtain⟨h1,h2⟩:=De.mp hp;refine De.mpr ⟨fun y hy=>?_,ih h2⟩;obtain⟨x,hx,r⟩:=jV t y hy;exact hpq _ _ _ _ a r (h1 x hx)
theorem rA{H:Hp}{b:Addr}{ks:List Addr}{zs:List (List Nat)}(g:H b=some (.tup (ks.map V.ref)))(h:KsA H ks zs):GO H b (pd zs):=by
 refine⟨ks,g,?_⟩;clear g;induction h with
 |nil=>exact .nil
 |cons a _ ih=>exact .cons a ih
open KM
def yG (P:Program)(w:World):Sp:=fun vs H Q _=>∃l ws,∃n:Nat,vs=[.ref l,.int (n:Int)]/\H l=some (.lst (aj ws))/\Wc ws/\(ws.map List.length).sum<=60/\n<=40/\∀p H',Fo H H'->H p=none->H' p=some (.lst ((List.range (n+1)).map fun i=>V.int ((cT ws i:Nat):Int)))->Q (.ref p) H'
theorem xD{d:DD}(D:Def K mg "_law_tables_due" (top 45) ["words","most"] d)(yJ:mg "range"=none)(yK:mg "len"=none)(yQ:mg "sum"=none)(yP:mg "list"=none)(yO:mg "tuple"=none)(yS:mg "sorted"=none)(yV:mg "int"=none):(fk 1 d ["words","most"] (yG P w)):=by
 exists["words","most","counts","told","n","later","some","letter","there","number","at","starts","j","place","key"]
 obtain⟨l,ws,n,rfl,hl,W,h60,n40,q⟩:=h;refine⟨_,(ag (ac 2 (@mf _ _ _ _ _ _ P w rfl rfl (fV hr) (aO (aD (aO (Fn (ah _) (aD (ah _) ba) ba)) (by rfl))) (ah _))) (ag (ax 3 (bg (@FE _))) (ag (bB (bb yJ (aD (az Fy (1) (ah _)) (by rfl))) (ao 4) (ag (bx (iE (3) (aJ (bX hc) yQ GS (aD (aW (aq (ts:=["some"]) (cap:=["counts"]) (js:=[2]) rfl rfl rfl rfl rfl rfl (by decide +kernel)) (jd P w (2)) (ad 0 (nd ["some","counts"])) (@bN _ _ _ (aA (show OpR _ _ (wa K) from uH hr.units) (aO (Fn (ah _) (aD (ah _) ba) ba)) (0) rfl)) (lh P w (fV hr) (1) (0))) (by rfl))) eV)) (ag (ax 5 (@qX _ _ P w rfl rfl)) (ag (bB (jd P w (2)) (ao 6) (ak (bB (pN (aU _)) (ao 7) (ag (ax 8 (@Ik _ _)) (ag (bB (@oh _ _ _ _ (6)) (dD (ay (ao 9) (ay (ao 10) (@FG _)))) (ag (ax 11 (oE (dF (aA GY (10) (ah _) (aE _)) (bg (aD (aO (Fn (9) (aD (10) aC) aC)) (by rfl))) (aW (aq (ts:=["j"]) (cap:=[]) (js:=[]) rfl rfl rfl rfl rfl rfl (by decide +kernel)) (bb yJ (aD (aR Ft yK (0) aC) eV)) (ad 0 (nd ["j"])) (@aV _) (aO (Fn (0) (aD (ah _) ba) aC)))))) (ak (bB (aN (11)) (dD (ay (ao 12) (ay (ao 13) (@FG _)))) (ak (bS (aA GP (aL JL (aL Fq (0) (12)) (13)) (7) (aE _)) (ak (gm (fD hr) (8) (aO (Fn (az FV (12) (br HC yV Ib (aD (dP JD (az Fy (13) (ah _)) (aR Fp yK (aL Fq (0) (12)) (by rfl)) (aE _)) (by rfl)))) (aD (az FW (az Fy (13) (ah _)) (aR Fp yK (aL Fq (0) (12)) (by rfl))) (by rfl)) (by rfl))) (jK _))) (Fv _))))))) (ag (ax 14 (br FT yO GB (aD (aJ (mJ (L:=2) (by decide)) yS Hz (aD (br (ny hc) yP GJ (aD (8) aC)) eV)) eV))) (ak (qx P w (fV hr) (5) (14) (az Fy (@nu _ _ _ _ _ _ _ _ _ P w rfl rfl (fV hr) (5) (14) (ah _) ⟨rfl,rfl,rfl,rfl⟩) (lh P w (fV hr) (2) (6))))))))))) (ag (bx (@pW _ _ _ _ _ _ _ _ _ P w rfl rfl (fV hr) (5) (aO (@FE _)) (ah _) ⟨rfl,rfl,rfl,rfl⟩)) (ak (ac 2 (5)))))))) (ak (aI (3)))))),?_⟩
 walk_at "d"
 have w8:=W.w.n8;have ne:∀x∈ws,x≠[]:=fun x hx z=>by have:=W.w.l1 x hx;rw[z] at this;exact absurd this (by decide)
 refine fun p u np du=>⟨av (by show 2<=1000000;decide),fun b nb=>⟨av (by show 1<=1000000;decide),fun B nB=>⟨pd [[0,0]],B,?_,rfl,?_,fun u2 du2=>?_⟩⟩⟩
 ·exact(du.same (af nb _)).same (af nB _)
 ·exact⟨[b],ae,.cons (af nB _ _ _ ae) .nil⟩
 have S0:Fo H (upd (upd (upd (upd H p u) b (.tup [.int 0,.int 0])) B (.tup [.ref b])) p u2):=fun x o e=>by
  have n3:x≠p:=fun z=>by rw[z,np] at e;cases e
  rw[ai n3];refine af nB _ _ _ (af nb _ _ _ ?_);rw[ai n3];exact e
 generalize upd (upd (upd (upd H p u) b (.tup [.int 0,.int 0])) B (.tup [.ref b])) p u2=H0 at S0 du2;have T0:=HY.start (C:=Cp ws) ws ⟨by simp,by simp,fun z hz=>.inl (AM.mp hz)⟩;refine⟨av (by show 0<=1000000;decide),fun t nt=>?_⟩;have nt0:H t=none:=by
  cases e:H t with
  |none=>rfl
  |some o=>rw[S0 _ _ e] at nt;cases nt
 have S1:=S0.trans (af nt (.lst []));have du1:=du2.same (af nt (.lst []));have g1:upd H0 t (.lst []) t=some (.lst []):=ae;generalize upd H0 t (.lst [])=H1 at S1 du1 g1 ⊢;refine⟨_,rfl,_,_,rfl,rfl,_,rfl,by lia,by lia,?_⟩;rw[show((n:Int)+1).toNat=n+1 by lia];refine bZ (lo:=0) (n:=n+1) (fun i σ H'=>∃c T e4 e5 e6 e7 e8 e9 e10 e11 e12 e13 e14,σ=[some (.ref l),some (.int n),some (.ref c),some (.ref t),e4,e5,e6,e7,e8,e9,e10,e11,e12,e13,e14]/\Fo H H'/\H c=none/\c≠t/\H' t=some (.lst ((List.range i).map fun i=>V.int ((cT ws i:Nat):Int)))/\DU P w H' c (kvU T)/\HY (RP ws) (Cp ws) i T) ⟨p,[([[0,0]],1)],_,_,_,_,_,_,_,_,_,_,_,rfl,S1,np,fun z=>?_,g1,du1,T0⟩ (fun i σ H' hi z=>?_) (fun σ H' z=>?_)
 ·obtain⟨_,e⟩:=du2.there;rw[z,nt] at e;cases e
 rotate_left
 ·obtain⟨c,T,e4,e5,e6,e7,e8,e9,e10,e11,e12,e13,e14,rfl,y1,y2,y3,y4,y5,y6⟩:=z;exact⟨_,rfl,q t H' y1 nt0 y4⟩
 obtain⟨c,T,e4,e5,e6,e7,e8,e9,e10,e11,e12,e13,e14,rfl,y1,y2,y3,y4,y5,y6⟩:=z;have few:T.length<=8388608:=by
  have:=iF (iO ws) (fun x y z hx hy=>uZ W.l12 x y z hx hy) y6.nd fun k hk=>by
   obtain⟨e,he,rfl⟩:=AJ.mp hk;exact⟨y6.can e he,y6.ex e he⟩
  rw[AI] at this;exact this
 have ekl:(kvU T).length=T.length:=AI _;refine⟨_,rfl,.inl ⟨rfl,_,SqL.of y4⟩,_,rfl,c,kvU T,rfl,.inl ⟨y5,fun o u df=>?_⟩⟩;have S1:Fo H (upd H' c u):=fun x o' e=>by rw[ai (fun z=>by rw[z,y2] at e;cases e)];exact y1 _ _ e
 have gt:upd H' c u t=some (.lst ((List.range i).map fun i=>V.int ((cT ws i:Nat):Int))):=by rw[ai (EZ y3)];exact y4
 generalize upd H' c u=Ha at df S1 gt ⊢;clear y1 y4 y5;have ekl:(kvU T).length=T.length:=AI _;have kAt:∀{k:Nat}{p:DK×V},(kvU T)[k]?=some p->∃e:List (List Nat)×Nat,T[k]?=some e/\p=(pd e.1,V.int ((e.2:Nat):Int)):=fun {k p} hp=>by
  rw[AW] at hp;obtain⟨e,he,rfl⟩:=BH.mp hp;exact⟨e,he,rfl⟩
 have vAt:∀e∈T,cb (kvU T) (pd e.1)=some (V.int ((e.2:Nat):Int)):=fun e he=>by rw[qk,uD y6.nd he];rfl
 refine xC (N:=fun k ys H2=>Fo Ha H2/\ys=(((T.take k).filter fun e=>decide ([0,0]∈e.1)).map fun e=>((e.2:Nat):Int)).map V.int) ⟨Fo.refl _,rfl⟩ (fun k ys H2 hk z=>?_) (by rw[ekl,sizeLine_eq];lia) (fun k ys H2 hk z=>df.same z.1) (fun k p b ys H2 hp tb z=>?_) (fun ys H2 z L9 nP=>?_)
 ·rw[z.2,AI,AI];refine AX (Ce _ _) ?_;rw[AZ];exact CA _ _
 ·obtain⟨z1,rfl⟩:=z;obtain⟨e,he,rfl⟩:=kAt hp;have hk0:=(Bc.mp hp).1;have eT:=Bg he;obtain⟨rs,tb1,tb2⟩:=id tb;refine⟨av (by show 2<=1000000;decide),fun q nq=>?_⟩;have Sq:=af nq (.tup [.int 0,.int 0]);have gq:upd H2 q (.tup [.int 0,.int 0]) q=some (.tup ((pn [0,0]).map V.int)):=ae;generalize upd H2 q (.tup [.int 0,.int 0])=H3 at Sq gq ⊢;have tb':=tb.keeps fun b' ys' e'=>Sq _ _ e';refine⟨_,rfl,b,_,_,ie [0,0],rfl,SqT.of (Sq _ _ tb1),sX (Paired.GQ tb2 fun _ _ z=>Sq _ _ z),.tup (SqT.of gq) (gj _),IW _,kZ _,pZ _,decide ([0,0]∈e.1),?_,?_⟩
  ·rw[wJ]
  have et:T.take (k+1)=T.take k++[e]:=by rw[Bh,he];rfl
  cases h0:decide ([0,0]∈e.1) with
  |true=>
   refine⟨_,rfl,_,rfl,c,b,kvU T,pd e.1,V.int ((e.2:Nat):Int),rfl,rfl,(df.same (z1.trans Sq)).rd,tb',vAt e eT,Nx.mk hk0 ⟨z1.trans Sq,?_⟩⟩;rw[et,BR,Bs,h0,EF rfl,AU,AU];rfl
  |false=>
   refine Nx.mk (i:=k) (n:=(kvU T).length) (P:=fun k ys H2=>Fo Ha H2/\ys=(((T.take k).filter fun e=>decide ([0,0]∈e.1)).map fun e=>((e.2:Nat):Int)).map V.int) hk0 ⟨z1.trans Sq,?_⟩;rw[et,BR,Bs,h0,EE (by decide),DC,Bp]
 obtain⟨z1,rfl⟩:=z;rw[ekl,Bw];have es:((T.filter fun e=>decide ([0,0]∈e.1)).map fun e=>((e.2:Nat):Int)).sum=((cT ws i:Nat):Int):=by
  rw[GL,jI,<- y6.told (iO ws) ne]
  congr 1
  refine congrArg List.sum (Bz fun e _=>?_);by_cases h:[0,0]∈e.1
  ·rw[aZ h,aZ (EG h)]
  ·rw[aX h,aX (fun z=>h (EK z))]
 refine⟨L9,_,rfl,SqL.of ae,t,_,_,rfl,rfl,af nP _ _ _ (z1 _ _ gt),av (by rw[AI,BG];lia),?_⟩;rw[es];have gt2:=af nP (.lst (((T.filter fun e=>decide ([0,0]∈e.1)).map fun e=>((e.2:Nat):Int)).map V.int)) _ _ (z1 _ _ gt);have Sz:=z1.trans (af nP (.lst (((T.filter fun e=>decide ([0,0]∈e.1)).map fun e=>((e.2:Nat):Int)).map V.int)));generalize upd H2 L9 (.lst (((T.filter fun e=>decide ([0,0]∈e.1)).map fun e=>((e.2:Nat):Int)).map V.int))=H3 at gt2 Sz ⊢;have dfb:=(df.same Sz).mono (H':=upd H3 t (.lst (((List.range i).map fun i=>V.int ((cT ws i:Nat):Int))++[V.int ((cT ws i:Nat):Int)]))) (fun b' ys e=>by rw[ai (fun z=>by rw[z,gt2] at e;cases e)];exact e) (ai y3);have Sb:Fo H (upd H3 t (.lst (((List.range i).map fun i=>V.int ((cT ws i:Nat):Int))++[V.int ((cT ws i:Nat):Int)]))):=fun x o' e=>by
  rw[ai (fun z=>by rw[z,nt0] at e;cases e)];exact Sz _ _ (S1 _ _ e)
 have gtb:upd H3 t (.lst (((List.range i).map fun i=>V.int ((cT ws i:Nat):Int))++[V.int ((cT ws i:Nat):Int)])) t=some (.lst ((List.range (i+1)).map fun i=>V.int ((cT ws i:Nat):Int))):=by rw[ae,Dc,AU];rfl
 generalize upd H3 t (.lst (((List.range i).map fun i=>V.int ((cT ws i:Nat):Int))++[V.int ((cT ws i:Nat):Int)]))=Hb at dfb Sb gtb ⊢;clear gt2 Sz z1 nP gt S1 df;refine fun p2 u2 np2 du2=>⟨_,rfl,c,kvU T,rfl,.inr ⟨o,dfb.same (af np2 _),?_⟩⟩
 have n2t:p2≠t:=fun z=>by rw[z,gtb] at np2;cases np2
 have n2H:H p2=none:=by
  cases e:H p2 with
  |none=>rfl
  |some o'=>rw[Sb _ _ e] at np2;cases np2
 refine ou (fun k σ H'=>∃T1 e6 e7 e8 e9 e10 e11 e12 e13 e14,σ=[some (.ref l),some (.int (n:Int)),some (.ref c),some (.ref t),some (.int (0+(i:Int))),some (.ref p2),e6,e7,e8,e9,e10,e11,e12,e13,e14]/\Fo Hb H'/\DU P w H' p2 (kvU T1)/\Gx (bR (fP ws) (T.take k)) T1/\∀e∈T.take k,∀c,c=108\/c=114->Cp ws (fP ws e.1 c)/\StR (RP ws) e.1 c (fP ws e.1 c)) ⟨[],_,_,_,_,_,_,_,_,_,rfl,af np2 _,du2,Gx.nil,fun e he=>by cases he⟩ (fun k σ H' hk z=>?_) (fun k p b σ H' hp tb z=>?_) (fun σ H' z=>?_)
 ·obtain⟨_,_,_,_,_,_,_,_,_,_,_,z1,_⟩:=z;exact dfb.same z1
 rotate_left
 ·obtain⟨T1,e6,e7,e8,e9,e10,e11,e12,e13,e14,rfl,z1,z2,z3,z4⟩:=z;rw[ekl,Bw] at z3 z4;have Tn:=y6.next (iO ws) (fun c x z h=>tE c x z h) z4 z3;refine⟨_,rfl,p2,kvU T1,rfl,z2.rd,av (by show 0<=1000000;decide),fun q' nq=>?_⟩;have Sq:=af nq (.tup []);have gq:upd H' q' (.tup []) q'=some (.tup []):=ae;generalize upd H' q' (.tup [])=H5 at Sq gq ⊢;have Sb5:=z1.trans Sq;refine⟨q',kvU T1,[],rfl,z2.same Sq,⟨[],gq,.nil⟩,fun h0=>?_,fun v u3 h0 du3=>?_⟩
  ·refine⟨_,rfl,?_⟩;show ∃c T e4 e5 e6 e7 e8 e9 e10 e11 e12 e13 e14,_;rw[tD h0] at Tn;exact⟨p2,T1,_,_,_,_,_,_,_,_,_,_,_,rfl,Sb.trans Sb5,n2H,n2t,Sb5 _ _ gtb,z2.same Sq,Tn⟩
  ·refine⟨_,rfl,?_⟩;show ∃c T e4 e5 e6 e7 e8 e9 e10 e11 e12 e13 e14,_;rw[show(bo (kvU T1) ([]:DK))=kvU (T1.filter fun e=>decide (e.1≠[])) from uv T1] at du3;exact⟨p2,_,_,_,_,_,_,_,_,_,_,_,_,rfl,fun x o' e=>by rw[ai (fun z=>by rw[z,n2H] at e;cases e)];exact Sb5 _ _ (Sb _ _ e),n2H,n2t,by rw[ai n2t.symm];exact Sb5 _ _ gtb,du3,Tn⟩
 obtain⟨T1,e6,e7,e8,e9,e10,e11,e12,e13,e14,rfl,z1,z2,z3,z4⟩:=z;obtain⟨⟨r,m⟩,er,rfl⟩:=kAt hp;have eT:=Bg er;have cr:=y6.can _ eT;refine⟨txt [108,114],congrArg V.str (by decide +kernel),by decide +kernel,?_⟩;refine kC (cs:=[108,114]) (fun j σ H'=>∃T1 e7 e8 e9 e10 e11 e12 e13 e14,σ=[some (.ref l),some (.int (n:Int)),some (.ref c),some (.ref t),some (.int (0+(i:Int))),some (.ref p2),some (.ref b),e7,e8,e9,e10,e11,e12,e13,e14]/\Fo Hb H'/\DU P w H' p2 (kvU T1)/\GO H' b (pd r)/\Gx (bR (fP ws) (T.take k)++([108,114].take j).map fun c=>(fP ws r c,m)) T1/\uP (RP ws) (Cp ws) T (bR (fP ws) (T.take k)++([108,114].take j).map fun c=>(fP ws r c,m))/\∀c∈[108,114].take j,Cp ws (fP ws r c)/\StR (RP ws) r c (fP ws r c)) ⟨T1,_,_,_,_,_,_,_,_,rfl,z1,z2,tb,by rw[CI,Cb,Bp];exact z3,by rw[CI,Cb,Bp];exact uM (fun e he=>Cs he) z4,fun c hc=>by cases hc⟩ (fun j hj σ H' z=>?_) (fun σ H' z=>?_)
 rotate_left
 ·obtain⟨T1,e7,e8,e9,e10,e11,e12,e13,e14,rfl,w1,w2,w3,w4,w5,w6⟩:=z;have et:T.take (k+1)=T.take k++[(r,m)]:=by rw[Bh,er];rfl
  have es:bR (fP ws) (T.take (k+1))=bR (fP ws) (T.take k)++([108,114].take [108,114].length).map fun c=>(fP ws r c,m):=by
   rw[et];unfold bR;rw[List.flatMap_append];rfl
  refine⟨T1,_,_,_,_,_,_,_,_,_,rfl,w1,w2,by rw[es];exact w4,fun e he c hc=>?_⟩;rw[et] at he;rcases AO.mp he with he|he
  ·exact z4 e he c hc
  ·rw[AM.mp he];exact w6 c (by rcases hc with rfl|rfl<;>decide)
 clear e7 e8 e9 e10 e11 e12 e13 e14 z1 z2 z3 tb;obtain⟨T2,e7,e8,e9,e10,e11,e12,e13,e14,rfl,w1,w2,w3,w4,w5,w6⟩:=z;have hcj:[108,114][j]=108\/[108,114][j]=114:=by
  rcases j with _|_|j
  ·exact .inl rfl
  ·exact .inr rfl
  ·exact absurd hj (by simp)
 have etk:[108,114].take (j+1)=[108,114].take j++[[108,114][j]]:=by rw[Bh,AL hj];rfl
 generalize [108,114][j]=d at hcj etk ⊢;obtain⟨rs,tb1,tb2⟩:=id w3;refine fun p3 np3=>?_;have n32:p3≠p2:=fun z=>by
  obtain⟨u',e⟩:=w2.there;rw[z,e] at np3;cases np3
 have Sh:=af np3 (.dT []);have er2:∀{k2:Nat}{v:V},(rs.map V.ref)[k2]?=some v->∃ra z,v=.ref ra/\r[k2]?=some z/\H' ra=some (.tup ((pn z).map V.int)):=fun {k2 v} hv=>by
  rw[AW] at hv;obtain⟨ra,hra,rfl⟩:=BH.mp hv;obtain⟨kk,ek,g⟩:=bY tb2 hra;rw[AW] at ek;obtain⟨z,ez,rfl⟩:=BH.mp ek;exact⟨ra,z,rfl,ez,by rw[<- uV];exact g⟩
 have lrs:(rs.map V.ref).length=r.length:=by rw[AI,Paired.length tb2,AI]
 have hl':H' l=some (.lst (aj ws)):=w1 _ _ (Sb _ _ hl);have n3l:p3≠l:=fun z=>by rw[z,hl'] at np3;cases np3
 have lenw:∀j,(ws.getD j []).length<=12:=fun j=>by
  by_cases hj:j<ws.length
  ·exact W.l12 _ (aG hj)
  ·rw[Ba,Ci (by lia)];exact Bi _
 refine⟨_,rfl,b,rfl,⟨_,SqT.of (Sh _ _ tb1)⟩,?_⟩;refine oU (K:=K) (a:=b) (xs:=rs.map V.ref) (fun k2 σ H2=>∃zs e9 e10 e11 e12 e13 e14,σ=[some (.ref l),some (.int (n:Int)),some (.ref c),some (.ref t),some (.int (0+(i:Int))),some (.ref p2),some (.ref b),some (.str (txt [d])),some (.ref p3),e9,e10,e11,e12,e13,e14]/\Fo H' H2/\H2 p3=some (.dT (kvB zs))/\zs.Nodup/\(∀z∈zs,lX ws z)/\∀z,z∈zs↔∃a∈r.take k2,xm ws d a z) ⟨[],_,_,_,_,_,_,rfl,Sh,ae,.nil,fun z hz=>(by cases hz),fun z=>⟨fun hz=>(by cases hz),fun hq115=>by obtain⟨a,ha,_⟩:=hq115;exact(by cases ha)⟩⟩ (fun k2 σ H2 hk z=>?_) (fun k2 v σ H2 hv z=>?_) (fun σ H2 z=>?_)
 ·obtain⟨_,_,_,_,_,_,_,_,z1,_⟩:=z;exact SqT.of (z1 _ _ tb1)
 ·obtain⟨zs,e9,e10,e11,e12,e13,e14,rfl,x1,x2,x3,x4,x5⟩:=z;obtain⟨ra,z,rfl,ez,gra⟩:=er2 hv;have pz:=cr.ps z (Bg ez);have etr:r.take (k2+1)=r.take k2++[z]:=by rw[Bh,ez];rfl
  obtain⟨x,y,rfl⟩:=nN pz;have gra2:H2 ra=some (.tup [.int ((x:Nat):Int),.int ((y:Nat):Int)]):=x1 _ _ gra;refine⟨ra,_,rfl,SqT.of gra2,rfl,_,_,rfl,_,_,rfl,rfl,?_⟩;refine⟨fun v H3=>∃S us ps,v=.ref S/\Fo H2 H3/\H3 S=some (.lst us)/\PsA H3 us ps/\ps.length<=9/\∀p:Nat×Nat,p∈ps↔(0<y/\p=(x,y))\/(y=0/\p.2=0/\p.1<ws.length),?_,?_⟩
  ·refine⟨_,rfl,_,_,rfl,rfl,decide (0<y),?_,?_⟩
   ·show V.bl (decide ((0:Int)<((y:Nat):Int)))=_
    congr 1
    exact decide_eq_decide.mpr (by lia)
   cases h0:decide (0<y) with
   |true=>
    have y0:=EK h0;refine⟨_,rfl,_,rfl,av (by show 2<=1000000;decide),fun a1 n1=>⟨av (by show 1<=1000000;decide),fun S nS=>?_⟩⟩;exact⟨S,_,[(x,y)],rfl,(af n1 _).trans (af nS _),ae,.cons ⟨a1,rfl,af nS _ _ _ ae⟩ .nil,by show 1<=9;decide,fun p=>⟨fun h=>.inl ⟨y0,AM.mp h⟩,fun h=>h.elim (fun h=>AM.mpr h.2) fun h=>by lia⟩⟩
   |false=>
    have y0:y=0:=by have:=of_decide_eq_false h0;lia
    have gl2:H2 l=some (.lst (aj ws)):=x1 _ _ hl';refine⟨_,rfl,l,_,rfl,.inl (SqL.of gl2),((ws.length:Nat):Int),?_,by lia,by lia,?_⟩
    ·rw[aw]
    refine um (lo:=0) (n:=(((ws.length:Nat):Int)).toNat) (fun j ys H3=>Fo H2 H3/\PsA H3 ys ((List.range j).map fun q=>(q,0))) ⟨Fo.refl _,.nil⟩ (fun j ys H3 hj z=>by rw[Paired.length z.2,AI,BG];exact AH _) (av (by lia)) (fun j ys H3 hj z=>?_) (fun ys H3 z S nS=>?_)
    ·obtain⟨y1,y2⟩:=z;refine⟨_,rfl,av (by show 2<=1000000;decide),fun a1 n1=>Nx.mk hj ⟨y1.trans (af n1 _),?_⟩⟩;rw[Dc,AU];refine Paired.snoc (PsA.same y2 (af n1 _)) ⟨a1,rfl,?_⟩;rw[ae,Cv];rfl
    ·obtain⟨y1,y2⟩:=z;have S3:=af nS (.lst ys);refine⟨S,ys,_,rfl,y1.trans S3,ae,PsA.same y2 S3,by rw[AI,BG];lia,fun p=>?_⟩;rw[AJ,Bu];constructor
     ·rintro⟨q,hq,rfl⟩;exact .inr ⟨y0,rfl,BC.mp hq⟩
     ·rintro (⟨h,_⟩|⟨_,h2,h3⟩)
      ·lia
      ·exact⟨p.1,BC.mpr h3,by rw[<- h2]⟩
  rintro _ H3 ⟨S,us,ps,rfl,s1,s2,s3,s4,s5⟩;have inw:∀p∈ps,p.1<ws.length/\p.2<(ws.getD p.1 []).length:=fun p hp=>by
   rcases (s5 p).mp hp with ⟨q1,rfl⟩|⟨q1,q2,q3⟩
   ·rcases pz with h|⟨j,q,h,h1,h2⟩
    ·cases h;lia
    ·cases h;exact⟨cI h2,h2⟩
   ·have:=W.w.l1 _ (aG q3);exact⟨q3,by lia⟩
  refine⟨_,rfl,S,rfl,⟨_,SqL.of s2⟩,?_⟩;refine eU (K:=K) (a:=S) (xs:=us) (fun k3 σ H4=>∃zs e12 e13 e14,σ=[some (.ref l),some (.int (n:Int)),some (.ref c),some (.ref t),some (.int (0+(i:Int))),some (.ref p2),some (.ref b),some (.str (txt [d])),some (.ref p3),some (.int ((x:Nat):Int)),some (.int ((y:Nat):Int)),some (.ref S),e12,e13,e14]/\Fo H' H4/\H4 p3=some (.dT (kvB zs))/\H4 S=some (.lst us)/\PsA H4 us ps/\zs.Nodup/\(∀z∈zs,lX ws z)/\∀z,z∈zs↔(∃a∈r.take k2,xm ws d a z)\/∃p∈ps.take k3,(ws.getD p.1 [])[p.2]?=some d/\z=enc ws p.1 p.2) ⟨zs,_,_,_,rfl,x1.trans s1,s1 _ _ x2,s2,s3,x3,x4,fun z=>⟨fun h=>.inl ((x5 z).mp h),fun h=>h.elim (x5 z).mpr fun⟨p,hp,_⟩=>by cases hp⟩⟩ (fun k3 σ H4 hk z=>?_) (fun k3 v σ H4 hv3 z=>?_) (fun σ H4 z=>?_)
  ·obtain⟨_,_,_,_,_,_,_,z3,_⟩:=z;exact SqL.of z3
  ·obtain⟨zs,e12,e13,e14,rfl,v1,v2,v3,v4,v5,v6,v7⟩:=z;obtain⟨⟨f,g⟩,ep,a3,rfl,ga3⟩:=bY v4 hv3;obtain⟨hf,hg⟩:=inw _ (Bg ep);have etp:ps.take (k3+1)=ps.take k3++[(f,g)]:=by rw[Bh,ep];rfl
   have gl4:H4 l=some (.lst (aj ws)):=v1 _ _ hl';have l12:=lenw f;refine⟨a3,_,rfl,SqT.of ga3,rfl,_,_,rfl,_,_,rfl,rfl,?_⟩;refine⟨_,rfl,_,rfl,l,_,_,_,rfl,rfl,SqL.of gl4,aS hf,_,rfl,txt (ws.getD f []),_,(ws.getD f [])[g],rfl,rfl,av (by show(ws.getD f []).length<=1000000;lia),bh (AL hg),_,rfl,rfl,decide ((ws.getD f [])[g]=d),congrArg V.bl (yc _ _),?_⟩;cases h0:decide ((ws.getD f [])[g]=d) with
   |false=>
    refine⟨zs,_,_,_,rfl,v1,v2,v3,v4,v5,v6,fun z=>(v7 z).trans ⟨fun h=>h.elim .inl fun⟨p,hp,h⟩=>.inr ⟨p,by rw[etp];exact Bo _ hp,h⟩,fun h=>h.elim .inl fun hq116=>?_⟩⟩;obtain⟨p,hp,h1,h2⟩:=hq116;rw[etp] at hp;rcases AO.mp hp with hp|hp
    ·exact .inr ⟨p,hp,h1,h2⟩
    ·rw[AM.mp hp] at h1;rw[AL hg] at h1;exact absurd (EM h1) (of_decide_eq_false h0)
   |true=>
    have ed:=EK h0;have lenf:(txt (ws.getD f [])).length=(ws.getD f []).length:=by show(ws.getD f []).toArray.size=_;simp
    have f8:f<8:=by have:f<ws.length:=hf;lia
    have hg':g<(ws.getD f []).length:=hg;refine⟨_,rfl,_,rfl,_,rfl,_,_,rfl,rfl,_,rfl,_,rfl,l,_,_,_,rfl,rfl,SqL.of gl4,aS hf,txt (ws.getD f []),rfl,av (by rw[lenf];lia),_,_,rfl,rfl,.inr ⟨_,rfl,_,_,rfl,rfl,.inl ⟨by show -(2^64)<((f:Nat):Int);lia,by show((f:Nat):Int)<2^64;lia⟩,?_⟩⟩;refine⟨_,rfl,_,_,rfl,rfl,_,rfl,_,rfl,l,_,_,_,rfl,rfl,SqL.of gl4,aS hf,txt (ws.getD f []),rfl,av (by rw[lenf];lia),_,_,rfl,rfl,(by rw[lenf];lia),av (by show 2<=1000000;decide),fun a4 n4=>?_⟩;have ekey:[V.int (((f:Nat):Int)*if decide (((g:Nat):Int)+1<(((txt (ws.getD f [])).length:Nat):Int))=true then 1 else 0),V.int ((((g:Nat):Int)+1) % (((txt (ws.getD f [])).length:Nat):Int))]=(pk (enc ws f g)).map kV:=by
     rw[uV,lenf];unfold enc;show _=[V.int _,V.int _]
     have e1:(((g:Nat):Int)+1) % (((ws.getD f []).length:Nat):Int)=(((g+1) % (ws.getD f []).length:Nat):Int):=by rw[Int.natCast_emod];rfl
     rw[e1];by_cases hh:g+1<(ws.getD f []).length
     ·rw[EF hh,EF (EG (by lia)),Int.mul_one]
     ·rw[EE hh,EE (by rw[EH (by lia)];decide),Int.mul_zero];rfl
    have S4:=af n4 (.tup [V.int (((f:Nat):Int)*if decide (((g:Nat):Int)+1<(((txt (ws.getD f [])).length:Nat):Int))=true then 1 else 0),V.int ((((g:Nat):Int)+1) % (((txt (ws.getD f [])).length:Nat):Int))]);have g4:upd H4 a4 (.tup [V.int (((f:Nat):Int)*if decide (((g:Nat):Int)+1<(((txt (ws.getD f [])).length:Nat):Int))=true then 1 else 0),V.int ((((g:Nat):Int)+1) % (((txt (ws.getD f [])).length:Nat):Int))]) a4=some (.tup ((pk (enc ws f g)).map kV)):=by rw[ae,ekey]
    generalize upd H4 a4 (.tup [V.int (((f:Nat):Int)*if decide (((g:Nat):Int)+1<(((txt (ws.getD f [])).length:Nat):Int))=true then 1 else 0),V.int ((((g:Nat):Int)+1) % (((txt (ws.getD f [])).length:Nat):Int))])=H5 at S4 g4 ⊢;have gp5:=S4 _ _ v2;refine⟨p3,_,rfl,IS.t gp5 g4 (Be (show(kvB zs).length<64 by rw[AI];exact sk h60 v5 v6) (av (by decide))),?_⟩;rw[uY];refine⟨tZ zs (enc ws f g),_,_,_,rfl,fun b' o' e=>?_,ae,?_,PsA.upd (PsA.same v4 S4) gp5,uL v5,fun z hz=>?_,fun z=>?_⟩
    ·rw[ai (fun z=>by rw[z,np3] at e;cases e)];exact S4 _ _ (v1 _ _ e)
    ·rw[ai (bD (S4 _ _ v3) gp5 (fun z=>by cases z))];exact S4 _ _ v3
    ·rcases Ia.mp hz with h|h
     ·exact v6 z h
     ·rw[h];exact vX hg'
    ·rw[Ia,v7,etp];constructor
     ·rintro ((h|⟨p,hp,h⟩)|h)
      ·exact .inl h
      ·exact .inr ⟨p,Bo _ hp,h⟩
      ·exact .inr ⟨(f,g),AV _ (AM.mpr rfl),by rw[AL hg,ed],h⟩
     ·rintro (h|⟨p,hp,h1,h2⟩)
      ·exact .inl (.inl h)
      ·rcases AO.mp hp with hp|hp
       ·exact .inl (.inr ⟨p,hp,h1,h2⟩)
       ·rw[AM.mp hp] at h2;exact .inr h2
  ·obtain⟨zs,e12,e13,e14,rfl,v1,v2,v3,v4,v5,v6,v7⟩:=z;rw[Paired.length v4,Bw] at v7;refine⟨zs,_,_,_,_,_,_,rfl,v1,v2,v5,v6,fun z=>(v7 z).trans ?_⟩;rw[etr];constructor
   ·rintro (⟨a,ha,h⟩|h)
    ·exact⟨a,Bo _ ha,h⟩
    ·exact⟨_,AV _ (AM.mpr rfl),(nQ s5 z).mpr h⟩
   ·rintro⟨a,ha,h⟩;rcases AO.mp ha with ha|ha
    ·exact .inl ⟨a,ha,h⟩
    ·rw[AM.mp ha] at h;exact .inr ((nQ s5 z).mp h)
 obtain⟨zs,e9,e10,e11,e12,e13,e14,rfl,x1,x2,x3,x4,x5⟩:=z;rw[lrs,Bw] at x5;have l63:=sk h60 x3 x4;refine⟨_,rfl,p3,kvB zs,rfl,.inl x2,fun a5 us n5 pu=>?_⟩;obtain⟨ks,rfl,kz⟩:=iz pu;clear pu;have S5:=af n5 (.lst (ks.map V.ref));have g5:upd H2 a5 (.lst (ks.map V.ref)) a5=some (.lst (ks.map V.ref)):=ae;generalize upd H2 a5 (.lst (ks.map V.ref))=H5 at S5 g5 ⊢;have kz5:=KsA.same kz S5;refine⟨a5,ks,rfl,SqL.of g5,by rw[Paired.length kz];exact l63,fun k' hk'=>?_,fun a6 ks' perm pw n6=>?_⟩
 ·obtain⟨z,hz,e⟩:=KsA.mem kz5 k' hk';rw[uV] at e;obtain⟨u1,u2,rfl⟩:=nN (x4 z hz);exact⟨_,SqT.of e,rfl⟩
 obtain⟨zs',pz,kz'⟩:=jx perm kz5
 have cz:Cp ws zs':=⟨qj (fun a b x y h1 h2 h=>by
  rw[uV] at h1 h2
  exact h _ _ (SqT.of h1) (SqT.of h2)) kz' pw,pz.nodup_iff.mpr x3,fun z hz=>x4 z (pz.mem_iff.mp hz)⟩
 have mz:∀z,z∈zs'↔∃j p,At ws r j p/\(ws.getD j [])[p]?=some d/\z=enc ws j p:=fun z=>(pz.mem_iff.trans (x5 z)).trans tY;have ek:=yo cz mz;have st:=uK ne mz;have S6:=af n6 (.lst (ks'.map V.ref));have g6:upd H5 a6 (.lst (ks'.map V.ref)) a6=some (.lst (ks'.map V.ref)):=ae;generalize upd H5 a6 (.lst (ks'.map V.ref))=H6 at S6 g6 ⊢;refine⟨a6,_,rfl,.inl ⟨SqL.of g6,fun a7 n7=>?_⟩⟩;have S7:=af n7 (.tup (ks'.map V.ref));have g7:=rA (H:=upd H6 a7 (.tup (ks'.map V.ref))) ae (KsA.same kz' (S6.trans S7));generalize upd H6 a7 (.tup (ks'.map V.ref))=H7 at S7 g7 ⊢;have x7:=x1.trans (S5.trans (S6.trans S7));have d7:=w2.same x7;have tb7:=w3.keeps fun b' ys e=>x7 _ _ e;have hop':uP (RP ws) (Cp ws) T (bR (fP ws) (T.take k)++([108,114].take (j+1)).map fun c=>(fP ws r c,m)):=fun t' ht=>by
  rw[etk,AU,<- By] at ht;rcases AO.mp ht with ht|ht
  ·exact w5 t' ht
  ·have:t'=(fP ws r d,m):=by simpa using ht
   rw[this];exact⟨_,eT,d,hcj,by rw[ek];exact cz,by rw[ek];exact st⟩
 have lenT:=fewR W y6 w4 w5;have gv:(cb (kvU T2) (pd zs')).getD (.int 0)=.int (((dS T2 zs').getD 0:Nat):Int):=by rw[qk];cases dS T2 zs'<;>rfl
 have eput:cY (kvU T2) (pd zs') (.int ((((dS T2 zs').getD 0:Nat):Int)+((m:Nat):Int)))=kvU (uS T2 (zs',m)):=by
  rw[show(((dS T2 zs').getD 0:Nat):Int)+((m:Nat):Int)=(((dS T2 zs').getD 0+m:Nat):Int) by lia,wk];rfl
 refine⟨_,rfl,p2,kvU T2,rfl,d7.rd,_,rfl,a7,kvU T2,pd zs',rfl,d7.rd,g7,_,rfl,_,rfl,c,b,kvU T,pd r,V.int ((m:Nat):Int),rfl,rfl,(dfb.same (w1.trans x7)).rd,tb7,vAt _ eT,_,_,gv,rfl,_,rfl,_,rfl,p2,a7,kvU T2,pd zs',rfl,rfl,d7,g7,BN lenT (by rw[sizeLine_eq];decide),fun u9 du9=>?_⟩;rw[eput] at du9;show ∃T1 e7 e8 e9 e10 e11 e12 e13 e14,_;refine⟨uS T2 (zs',m),_,_,_,_,_,_,_,_,rfl,fun x' o' e=>?_,du9,tb7.keeps fun b' ys e=>by rw[ai (fun z=>by rw[z] at e;exact(d7.nt ys).1 e)];exact e,?_,hop',fun d' hd=>?_⟩
 ·rw[ai (fun z=>by rw[z,np2] at e;cases e)];exact x7 _ _ (w1 _ _ e)
 ·rw[etk,AU,<- By,<- ek];exact w4.add _
 ·rw[etk] at hd;rcases AO.mp hd with hd|hd
  ·exact w6 d' hd
  ·rw[AM.mp hd,ek];exact⟨cz,st⟩
open KM
def low:Nat->Nat->Nat×Nat
 |t,0=>(t,1)
 |t,k+1=>if t % 2=0 then low (t/2) k else (t,2^(k+1))
def qq (ws:List (List Nat)):List Int:=ws.map fun w=>((w.length:Nat):Int)
theorem kH{α:Type}(f:α->Nat):∀l:List α,(l.map fun x=>((f x:Nat):Int)).sum=(((l.map f).sum:Nat):Int)
 |[]=>rfl
 |x::r=>by rw[AQ,AQ,Bf,Bf,kH f r];lia
open KM
theorem tS{p q:Addr}{H H':Hp}(d:Dr p H H')(n:H' q=none):H q=none:=by
 cases e:H q with
 |none=>rfl
 |some o=>
  by_cases z:q=p
  ·rw[z] at n;obtain⟨_,_,_,e2,_⟩:=d.ds;rw[e2] at n;cases n
  ·have:=aH p _ _ _ (d.same q o (by rw[cm z];exact e));rw[this] at n;cases n
theorem pL{cs:List Nat}(h:cs.all (fun c=>c==108||c==114)=true):∀c∈cs,GG c:=fun c hc=>by
 have:=BU.mp h c hc;simp only[Bool.or_eq_true,Fl] at this;exact this
theorem cB(ws vs:List (List Nat)):aj ws++aj vs=aj (ws++vs):=by show _=(ws++vs).map _;rw[AU]
theorem jw(x y:List Nat):txt x++txt y=txt (x++y):=dR (kE _ _)
structure Gn(n:Nat)(cs:List Nat):Prop where
 lr:∀c∈cs,GG c
 l1:1<=cs.length
 ln:cs.length<=n
structure Wst(n:Nat)(p:Addr)(H0:Hp)(W:Addr)(ws:List (List Nat))(H:Hp):Prop where
 dr:Dr p H0 H
 n0:H0 W=none
 ne:W≠p
 g:hid p H W=some (.lst (aj ws))
 l1:1<=ws.length
 l8:ws.length<=8
 ok:∀cs∈ws,Gn n cs
theorem Wst.go{n:Nat}{p:Addr}{H0:Hp}{W:Addr}{ws:List (List Nat)}{H H':Hp}(h:Wst n p H0 W ws H)(d:Dr p H H'):Wst n p H0 W ws H':=⟨h.dr.trans d,h.n0,h.ne,d.same _ _ h.g,h.l1,h.l8,h.ok⟩
theorem Wst.mk'{n:Nat}{p:Addr}{H0 H:Hp}{W:Addr}{ws:List (List Nat)}(d:Dr p H0 H)(nw:H W=none)(l1:1<=ws.length)(l8:ws.length<=8)(ok:∀cs∈ws,Gn n cs):Wst n p H0 W ws (upd H W (.lst (aj ws))):=
 ⟨d.trans (Dr.new d.ds nw _),tS d nw,EZ (d.ds.ne nw),bG d.ds nw _,l1,l8,ok⟩
theorem Wst.put{n m:Nat}{p:Addr}{H0:Hp}{W:Addr}{ws vs:List (List Nat)}{H:Hp}(h:Wst n p H0 W ws H)(l1:1<=vs.length)(l8:vs.length<=8)(ok:∀cs∈vs,Gn m cs):Wst m p H0 W vs (upd H W (.lst (aj vs))):=
 ⟨Dr.put h.dr h.n0 h.ne _,h.n0,h.ne,oJ h.ne _,l1,l8,ok⟩
theorem nJ{ws:List (List Nat)}{r:Int}(h0:0<=r)(h1:r<((ws.length:Nat):Int)):atI (aj ws) r=some (.str (txt (ws.getD r.toNat [])))/\ws.getD r.toNat []∈ws:=by
 have hk:r.toNat<ws.length:=by lia
 have e:r=((r.toNat:Nat):Int):=by lia
 refine⟨?_,aG hk⟩
 conv=>lhs;rw[e]
 exact aS hk
theorem e_l:("l":Str)=txt [108]:=by decide +kernel
theorem e_r:("r":Str)=txt [114]:=by decide +kernel
theorem oo(ws:List (List Nat))(i:Nat):oB (aj ws) (some ((i:Nat):Int)) none=aj (ws.drop i):=by
 unfold oB;rw[HT.GZ,HT.GA,AI];show List.take _ (List.drop _ (List.map _ ws))=List.map _ (List.drop _ ws);rw[List.map_drop];by_cases h:i<=ws.length
 ·rw[Ct h,Bk (by rw[BX,AI];exact AH _)]
 ·rw[Dx (by lia),Nat.sub_self,CI,Em (by rw[AI];lia)]
def LS:Sp:=fun vs H Q _=>∃p m t,vs=[.ref p,.int m,.int t]/\Ds H p/\1<=m/\m<=40/\1<=t/\∀W ws H',Dr p H H'->hid p H' W=some (.lst (aj ws))->Wds ws->(∀cs∈ws,((cs.length:Nat):Int)<=m)->(qq ws).sum<=t->Q (.ref W) H'
theorem yk{dd dp d:DD}(yL:(dg "_law_draw" 37 ["draws","many"] dd 1 HZ))(za:(dg "_law_piece" 38 ["draws","most"] dp 2 IZ))(D:Def K mg "_law_short_makers" (top 39) ["draws","most","together"] d)(yJ:mg "range"=none)(yK:mg "len"=none)(yQ:mg "sum"=none):(fk 3 d ["draws","most","together"] LS):=by
 exists["draws","most","together","way","many","words","k","at","one"]
 obtain⟨p,m,t,rfl,hp,m1,m40,t0,q⟩:=h;refine⟨_,(ag (ax 3 (aY yL.1 yL.2 (Fn (0) (aD (ah _) ba) aC))) (ag (ax 4 (az Fy (ah _) (aY yL.1 yL.2 (Fn (0) (aD (ah _) ba) aC)))) (ag (cG 5 (aq (ts:=["k"]) (cap:=["draws","most"]) (js:=[0,1]) rfl rfl rfl rfl rfl rfl (by decide +kernel)) (bb yJ (aD (4) aC)) (ad 0 (nd ["k","draws","most"])) (@aV _) (aY za.1 za.2 (Fn (1) (aD (aL (show IxR _ (jj K) from Fq) (bg (Fn (ah _) (aD (2) aC) ba)) (aY yL.1 yL.2 (Fn (1) (aD (ah _) ba) aC))) (by rfl)) aC))) (ag (ip (bS (aA GP (3) (ah _) (aE _)) (ak (ax 5 (bf Ho (bg (@nG _ _ (["ll","lr","rl","rr"]) rfl)) (@FH _) (bC (az Fy (ah _) (aY yL.1 yL.2 (Fn (0) (aD (ah _) ba) aC))))))) (Fv _))) (ag (ip (bS (aA GN (3) (aO (Fn (ah _) (aD (ah _) ba) ba)) rfl) (ag (ax 5 (bg (Fn (aU _) (aD (aU _) ba) ba))) (ak (bB (bb yJ (aD (aY yL.1 yL.2 (Fn (0) (aD (ah _) ba) aC)) eV)) (ao 6) (ag (ax 7 (aY yL.1 yL.2 (Fn (0) (aD (aR Ft yK (5) aC) eV) aC))) (ag (ax 8 (aL Fq (5) (7))) (ak (ax 5 (az GF (az GF (bf Ho (5) (@FH _) (bC (7))) (bf Ho (5) (bC (az Fy (7) (ah _))) (@FH _))) (bg (Fn (az FP (8) (aU _)) (aD (az FP (8) (aU _)) (by rfl)) (by rfl))))))))))) (Fv _))) (ag (ip (bS (aA GP (3) (ah _) (aE _)) (ak (cG 5 (aq (ts:=["word"]) (cap:=[]) (js:=[]) rfl rfl rfl rfl rfl rfl (by decide +kernel)) (aN (5)) (ad 0 (nd ["word"])) (@aV _) (@vQ _ _ _ _ _ _ _ _ Lb (0) (rp IE (ah _))))) (Fv _))) (ag (ip (bS (@PW.pt _ _ _ (fM (aA GP (3) (ah _) (aE _)) (dY (aA GY (aR Ft yK (5) aC) (ah _) (aE _))))) (ak (fm (az FP (aL Fq (5) (ah _)) (aL Fq (5) (aY yL.1 yL.2 (Fn (0) (aD (aR Ft yK (5) aC) eV) aC)))) (pD (5) (ah _) set_list))) (Fv _))) (ag (ip (bS (@PW.pt _ _ _ (fM (aA GP (aY yL.1 yL.2 (Fn (0) (aD (ah _) ba) aC)) (ah _) (aE _)) (dY (aA GY (aR Ft yK (5) aC) (ah _) (aE _))))) (ak (bx (lQ EN PySem.F.slot_list_pop PySem.F.type_list_pop JB (5) (aD (aY yL.1 yL.2 (Fn (0) (aD (aR Ft yK (5) aC) eV) aC)) eV)))) (Fv _))) (ag (ax 5 (bf Ho (aW (aq (ts:=["word"]) (cap:=["most"]) (js:=[1]) rfl rfl rfl rfl rfl rfl (by decide +kernel)) (aN (5)) (ad 0 (nd ["word","most"])) (@aV _) (bf Gk (0) (@FH _) (bC (1)))) (@FH _) (bC (ah _)))) (ag (gg (aA GY (aJ (bX hc) yQ GS (aD (aW (aq (ts:=["word"]) (cap:=[]) (js:=[]) rfl rfl rfl rfl rfl rfl (by decide +kernel)) (aN (5)) (ad 0 (nd ["word"])) (@aV _) (aR Fp yK (0) aC)) (by rfl))) (2) (aE _)) (ak (bx (vT EN PySem.F.slot_list_pop PySem.F.type_list_pop La (5))))) (ak (aI (dF (aA (lH hr.units) (5) (bg (@FE _)) (aE _)) (5) (bg (aD (aU _) ba))))))))))))))),?_⟩
 walk_at "d"
 refine⟨_,rfl,p,5,rfl,hp,by decide,by decide,fun way H1 a0 a1 d1=>?_⟩;refine⟨_,rfl,p,5,rfl,d1.ds,by decide,by decide,fun r1 H2 b0 b1 d2=>⟨_,_,rfl,rfl,?_⟩⟩;have D2:=d1.trans d2;refine⟨_,rfl,1+r1,rfl,by lia,by lia,?_⟩;refine um (lo:=0) (n:=(1+r1).toNat) (fun j ys H'=>Dr p H H'/\∃ws,ys=aj ws/\ws.length=j/\∀cs∈ws,Gn 40 cs) ⟨D2,[],rfl,rfl,fun cs h=>absurd h (by simp)⟩ (fun j ys H' hj z=>by obtain⟨_,ws,rfl,e,_⟩:=z;rw[aw,e];exact AH _) (av (by lia)) (fun j ys H' hj z=>?_) (fun ys H' z W nW=>?_)
 ·obtain⟨z1,ws,rfl,e,hb⟩:=z;refine⟨_,rfl,_,rfl,av (by show 2<=1000000;decide),fun B nB=>?_⟩;have DB:=Dr.new z1.ds nB (.lst [.int 3,.int m]);have gB:=bG z1.ds nB (.lst [.int 3,.int m]);refine⟨_,rfl,p,2,rfl,DB.ds,by decide,by decide,fun r2 H3 c0 c1 d3=>?_⟩;obtain⟨v2,ev2,mv2⟩:=yf (l:=[V.int 3,.int m]) c0 c1;obtain⟨mo,rfl,mo1,mo40⟩:∃n:Int,v2=.int n/\1<=n/\n<=40:=by
   simp only[AN,Bt,or_false] at mv2;rcases mv2 with rfl|rfl
   ·exact⟨3,rfl,by decide,by decide⟩
   ·exact⟨m,rfl,m1,m40⟩
  refine⟨B,_,r2,_,rfl,rfl,SqL.of (aH p _ _ _ (d3.same _ _ gB)),ev2,?_⟩;refine⟨p,mo,rfl,mo1,by lia,d3.ds,fun z H4 d4 zlr z1' zm=>?_⟩;refine Nx.mk hj ⟨z1.trans (DB.trans (d3.trans d4)),ws++[z.cps.toList],?_,by rw[AK,e];rfl,fun cs h=>?_⟩
  ·exact dZ ws z
  ·rcases AO.mp h with h|h
   ·exact hb cs h
   ·rw[AM.mp h];exact⟨zlr,z1',by show z.cps.toList.length<=40;have:(z.length:Int)=((z.cps.toList.length:Nat):Int):=rfl;lia⟩
 obtain⟨z1,ws,rfl,e,hb⟩:=z;have w0:=Wst.mk' z1 nW (by lia) (by lia) hb;clear hb z1 e;generalize upd H' W (.lst (aj ws))=H3 at w0 ⊢;refine⟨fun σ' H'=>∃W ws e6 e7 e8,σ'=[some (.ref p),some (.int m),some (.int t),some (.int way),some (.int (1+r1)),some (.ref W),e6,e7,e8]/\Wst 40 p H W ws H',?_,?_⟩
 ·refine⟨_,rfl,rfl,_,rfl,?_⟩;cases hb0:decide (V.int way=V.int 0) with
  |false=>exact⟨W,ws,_,_,_,rfl,w0⟩
  |true=>
   refine⟨av (by show 4<=1000000;decide),fun B nB=>?_⟩;have DB:=Dr.new w0.dr.ds nB (.lst (aj [[108,108],[108,114],[114,108],[114,114]]));have gB:=bG w0.dr.ds nB (.lst (aj [[108,108],[108,114],[114,108],[114,114]]));refine⟨_,rfl,p,4,rfl,DB.ds,by decide,by decide,fun r2 H4 c0 c1 d4=>⟨_,_,rfl,rfl,_,rfl,B,_,rfl,SqL.of (aH p _ _ _ (d4.same _ _ gB)),fun W' nW'=>?_⟩⟩;have e1:(1:Int)+r2=(((1+r2).toNat:Nat):Int):=by lia
   rw[e1,eZ];refine⟨W',_,_,_,_,rfl,Wst.mk' (w0.dr.trans (DB.trans d4)) nW' ?_ ?_ fun cs h=>?_⟩
   ·rw[AZ];show 1<=min _ 4;lia
   ·rw[AZ];show min _ 4<=8;lia
   ·have hm:=Cs h;simp only[AN,Bt,or_false] at hm;rcases hm with rfl|rfl|rfl|rfl<;>exact⟨pL (by decide),by decide,by decide⟩
 rintro σ H4 ⟨W,ws,e6,e7,e8,rfl,w4⟩;clear w0 nW;refine⟨fun σ' H'=>∃W ws e6 e7 e8,σ'=[some (.ref p),some (.int m),some (.int t),some (.int way),some (.int (1+r1)),some (.ref W),e6,e7,e8]/\Wst 40 p H W ws H',?_,?_⟩
 ·refine⟨_,rfl,av (by show 2<=1000000;decide),fun B nB=>?_⟩;have wB:=w4.go (Dr.new w4.dr.ds nB (.tup [.int 1,.int 2]));refine⟨B,_,rfl,.inr (SqT.of ae),rfl,rfl,_,rfl,?_⟩;generalize upd H4 B (.tup [.int 1,.int 2])=H5 at wB ⊢;cases hb0:inV (V.int way) [V.int 1,.int 2] with
  |false=>exact⟨W,ws,_,_,_,rfl,wB⟩
  |true=>
   refine⟨av (by show 2<=1000000;decide),fun W1 nW1=>?_⟩;have w1:Wst 40 p H W1 [[108],[114]] (upd H5 W1 (.lst (aj [[108],[114]]))):=Wst.mk' wB.dr nW1 (by decide) (by decide) fun cs h=>by
    simp only[AN,Bt,or_false] at h;rcases h with rfl|rfl<;>exact⟨pL (by decide),by decide,by decide⟩
   refine⟨_,rfl,p,6,rfl,w1.dr.ds,by decide,by decide,fun r2 H6 c0 c1 d6=>⟨r2,rfl,by lia,by lia,?_⟩⟩;have w6:=w1.go d6;refine bZ (lo:=0) (n:=r2.toNat) (fun i σ H'=>∃W ws e6 e7 e8,σ=[some (.ref p),some (.int m),some (.int t),some (.int way),some (.int (1+r1)),some (.ref W),e6,e7,e8]/\Wst 40 p H W ws H'/\ws.length=2+i/\∀cs∈ws,cs.length<=1+i) ⟨W1,_,_,_,_,rfl,w6,rfl,fun cs h=>by simp only[AN,Bt,or_false] at h;rcases h with rfl|rfl<;>decide⟩ (fun i σ H' hi z=>?_) (fun σ H' z=>?_)
   ·obtain⟨W,ws,e6,e7,e8,rfl,w,lw,lm⟩:=z;refine⟨_,rfl,_,rfl,W,_,rfl,.inl (SqL.of (aH p _ _ _ w.g)),p,_,rfl,w.dr.ds,by rw[aw];lia,by rw[aw];lia,fun r3 H7 f0 f1 d7=>?_⟩;rw[aw] at f1;have w7:=w.go d7;obtain⟨ea,em⟩:=nJ f0 f1;have er:r3=((r3.toNat:Nat):Int):=by lia
    have er1:r3+1=((r3.toNat+1:Nat):Int):=by lia
    have gone:=w7.ok _ em;have lone:=lm _ em;generalize ws.getD r3.toNat []=cs at ea em gone lone;refine⟨_,rfl,_,rfl,W,_,_,_,rfl,rfl,SqL.of (aH p _ _ _ w7.g),ea,?_⟩;refine⟨_,rfl,_,rfl,_,rfl,W,_,rfl,SqL.of (aH p _ _ _ w7.g),fun P1 nP1=>?_⟩;rw[show oB (aj ws) none (some r3)=aj (ws.take r3.toNat) by rw[er,eZ,Bu]];have d8:=Dr.new w7.dr.ds nP1 (.lst (aj (ws.take r3.toNat)));have g8:=bG w7.dr.ds nP1 (.lst (aj (ws.take r3.toNat)));have w8:=w7.go d8;refine⟨_,rfl,_,rfl,_,_,rfl,rfl,_,rfl,W,_,rfl,SqL.of (aH p _ _ _ w8.g),fun P2 nP2=>?_⟩;rw[show oB (aj ws) (some (r3+1)) none=aj (ws.drop (r3.toNat+1)) by rw[er1,oo]];have d9:=Dr.new w8.dr.ds nP2 (.lst (aj (ws.drop (r3.toNat+1))));have g9:=bG w8.dr.ds nP2 (.lst (aj (ws.drop (r3.toNat+1))));have w9:=w8.go d9;refine⟨P1,P2,_,_,rfl,rfl,aH p _ _ _ (d9.same _ _ g8),aH p _ _ _ g9,av (by rw[aw,aw,AZ,BX];lia),fun P3 nP3=>?_⟩;rw[cB];have d10:=Dr.new w9.dr.ds nP3 (.lst (aj (ws.take r3.toNat++ws.drop (r3.toNat+1))));have g10:=bG w9.dr.ds nP3 (.lst (aj (ws.take r3.toNat++ws.drop (r3.toNat+1))));have w10:=w9.go d10;have lcs:(txt cs).length+1<=sizeLine:=av (by show cs.length+1<=1000000;lia);refine⟨_,rfl,_,_,rfl,rfl,lcs,_,rfl,_,_,rfl,rfl,lcs,av (by show 2<=1000000;decide),fun P4 nP4=>?_⟩;rw[e_l,e_r,jw,jw];have d11:=Dr.new w10.dr.ds nP4 (.lst (aj [cs++[108],cs++[114]]));have g11:=bG w10.dr.ds nP4 (.lst (aj [cs++[108],cs++[114]]));refine⟨P3,P4,_,_,rfl,rfl,aH p _ _ _ (d11.same _ _ g10),aH p _ _ _ g11,av (by rw[aw,AK,AZ,BX];show _+2<=_;lia),fun P5 nP5=>?_⟩;rw[cB];have llen:(ws.take r3.toNat++ws.drop (r3.toNat+1)++[cs++[108],cs++[114]]).length=2+(i+1):=by
     rw[AK,AK,AZ,BX];show _+2=_;lia
    have memo:∀x∈ws.take r3.toNat++ws.drop (r3.toNat+1)++[cs++[108],cs++[114]],x∈ws\/x=cs++[108]\/x=cs++[114]:=fun x hx=>by
     rcases AO.mp hx with hx|hx
     ·rcases AO.mp hx with hx|hx
      ·exact .inl (Cs hx)
      ·exact .inl (Dw hx)
     ·simp only[AN,Bt,or_false] at hx;exact .inr hx
    have lrx:∀c,(c=108\/c=114)->∀y∈cs++[c],GG y:=fun c hc y hy=>by
     rcases AO.mp hy with hy|hy
     ·exact gone.lr y hy
     ·rw[AM.mp hy];exact hc
    refine⟨P5,_,_,_,_,rfl,Wst.mk' (w10.dr.trans d11) nP5 (by lia) (by lia) fun x hx=>?_,llen,fun x hx=>?_⟩
    ·rcases memo x hx with h|rfl|rfl
     ·exact w10.ok x h
     ·exact⟨lrx 108 (.inl rfl),by rw[AK];show 1<=_+1;lia,by rw[AK];show _+1<=40;lia⟩
     ·exact⟨lrx 114 (.inr rfl),by rw[AK];show 1<=_+1;lia,by rw[AK];show _+1<=40;lia⟩
    ·rcases memo x hx with h|rfl|rfl
     ·have:=lm x h;lia
     ·rw[AK];show _+1<=_;lia
     ·rw[AK];show _+1<=_;lia
   ·obtain⟨W,ws,e6,e7,e8,rfl,w,_⟩:=z;exact⟨W,ws,_,_,_,rfl,w⟩
 rintro σ H5 ⟨W,ws,e6,e7,e8,rfl,w5⟩;clear w4;refine⟨fun σ' H'=>∃W ws e6 e7 e8,σ'=[some (.ref p),some (.int m),some (.int t),some (.int way),some (.int (1+r1)),some (.ref W),e6,e7,e8]/\Wst 40 p H W ws H',?_,?_⟩
 ·refine⟨_,rfl,rfl,_,rfl,?_⟩;cases hb0:decide (V.int way=V.int 1) with
  |false=>exact⟨W,ws,_,_,_,rfl,w5⟩
  |true=>
   have gW:=aH p _ _ _ w5.g;refine⟨_,rfl,W,rfl,⟨_,SqL.of gW⟩,?_⟩;have el:=aw ws;have l8:=w5.l8;refine cf (K:=K) (a:=W) (xs:=aj ws) (fun i ys H'=>H'=H5/\ys=aj ((ws.take i).map List.reverse)) ⟨rfl,rfl⟩ (fun i ys H' hi z=>by rw[z.2,aw,AI,AZ];lia) (av (by lia)) (fun i ys H' hi z=>by rw[z.1];exact SqL.of gW) (fun i v ys H' hv z=>?_) (fun ys H' z W' nW'=>?_)
   ·obtain⟨rfl,rfl⟩:=z;have hi:i<(aj ws).length:=(Bc.mp hv).1;have hi':i<ws.length:=by lia
    rw[bV hi'] at hv;cases hv;have:=(w5.ok _ (aG hi')).ln;refine⟨_,rfl,_,rfl,rfl,_,rfl,av (by show(ws.getD i []).length<=1000000;lia),Nx.mk hi ⟨rfl,?_⟩⟩;rw[show Txt.rev (txt (ws.getD i []))=txt (ws.getD i []).reverse from rfl,dZ,Bh,AU,AL hi',Ba,AL hi'];rfl
   obtain⟨rfl,rfl⟩:=z;rw[el,Bw];refine⟨W',_,_,_,_,rfl,Wst.mk' w5.dr nW' (by rw[AI];exact w5.l1) (by rw[AI];exact w5.l8) fun cs h=>?_⟩;obtain⟨x,hx,rfl⟩:=AJ.mp h;have g:=w5.ok x hx;exact⟨fun c hc=>g.lr c (List.mem_reverse.mp hc),by rw[BM];exact g.l1,by rw[BM];exact g.ln⟩
 rintro σ H6 ⟨W,ws,e6,e7,e8,rfl,w6⟩;clear w5;refine⟨fun σ' H'=>∃W ws e6 e7 e8,σ'=[some (.ref p),some (.int m),some (.int t),some (.int way),some (.int (1+r1)),some (.ref W),e6,e7,e8]/\Wst 100 p H W ws H',?_,?_⟩
 ·refine⟨_,rfl,rfl,_,rfl,?_⟩;have gW:=aH p _ _ _ w6.g;have el:=aw ws;have l8:=w6.l8;have w6':Wst 100 p H W ws H6:=⟨w6.dr,w6.n0,w6.ne,w6.g,w6.l1,w6.l8,fun cs h=>⟨(w6.ok cs h).lr,(w6.ok cs h).l1,AX (w6.ok cs h).ln (by decide)⟩⟩
  cases hb0:decide (V.int way=V.int 3) with
  |false=>exact⟨W,ws,_,_,_,rfl,w6'⟩
  |true=>
   refine⟨_,rfl,W,_,rfl,.inl (SqL.of gW),_,_,rfl,rfl,decide (1<ws.length),?_,?_⟩
   ·show V.bl (decide (1<(((aj ws).length:Nat):Int)))=_;rw[el];congr 1;exact decide_eq_decide.mpr ⟨fun h=>by lia,fun h=>by lia⟩
   by_cases h1:1<ws.length
   ·rw[EG h1];refine⟨_,rfl,W,_,_,_,rfl,rfl,SqL.of gW,aS (i:=1) h1,?_⟩;refine⟨_,rfl,_,rfl,_,rfl,W,_,rfl,.inl (SqL.of gW),p,_,rfl,w6.dr.ds,by rw[el];lia,by rw[el];lia,fun r3 H7 f0 f1 d7=>?_⟩;rw[el] at f1;have w7:=w6.go d7;obtain⟨ea,em⟩:=nJ f0 f1;have g1:=w7.ok _ (aG h1);have g2:=w7.ok _ em;generalize ws.getD r3.toNat []=c2 at ea em g2;generalize ws.getD 1 []=c1 at g1;refine⟨W,_,_,_,rfl,rfl,SqL.of (aH p _ _ _ w7.g),ea,_,_,rfl,rfl,av (by show c1.length+c2.length<=1000000;have:=g1.ln;have:=g2.ln;lia),?_⟩;rw[jw];refine⟨_,rfl,W,_,0,0,rfl,rfl,aH p _ _ _ w7.g,(by rw[el];unfold ixN;rw[EF (by decide),EF (by lia)];rfl),?_⟩;have es:(aj ws).set 0 (.str (txt (c1++c2)))=aj (ws.set 0 (c1++c2)):=by show _=(ws.set 0 _).map _;rw[List.map_set]
    rw[es];refine⟨W,_,_,_,_,rfl,w7.put (by rw[DN];lia) (by rw[DN];lia) fun x hx=>?_⟩;rcases List.mem_or_eq_of_mem_set hx with h|rfl
    ·exact(w6'.ok x h)
    ·refine⟨fun c hc=>?_,by rw[AK];have:=g1.l1;lia,by rw[AK];have:=g1.ln;have:=g2.ln;lia⟩;rcases AO.mp hc with h|h
     ·exact g1.lr c h
     ·exact g2.lr c h
   ·rw[EH h1];exact⟨W,ws,_,_,_,rfl,w6'⟩
 rintro σ H7 ⟨W,ws,e6,e7,e8,rfl,w7⟩;clear w6;refine⟨fun σ' H'=>∃W ws e6 e7 e8,σ'=[some (.ref p),some (.int m),some (.int t),some (.int way),some (.int (1+r1)),some (.ref W),e6,e7,e8]/\Wst 100 p H W ws H',?_,?_⟩
 ·refine⟨_,rfl,p,3,rfl,w7.dr.ds,by decide,by decide,fun r4 H8 f0 f1 d8=>⟨rfl,_,rfl,?_⟩⟩;have w8:=w7.go d8;have gW:=aH p _ _ _ w8.g;have el:=aw ws;have l8:=w8.l8;cases hb0:decide (V.int r4=V.int 0) with
  |false=>exact⟨W,ws,_,_,_,rfl,w8⟩
  |true=>
   refine⟨_,rfl,W,_,rfl,.inl (SqL.of gW),_,_,rfl,rfl,decide (1<ws.length),?_,?_⟩
   ·show V.bl (decide (1<(((aj ws).length:Nat):Int)))=_;rw[el];congr 1;exact decide_eq_decide.mpr ⟨fun h=>by lia,fun h=>by lia⟩
   by_cases h1:1<ws.length
   ·rw[EG h1];refine⟨_,rfl,.inl ⟨rfl,_,SqL.of gW⟩,_,rfl,_,rfl,W,_,rfl,.inl (SqL.of gW),p,_,rfl,w8.dr.ds,by rw[el];lia,by rw[el];lia,fun r3 H9 g0 g1 d9=>?_⟩;rw[el] at g1;have w9:=w8.go d9;have hk:r3.toNat<ws.length:=by lia
    have hk':r3.toNat<(aj ws).length:=by lia
    refine⟨W,_,r3,r3.toNat,(aj ws)[r3.toNat],rfl,rfl,aH p _ _ _ w9.g,by lia,by lia,(jT (by unfold ixN;rw[EF g0,EF (by lia)])).1,AL hk',?_⟩;have es:(aj ws).eraseIdx r3.toNat=aj (ws.eraseIdx r3.toNat):=by rw[Ez,Ez];show _=(_++_:List (List Nat)).map _;rw[AU,List.map_take,List.map_drop]
    rw[es];refine⟨W,_,_,_,_,rfl,w9.put (by rw[List.length_eraseIdx];split<;>lia) (by rw[List.length_eraseIdx];split<;>lia) fun x hx=>w9.ok x (List.mem_of_mem_eraseIdx hx)⟩
   ·rw[EH h1];exact⟨W,ws,_,_,_,rfl,w8⟩
 rintro σ H8 ⟨W,ws,e6,e7,e8,rfl,w8⟩;clear w7;have gW:=aH p _ _ _ w8.g;have el:=aw ws;have l8:=w8.l8;obtain⟨mn,rfl⟩:∃mn:Nat,m=(mn:Int):=⟨m.toNat,by lia⟩
 refine⟨_,rfl,W,rfl,⟨_,SqL.of gW⟩,?_⟩;refine cf (K:=K) (a:=W) (xs:=aj ws) (fun i ys H'=>H'=H8/\ys=aj ((ws.take i).map fun w=>w.take mn)) ⟨rfl,rfl⟩ (fun i ys H' hi z=>by rw[z.2,aw,AI,AZ];lia) (av (by lia)) (fun i ys H' hi z=>by rw[z.1];exact SqL.of gW) (fun i v ys H' hv z=>?_) (fun ys H' z W' nW'=>?_)
 ·obtain⟨rfl,rfl⟩:=z;have hi:i<(aj ws).length:=(Bc.mp hv).1;have hi':i<ws.length:=by lia
  rw[bV hi'] at hv;cases hv;have:=(w8.ok _ (aG hi')).ln;refine⟨_,rfl,_,rfl,_,rfl,_,rfl,av (by show(ws.getD i []).length<=1000000;lia),Nx.mk hi ⟨rfl,?_⟩⟩;rw[fQ,dZ,Bh,AU,AL hi',Ba,AL hi'];rfl
 obtain⟨rfl,rfl⟩:=z;rw[el,Bw];have d9:=Dr.new w8.dr.ds nW' (.lst (aj (ws.map fun w=>w.take mn)));have g9:=bG w8.dr.ds nW' (.lst (aj (ws.map fun w=>w.take mn)));refine⟨_,rfl,W',_,rfl,SqL.of (aH p _ _ _ g9),fun W2 nW2=>?_⟩;rw[show oB (aj (ws.map fun w=>w.take mn)) none (some 8)=aj ((ws.map fun w=>w.take mn).take 8) from eZ _ 8];have w10:Wst mn p H W2 ((ws.map fun w=>w.take mn).take 8) _:=Wst.mk' (w8.dr.trans d9) nW2 (by rw[AZ,AI];have:=w8.l1;lia) (by rw[AZ];lia) fun x hx=>by
  obtain⟨y,hy,rfl⟩:=AJ.mp (Cs hx);have g:=w8.ok y hy;exact⟨fun c hc=>g.lr c (Cs hc),by rw[AZ];have:=g.l1;lia,by rw[AZ];lia⟩
 generalize (ws.map fun w=>w.take mn).take 8=vs at w10 ⊢;generalize upd _ W2 (.lst (aj vs))=H10 at w10 ⊢;clear w8 d9 g9 nW2;refine⟨fun m' σ H'=>∃vs,σ=[some (.ref p),some (.int mn),some (.int t),some (.int way),some (.int (1+r1)),some (.ref W2),e6,e7,e8]/\Dr p H H'/\hid p H' W2=some (.lst (aj vs))/\vs.length<=8/\(∀cs∈vs,Gn mn cs)/\m'=vs.length,⟨_,vs,rfl,w10.dr,w10.g,w10.l8,w10.ok,rfl⟩,?_⟩;rintro m' σ H11 ⟨vs,rfl,dr,g,l8',ok,rfl⟩;have gW:=aH p _ _ _ g;have el:=aw vs;refine⟨_,rfl,W2,rfl,⟨_,SqL.of gW⟩,?_⟩;refine cf (K:=K) (a:=W2) (xs:=aj vs) (fun i ys H'=>H'=H11/\ys=(qq (vs.take i)).map V.int) ⟨rfl,rfl⟩ (fun i ys H' hi z=>by rw[z.2,AI];unfold qq;rw[AI,AZ];lia) (av (by lia)) (fun i ys H' hi z=>by rw[z.1];exact SqL.of gW) (fun i v ys H' hv z=>?_) (fun ys H' z p1 hp1=>?_)
 ·obtain⟨rfl,rfl⟩:=z;have hi:i<(aj vs).length:=(Bc.mp hv).1;have hi':i<vs.length:=by lia
  rw[bV hi'] at hv;cases hv;have:=(ok _ (aG hi')).ln;refine⟨_,rfl,_,rfl,av (by show(vs.getD i []).length<=1000000;lia),Nx.mk hi ⟨rfl,?_⟩⟩;unfold qq;rw[Bh,AU,AU,AL hi',Ba,AL hi'];rfl
 obtain⟨rfl,rfl⟩:=z;rw[el,Bw];have d12:=Dr.new dr.ds hp1 (.lst ((qq vs).map V.int));have g12:=d12.same _ _ g;have D12:=dr.trans d12;refine⟨p1,qq vs,rfl,SqL.of ae,?_⟩;generalize upd H' p1 (.lst ((qq vs).map V.int))=H12 at d12 g12 D12 ⊢;refine⟨_,rfl,_,_,rfl,rfl,_,rfl,?_⟩;cases hb0:decide (t<(qq vs).sum) with
 |true=>
  have hlt:=EK hb0;have hne:vs≠[]:=fun z=>by
   rw[z] at hlt;have:(qq []).sum=0:=rfl;lia
  have hl:0<vs.length:=BP.mpr hne;refine⟨_,fun σ' H' z=>z,?_⟩;refine⟨_,rfl,.inl ⟨rfl,_,SqL.of (aH p _ _ _ g12)⟩,W2,_,(aj vs)[(aj vs).length-1]'(by lia),rfl,rfl,aH p _ _ _ g12,AL (by lia),?_⟩;have es:(aj vs).dropLast=aj vs.dropLast:=by show _=(vs.dropLast).map _;rw[List.map_dropLast]
  rw[es];refine⟨vs.length-1,by lia,vs.dropLast,rfl,Dr.put D12 w10.n0 w10.ne _,oJ w10.ne _,by rw[DO];lia,fun cs h=>ok cs ((List.dropLast_sublist _).subset h),by rw[DO]⟩
 |false=>
  refine⟨_,rfl,Bi _,fun e0 ne0=>?_⟩;have d13:=Dr.new D12.ds ne0 (.lst []);have g13:=d13.same _ _ g12;refine⟨.list ((vs.map txt).map PyData.str),.list [],.lst (SqL.of (aH p _ _ _ g13)) (by show DatAll _ _ (vs.map fun cs=>V.str (txt cs)) _;rw[show(vs.map fun cs=>V.str (txt cs))=(vs.map txt).map V.str by rw[Bn];rfl];exact DatAll.strs _),.lst (SqL.of ae) .nil,Il _ (fun z h=>by obtain⟨cs,hcs,rfl⟩:=AJ.mp h;exact yy (LRs.as (z:=txt cs) (ok cs hcs).lr)),rfl,jZ _,!vs.isEmpty,(by show V.bl (!PyData.eqv _ _)=_;rw[Ki];cases vs<;>rfl),?_⟩;have D13:=D12.trans d13;generalize upd H12 e0 (.lst [])=H13 at d13 g13 D13 ⊢;cases hv:vs with
  |cons v0 vr=>
   refine⟨_,rfl,q W2 vs H13 D13 g13 ⟨by rw[hv];exact Ff (Bi _),l8',fun cs h=>(ok cs h).lr,fun cs h=>(ok cs h).l1,fun cs h=>by have:=(ok cs h).ln;lia⟩ (fun cs h=>by have:=(ok cs h).ln;lia) (by have:=of_decide_eq_false hb0;lia)⟩
  |nil=>
   refine⟨av (by show 1<=1000000;decide),fun W3 nW3=>?_⟩;have d14:=Dr.new D13.ds nW3 (.lst (aj [[108]]));exact q W3 [[108]] _ (D13.trans d14) (bG D13.ds nW3 _) ⟨by decide,by decide,fun cs h=>by rw[AM.mp h];exact pL (by decide),fun cs h=>by rw[AM.mp h];decide,fun cs h=>by rw[AM.mp h];decide⟩ (fun cs h=>by rw[AM.mp h];show((1:Nat):Int)<=_;lia) (by show(1:Int)<=t;lia)
theorem IY:Fs ["found"] ["found"] (ar (top 43)):=by walk_at "s"
theorem mU{d:DD}(D:Def K mg "_law_whole" (top 43) ["found"] d)(yV:mg "int"=none)(yY:mg "bool"=none)(yI:mg "isinstance"=none):(fk 1 d ["found"] Hj):=by
 refine D.fn.ok IY (fun vs H Q E h=>?_) (fun cdv A outer s H vs Q E hr h=>?_)
 ·obtain⟨v,rfl,_⟩:=h;rfl
 obtain⟨v,rfl,hk,q⟩:=h;refine⟨_,(ak (aI (fJ (aJ Gf rfl yI FD (Fn (0) (Fn (eB (v:=.ty "int") rfl yV Ib rfl) FE))) (kj (sG (aJ Gf rfl yI FD (Fn (0) (Fn (eB (v:=.ty "bool") rfl yY Jc rfl) FE)))))))),?_⟩
 walk_at "d"
 obtain⟨t1,y1,e1⟩:=hk.as_int (K:=K);obtain⟨t2,y2,e2⟩:=hk.as_bool (K:=K);refine⟨v,rfl,v,.ty "int",t1,_,_,rfl,rfl,y1,e1,_,rfl,?_⟩;cases hb:Lw v with
 |true=>
  refine ym ⟨v,rfl,v,.ty "bool",t2,_,_,rfl,rfl,y2,e2,_,rfl,?_⟩;have z:(!isB v)=GD v:=by cases v<;>first|rfl|(cases hb)
  rw[z];exact q
 |false=>
  refine xI ?_;have z:false=GD v:=by cases v<;>first|rfl|(cases hb)
  rw[z];exact q
theorem IU:∀ts:List Tb,PyData.canLayAll0 (ts.map Tb.dat)=true
 |[]=>rfl
 |t::r=>by
  have ih:=IU r;rw[AQ];show(t.dat.canLay0&&PyData.canLayAll0 (r.map Tb.dat))=true;rw[ih];rfl
theorem gG(ts:List Tb):(PyData.list (ts.map Tb.dat)).canLay0=true:=by
 show PyData.canLayAll0 (ts.map Tb.dat)=true;exact IU ts
theorem HB:∀ts:List Tb,PyData.depthAll (ts.map Tb.dat)<=1
 |[]=>by show 0<=1;decide
 |t::r=>by
  have ih:=HB r;rw[AQ];show max t.dat.depth (PyData.depthAll (r.map Tb.dat))<=1;have:t.dat.depth=1:=rfl;lia
theorem lS(ts:List Tb):(PyData.list (ts.map Tb.dat)).depth<=60:=by
 have:=HB ts;have e:(PyData.list (ts.map Tb.dat)).depth=PyData.depthAll (ts.map Tb.dat)+1:=by
  simp[PyData.depth]
 lia
theorem uo(ts:List Tb):V.bl (if true=true then !PyData.eqv (.list (ts.map Tb.dat)) (.list (ts.map Tb.dat)) else PyData.eqv (.list (ts.map Tb.dat)) (.list (ts.map Tb.dat)))=.bl false:=by
 rw[SeqAt.eqv_refl _ (gG ts)];rfl
theorem tJ{α:Type}{xs:List α}{n:Nat}{v:α}(hl:xs.length=n+1)(h:xs[n]?=some v):atI xs (-1)=some v:=by
 have e:ixN xs.length (-1)=some n:=by
  unfold ixN;rw[hl,EE (by decide),EF (by lia)]
  congr 1
  lia
 unfold atI;rw[e];exact h
theorem jH{H:Hp}:∀{vs:List V}{ws:List (List Nat)},Mks H vs ws->DatAll K H vs ((ws.map wt).map Tb.dat)
 |_,_,.nil=>.nil
 |_,_,.cons h r=>.cons (h.t4 (K:=K)).dat (jH r)
theorem T4o.hid{l:Addr}{H:Hp}{v:V}{t:Tb}(d:Ds H l)(h:T4o H v t):T4o (L2.hid l H) v t:=by
 obtain⟨a,rfl,g⟩:=h;obtain⟨x,y,z,e,_⟩:=d;refine⟨a,rfl,?_⟩;rw[cm (bD g e (by intro z;cases z))];exact g
theorem Mks.hid{l:Addr}{H:Hp}(d:Ds H l){vs:List V}{ws:List (List Nat)}(h:Mks H vs ws):Mks (L2.hid l H) vs ws:=Paired.GQ h fun v s g=>T4o.hid d g
open KM
theorem rf{H H':Hp}(S:Fo H H'){vs:List V}{ws:List (List Nat)}(h:Mks H vs ws):Mks H' vs ws:=Paired.GQ h fun v s g=>g.mono S
theorem SqL.smb{H H':Hp}{T a:Addr}{ps:Array Value}{xs:List V}(hT:H T=some (.tbl ps))(h:SqL K H a xs)(S:SmB T H H'):SqL K H' a xs:=by
 rcases h with h|h
 ·rcases h with h|⟨o,h⟩
  ·exact .inl (.inl (S _ _ (bD h hT (fun z=>by cases z)) h))
  ·exact .inl (.inr ⟨o,S _ _ (bD h hT (fun z=>by cases z)) h⟩)
 ·exact .inr h
theorem sJ{T l:Addr}{Hi H1 H2:Hp}(S:SmB T Hi H1)(n:Hi l=none)(d:Dr l H1 H2):SmB T Hi H2:=fun b o nT e=>by
 have z:b≠l:=aB e n;exact aH l _ _ _ (d.same b o (by rw[cm z];exact S b o nT e))
theorem Gb.dr{pos:Pos}{q:Str}{T l:Addr}{H H':Hp}(h:Gb pos q T H)(ds:Ds H l)(d:Dr l H H'):Gb pos q T H':=by
 obtain⟨ps,h1,h2,h3⟩:=h.ex;obtain⟨x,y,z,e,_⟩:=ds;have tr:∀b o,H b=some o->o≠.lst [.int x,.int y,.int z]->H' b=some o:=fun b o hb ne=>aH l _ _ _ (d.same b o (by rw[cm (bD hb e ne)];exact hb));refine⟨ps,tr _ _ h1 (fun z=>by cases z),h2,?_⟩;rcases h3 with h3|⟨c,h3,h4⟩
 ·exact .inl h3
 ·exact .inr ⟨c,h3,tr _ _ h4 (fun z=>by cases z)⟩
theorem dM{α:Type}{ps:List α}{k:Nat}{s:α}(es:ps[k]?=some s):ps.take (k+1)=ps.take k++[s]:=by rw[Bh,es];rfl
theorem jB{ws:List (List Nat)}{i:Nat}{v:V}(h:(aj ws)[i]?=some v):∃x,ws[i]?=some x/\v=.str (txt x):=by
 rw[AW] at h;obtain⟨x,e,rfl⟩:=BH.mp h;exact⟨x,e,rfl⟩
theorem tU(ws:List (List Nat))(x:List Nat)(i:Nat):(cE ws x x.length).getD i 0=((bU ws x x.length).getD i (none,0)).2:=by
 rw[eX,Ba,Ba,AW];cases (bU ws x x.length)[i]?<;>rfl
theorem sF{l b:Addr}{H:Hp}{o:HO}(h:hid l H b=some o):b≠l:=fun z=>by
 unfold hid at h;rw[EF z] at h;cases h
structure Sx(l T:Addr)(Hi:Hp)(W M:Addr)(ws:List (List Nat))(ys:List V)(H:Hp):Prop where
 fi:SmB T Hi H
 ds:Ds H l
 lt:Gb Im IG T H
 w:hid l H W=some (.lst (aj ws))
 m:hid l H M=some (.lst ys)
 ms:Mks (hid l H) ys ws
theorem Sx.dr{l T:Addr}{Hi:Hp}{W M:Addr}{ws:List (List Nat)}{ys:List V}{H H':Hp}(nl:Hi l=none)(s:Sx l T Hi W M ws ys H)(d:Dr l H H'):Sx l T Hi W M ws ys H':=
 ⟨sJ s.fi nl d,d.ds,Gb.dr s.lt s.ds d,d.same _ _ s.w,d.same _ _ s.m,rf d.same s.ms⟩
theorem Sx.same{l T:Addr}{Hi:Hp}{W M:Addr}{ws:List (List Nat)}{ys:List V}{H H':Hp}(nl:Hi l=none)(s:Sx l T Hi W M ws ys H)(d:Fo H H'):Sx l T Hi W M ws ys H':=s.dr nl (Dr.of_same s.ds d)
theorem Sx.smb{l T:Addr}{Hi:Hp}{W M:Addr}{ws:List (List Nat)}{ys:List V}{H H':Hp}(s:Sx l T Hi W M ws ys H)(S:SmB T H H')(lt:Gb Im IG T H'):Sx l T Hi W M ws ys H':=by
 obtain⟨ps,hT,_⟩:=s.lt.ex;have up:∀{b:Addr}{o:HO},hid l H b=some o->o≠.tbl ps->hid l H' b=some o:=fun {b o} h n=>by
  have nl:=sF h;rw[cm nl] at h ⊢;exact S _ _ (bD h hT n) h
 obtain⟨x,y,z,e,ok⟩:=s.ds;refine⟨s.fi.trans S,⟨x,y,z,S _ _ (bD e hT (fun z=>by cases z)) e,ok⟩,lt,up s.w (fun z=>by cases z),up s.m (fun z=>by cases z),Paired.GQ s.ms fun v cs hq118=>by obtain⟨a,e,h⟩:=hq118;exact⟨a,e,up h (fun z=>by cases z)⟩⟩
theorem Sx.mk'{l T:Addr}{Hi:Hp}{W M:Addr}{ws:List (List Nat)}{ys:List V}{H:Hp}(s:Sx l T Hi W M ws ys H):Mks H ys ws:=rf (aH l _) s.ms
theorem Sx.m'{l T:Addr}{Hi:Hp}{W M:Addr}{ws:List (List Nat)}{ys:List V}{H:Hp}(s:Sx l T Hi W M ws ys H):H M=some (.lst ys):=aH l _ _ _ s.m
theorem Sx.w'{l T:Addr}{Hi:Hp}{W M:Addr}{ws:List (List Nat)}{ys:List V}{H:Hp}(s:Sx l T Hi W M ws ys H):H W=some (.lst (aj ws)):=aH l _ _ _ s.w
theorem ua{H H':Hp}{T a:Addr}{ps:Array Value}{xs:List V}(hT:H T=some (.tbl ps))(S:SmB T H H')(h:H a=some (.lst xs)):H' a=some (.lst xs):=S _ _ (bD h hT (fun z=>by cases z)) h
theorem kX{T:Addr}{ts:List (List Nat)}{H:Hp}{σ:L2.St}{js:List Nat}{Q:VK}{c:Nat}{cz:Str}(hz:cz=txt [c])(hT:H T=some (.lst (aj ts)))(hl:ts.length<=600)(hx:∀x∈ts,x.length<=10)(q:∀l,H l=none->Q (.ref l) (upd H l (.lst (aj (ts.map fun x=>x++[c]))))) :
  fh (Itl K T) 1 js (oj 0) Kk (tOp (fun x y H Q=>∃i j:Str,x=.str i/\y=.str j/\i.length+j.length<=sizeLine/\Q (.str (i++j)) H) (wZ 0) (tC (.str cz))) σ H Q:=by
 have tl:=aw ts;have addl:∀x:List Nat,txt x++cz=txt (x++[c]):=fun x=>by
  rw[hz];apply dR;rw[kE];rfl
 refine cf (K:=K) (a:=T) (xs:=aj ts) (fun k zs H2=>H2=H/\zs=aj ((ts.take k).map fun x=>x++[c])) ⟨rfl,rfl⟩ (fun k zs H2 hk z=>by rw[z.2,AI,AI,AZ];lia) (av (by lia)) (fun k zs H2 hk z=>by rw[z.1];exact SqL.of hT) (fun k v zs H2 hv z=>?_) (fun zs H2 z P1 hP1=>?_)
 ·obtain⟨rfl,rfl⟩:=z;have hk:k<(aj ts).length:=(Bc.mp hv).1;obtain⟨x,ex,rfl⟩:=jB hv;have hl:=hx x (Bg ex);refine⟨_,rfl,_,_,rfl,rfl,av (by rw[hz];show x.length+1<=1000000;lia),Nx.mk hk ⟨rfl,?_⟩⟩;rw[dM ex,AU,addl];show aj _++aj [x++[c]]=_;exact cB _ _
 ·obtain⟨rfl,rfl⟩:=z;rw[tl,Bw];exact q _ hP1
theorem rH{la Wl:Addr}{r:List Nat}{ws:List (List Nat)}{H:Hp}{σ:L2.St}{js:List Nat}{Q:VK}(hp:bJ js σ=[some (.ref Wl)])(hla:H la=some (.lst (iv r)))(hW:H Wl=some (.lst (aj ws)))(hw:∀cs∈ws,cs.length<=40)(hr:∀i∈r,i<ws.length)(hl:r.length<=100000)
  (q:∀l,H l=none->Q (.ref l) (upd H l (.lst ((r.map fun k=>(((ws.getD k []).length:Nat):Int)).map V.int)))):fh (Itl K la) 1 js (oj 0) Kk (tCB (fun xs H Q=>∃z:Str,xs=[V.str z]/\z.length<=sizeLine/\Q (V.int ((z.length:Nat):Int)) H) (gy (tOp (jj K) (wZ 1) (wZ 0)) Jt)) σ H Q:=by
 refine cf (K:=K) (a:=la) (xs:=iv r) (fun j us H3=>H3=H/\us=((r.take j).map fun k=>(((ws.getD k []).length:Nat):Int)).map V.int) ⟨rfl,rfl⟩ (fun j us H3 hj z=>by rw[z.2,AI,AI,AZ];exact CA _ _) (av (by rw[cX];lia)) (fun j us H3 hj z=>by rw[z.1];exact SqL.of hla) (fun j x us H3 hx z=>?_) (fun us H3 z p np=>?_)
 ·obtain⟨rfl,rfl⟩:=z;have hj:j<(iv r).length:=(Bc.mp hx).1;obtain⟨n,en,rfl⟩:=tI hx;have hn:=hr n (Bg en);rw[hp];refine⟨_,rfl,_,rfl,Wl,_,_,_,rfl,rfl,SqL.of hW,aS hn,txt (ws.getD n []),rfl,av (by have:=hw _ (aG hn);show(ws.getD n []).length<=1000000;lia),Nx.mk hj ⟨rfl,?_⟩⟩;rw[dM en,AU,AU];rfl
 ·obtain⟨rfl,rfl⟩:=z;rw[cX,Bw];exact q p np
theorem km(ws:List (List Nat)):∀r:List Nat,(r.map fun k=>(((ws.getD k []).length:Nat):Int)).sum=(((bA ws r).length:Nat):Int)
 |[]=>rfl
 |k::r=>by rw[AQ,Bf,km ws r,bz,AK];lia
theorem va{ws:List (List Nat)}(W:Wds ws):∀i,i<ws.length->ws.getD i []≠[]:=fun i hi z=>by
 have:=W.l1 _ (aG hi);rw[z] at this;exact absurd this (by decide)
structure Tw(ws:List (List Nat))(a b:List Nat):Prop where
 ha:∀i∈a,i<ws.length
 hb:∀i∈b,i<ws.length
 ne:a≠b
 eq:bA ws b=bA ws a
 few:(bA ws a).length<=100000
theorem Tw.of{ws:List (List Nat)}{a b:List Nat}{dn:List (List Nat×Nat)}{E:KM.Ent}{f:Fd}(h:Dij ws dn E)(hf:([],f)∈E)(hm:f.1<=100000)(h2:f.2=(a,b)\/f.2=(b,a)):Tw ws a b:=by
 obtain⟨T,_⟩:=h.wt.trk _ hf;obtain⟨i,j,s,t,e1,e2,n⟩:=T.ne;have ee:=T.eq;rw[Bp] at ee;have tl:=T.len;have ta:=T.a;have tb:=T.b;have ne:f.2.1≠f.2.2:=fun z=>by
  rw[e1,e2] at z;exact n (List.cons.inj z).1
 rcases h2 with h2|h2<;>rw[h2] at ee tl ta tb ne
 ·exact⟨ta,tb,ne,ee.symm,by show(bA ws a).length<=_;rw[<- tl];exact hm⟩
 ·exact⟨tb,ta,ne.symm,ee,by show(bA ws a).length<=_;rw[show bA ws a=bA ws b from ee.symm,<- tl];exact hm⟩
def Pr2 (l:Addr)(ws:List (List Nat))(v:V)(H:Hp):Prop:=(v=.non/\UD ws)\/∃fa la lb a b,v=.ref fa/\hid l H fa=some (.tup [.ref la,.ref lb])/\hid l H la=some (.lst (iv a))/\Tw ws a b
theorem Pr2.dr{l:Addr}{ws:List (List Nat)}{v:V}{H H':Hp}(h:Pr2 l ws v H)(d:Dr l H H'):Pr2 l ws v H':=h.elim .inl fun hq119=>by obtain⟨fa,la,lb,a,b,e,g1,g2,t⟩:=hq119;exact .inr ⟨fa,la,lb,a,b,e,d.same _ _ g1,d.same _ _ g2,t⟩
structure LM where
 draws:DD
 draw:DD
 sm:DD
 ofl:DD
 td:DD
 twn:DD
 cot:DD
 cor:DD
 lwh:DD
 lcn:DD
structure All(T:Addr)(P:Program)(w:World)(K:W.Frag)(mg:Str->Option Value)(base:Heap)(d:LM):Prop where
 yZ:Def K mg "_law_draws" (top 36) ["script","k"] d.draws
 yL:Def K mg "_law_draw" (top 37) ["draws","many"] d.draw
 Ls:Def K mg "_law_short_makers" (top 39) ["draws","most","together"] d.sm
 zO:Def K mg "_law_of_letters" (top 42) ["word"] d.ofl
 Lm:Def K mg "_law_tables_due" (top 45) ["words","most"] d.td
 zP:Def K mg "twins" (top 34) ["makers"] d.twn
 zB:Def K mg "count_of_tables" (top 25) ["makers","n"] d.cot
 zD:Def K mg "count_of_rows" (top 22) ["makers","n"] d.cor
 zM:Def K mg "_law_whole" (top 43) ["found"] d.lwh
 zL:Def K mg "_law_counts" (top 44) ["words","text"] d.lcn
 zh:(fk 1 d.draws ["script","k"] (og K))
 yM:(fk 1 d.draw ["draws","many"] HZ)
 LI:(fk 3 d.sm ["draws","most","together"] LS)
 zZ:(fk 3 d.ofl ["word"] (vk K))
 Ly:(fk 1 d.td ["words","most"] (yG P w))
 Aa:(fk 6 d.twn ["makers"] (wK T))
 zE:(fk 6 d.cot ["makers","n"] Ku)
 zS:(fk 6 d.cor ["makers","n"] Lf)
 zX:(fk 1 d.lwh ["found"] Hj)
 zW:(fk 1 d.lcn ["words","text"] Kt)
 yJ:mg "range"=none
 Av:mg "max"=none
 yW:mg "min"=none
 yK:mg "len"=none
 yP:mg "list"=none
 yQ:mg "sum"=none
theorem JS:Fs ["script","k","draws","words","makers","handed","due","pair","n","found","rows","texts","made"] ["script"] (ar (top 46)):=by walk_at "s"
theorem jb(m:Int)(h:0<=m):-(2^62)<=(if (if m<5 then m else 5)>1 then (if m<5 then m else 5) else 1)/\(if (if m<5 then m else 5)>1 then (if m<5 then m else 5) else 1)<2^62/\(if (if m<5 then m else 5)>1 then (if m<5 then m else 5) else 1).toNat<=5:=by
 split<;>split<;>lia
def rY (T:Addr)(K:W.Frag):Sp:=fun vs H Q _=>∃(a:Addr)(ns:List Int),vs=[.ref a]/\SqL K H a (ns.map V.int)/\ns.length<=63/\Gb Im IG T H/\∀H',Q (.bl true) H'
theorem vm{T:Addr}{d:DD}{D:LM}(A:All T P w K mg base D)(DL:Def K mg "law" (top 46) ["script"] d):(fk 8 d ["script"] (rY T K)):=by
 refine DL.fn.ok JS (fun vs H Q E h=>?_) (fun cdv Ar outer s H vs Q E hr h=>?_)
 ·obtain⟨a,ns,rfl,_⟩:=h;rfl
 obtain⟨a,ns,rfl,hS,h63,hT,q⟩:=h;have hc:=hr.calm;have nd:=JS.nd;refine⟨_,(ag (bB (bb A.yJ (aD (aJ (mL hc) A.Av KG (Fn (ah _) (aD (aJ (pX hc) A.yW Iv (Fn (ah _) (aD (aR Ft A.yK (0) aC) eV) ba)) eV) ba)) eV)) (ao 1) (ag (ax 2 (aY A.yZ A.zh (Fn (0) (aD (1) aC) aC))) (ag (ac 3 (aY A.Ls A.LI (Fn (2) (Fn (ah _) (aD (ah _) ba) ba) aC))) (ag (cG 4 (aq (ts:=["word"]) (cap:=[]) (js:=[]) rfl rfl rfl rfl rfl rfl (by decide +kernel)) (aN (3)) (ad 0 (nd ["word"])) (@aV _) (dC A.zO A.zZ (0) aC)) (ag (ax 5 (br FZ A.yP GJ (aD (4) aC))) (ag (ax 6 (aY A.Lm A.Ly (Fn (3) (aD (ah _) ba) aC))) (ag (ax 7 (oE (dC A.zP A.Aa (br FZ A.yP GJ (aD (4) aC)) eV))) (ag (bB (aN (bg (Fn (ah _) (Fn (aY A.yL A.yM (Fn (2) (aD (ah _) ba) aC)) (Fn (aY A.yL A.yM (Fn (2) (aD (ah _) ba) aC)) (aD (ah _) ba) eV) eV) ba))) (ao 8) (ag (ax 9 (aY A.zB A.zE (Fn (5) (aD (8) aC) aC))) (ag (ax 10 (aY A.zD A.zS (Fn (5) (aD (8) aC) aC))) (ag (bS (@PW.pt _ _ _ (mq (iI (dG (dC A.zM A.zX (9) aC))) (mq (aA Jr (9) (aL Fq (6) (8)) (aE _)) (mq (aA (lH hr.units) (5) (4) (aE _)) (kL (aA GY (9) (10) (aE _))))))) (ak (aI (jK _))) (Fv _)) (ak (bS (@PW.pt _ _ _ (fM (aA JK (7) (fu _) (aE _)) (dY (aA Jr (9) (10) (aE _))))) (ak (aI (jK _))) (Fv _))))))) (ag (ax 11 (bg (aD (aU _) ba))) (ag (bB (bb A.yJ (aD (aY A.yL A.yM (Fn (2) (aD (ah _) ba) aC)) eV)) (ao 8) (ak (ax 11 (az GF (aW (aq (ts:=["text"]) (cap:=[]) (js:=[]) rfl rfl rfl rfl rfl rfl (by decide +kernel)) (aN (11)) (ad 0 (nd ["text"])) (@aV _) (az FP (0) (aU _))) (aW (aq (ts:=["text"]) (cap:=[]) (js:=[]) rfl rfl rfl rfl rfl rfl (by decide +kernel)) (aN (11)) (ad 0 (nd ["text"])) (@aV _) (az FP (0) (aU _))))))) (ag (cG 12 (aq (ts:=["text"]) (cap:=["words"]) (js:=[3]) rfl rfl rfl rfl rfl rfl (by decide +kernel)) (aN (11)) (ad 0 (nd ["text","words"])) (@bN _ _ _ (aA GY (aL (show IxR _ (uO K) from FQ) (aL (show IxR _ (jj K) from Fq) (aY A.zL A.zW (Fn (1) (aD (0) aC) aC)) (rp IE (ah _))) (ah _)) (ah _) (aE _))) (0)) (ag (bS (aA Jr (aR Ft A.yK (12) aC) (aY A.zB A.zE (Fn (5) (aD (aR Fp A.yK (aL Fq (11) (ah _)) (by rfl)) eV) aC)) (aE _)) (ak (aI (jK _))) (Fv _)) (ak (bS (aA Jf (7) (fu _) (aE _)) (ag (ax 8 (aJ (bX hc) A.yQ GS (aD (aW (aq (ts:=["number"]) (cap:=["words"]) (js:=[3]) rfl rfl rfl rfl rfl rfl (by decide +kernel)) (aN (aL FQ (7) (ah _))) (ad 0 (nd ["number","words"])) (@aV _) (aR Fp A.yK (aL (show IxR _ (jj K) from Fq) (1) (0)) (by rfl))) (by rfl)))) (ak (bS (@PW.pt _ _ _ (fM (aA IJ (8) (ah _) (aE _)) (dY (aA Jk (aY A.zB A.zE (Fn (5) (aD (8) aC) aC)) (aY A.zD A.zS (Fn (5) (aD (8) aC) aC)) (aE _))))) (ak (aI (jK _))) (Fv _)))) (Fv _))))))))))))))) (ak (aI (jK _)))),?_⟩
 walk_at "d"
 have hl:(ns.map V.int).length=ns.length:=AI _;refine⟨_,rfl,a,_,rfl,.inl hS,_,_,rfl,_,_,rfl,_,rfl,(jb _ (Fg _)).1,(jb _ (Fg _)).2.1,?_⟩;have j16:=(jb (((ns.map V.int).length:Nat):Int) (Fg _)).2.2;obtain⟨ps0,gT0,_⟩:=hT.ex;refine bZ (lo:=0) (n:=_) (fun i σ H'=>∃x1 x2 x3 x4 x5 x6 x7 x8 x9 x10 x11 x12,σ=[some (.ref a),x1,x2,x3,x4,x5,x6,x7,x8,x9,x10,x11,x12]/\SmB T H H'/\Gb Im IG T H') ⟨none,none,none,none,none,none,none,none,none,none,none,none,rfl,SmB.of (Fo.refl H),hT⟩ (fun i σ Hi hi z=>?_) (fun σ H' z=>?_)
 rotate_left
 ·obtain⟨x1,x2,x3,x4,x5,x6,x7,x8,x9,x10,x11,x12,rfl,S,_⟩:=z;exact q H'
 obtain⟨x1,x2,x3,x4,x5,x6,x7,x8,x9,x10,x11,x12,rfl,Si,Li⟩:=z;have hi':i<5:=Be hi j16;refine⟨_,rfl,_,rfl,a,ns,0+(i:Int),rfl,SqL.smb gT0 hS Si,by lia,by lia,fun l H1 S1 nl0 ds=>?_⟩;refine⟨_,rfl,l,12,60,rfl,ds,by decide,by decide,by decide,fun W ws H4 D14 gWa hw h12 hsum=>?_⟩;have gW:=aH l _ _ _ gWa;have el:=aw ws;have w8:=hw.n8;refine⟨_,rfl,W,rfl,⟨_,SqL.of gW⟩,?_⟩;refine cf (K:=K) (a:=W) (xs:=aj ws) (fun k ys H'=>Fo H4 H'/\ys.length<=k/\Mks H' ys (ws.take k)) ⟨Fo.refl _,AH _,.nil⟩ (fun k ys H' hk z=>z.2.1) (av (by lia)) (fun k ys H' hk z=>SqL.of (z.1 _ _ gW)) (fun k v ys H' hv z=>?_) (fun ys H' z M hM=>?_)
 ·obtain⟨z1,z2,z3⟩:=z;have hk:k<(aj ws).length:=(Bc.mp hv).1;obtain⟨u,eu,rfl⟩:=jB hv;have hm:=Bg eu;have h40:=hw.l40 _ hm;refine⟨_,rfl,txt u,rfl,(by show u.length<=1000;lia),fun c hc=>(hw.lr _ hm c hc).lt,fun r H2 S2 h2=>Nx.mk hk ⟨z1.trans S2,by rw[AK];exact Ff z2,?_⟩⟩;rw[dM eu];refine Paired.snoc (rf S2 z3) ?_;rw[<- lB u];exact h2
 obtain⟨z1,z2,z3⟩:=z;rw[el,Bw] at z3;have DM:=Dr.of_same D14.ds (z1.trans (af hM (.lst ys)));have D4:=D14.trans DM;have s5:Sx l T Hi W M ws ys (upd H' M (.lst ys)):=⟨sJ (SmB.of S1) nl0 D4,D4.ds,Gb.dr (Li.same S1) ds D4,DM.same _ _ gWa,bG (Dr.of_same D14.ds z1).ds hM _,rf (af hM (.lst ys)).hid (Mks.hid (Dr.of_same D14.ds z1).ds z3)⟩
 generalize upd H' M (.lst ys)=H5 at s5 ⊢;clear z1 z2 z3 hM DM D4 gW gWa D14 ds S1;have h12':∀w∈ws,w.length<=12:=fun w hw'=>by have:=h12 w hw';lia
 have h60:(ws.map List.length).sum<=60:=by
  have e:qq ws=ws.map fun w=>((w.length:Nat):Int):=rfl;rw[e,kH] at hsum;lia
 have WC:Wc ws:=⟨hw,h12',uC hw.l1 h12' (by lia)⟩
 refine⟨_,rfl,M,ys,rfl,.inl (SqL.of s5.m'),fun hd nhd=>?_⟩;have s6:=s5.same nl0 (af nhd (.lst ys));have gh6:hid l (upd H5 hd (.lst ys)) hd=some (.lst ys):=bG s5.ds nhd _;generalize upd H5 hd (.lst ys)=H6 at s6 gh6 ⊢;clear s5 nhd;refine⟨_,rfl,W,ws,40,rfl,s6.w',WC,h60,AH _,fun pd H7 S7 npd gpd=>?_⟩;have s7:=s6.same nl0 S7;have gh7:=(Dr.of_same s6.ds S7).same _ _ gh6;have gp7:hid l H7 pd=some (.lst ((List.range 41).map fun i=>V.int ((cT ws i:Nat):Int))):=by rw[cm (EZ (s6.ds.ne npd))];exact gpd
 clear gh6 gpd npd S7 s6;refine⟨fun v H'=>Sx l T Hi W M ws ys H'/\hid l H' hd=some (.lst ys)/\hid l H' pd=some (.lst ((List.range 41).map fun i=>V.int ((cT ws i:Nat):Int)))/\Pr2 l ws v H',?_,?_⟩
 ·obtain⟨ps7,hT7,_⟩:=id s7.lt.ex;refine⟨_,rfl,M,ys,rfl,.inl (SqL.of s7.m'),fun c1 n1=>?_⟩;have T1:=af n1 (.lst ys);have s8:=s7.same nl0 T1;have up:∀{H':Hp}{b:Addr}{zs:List V},SmB T (upd H7 c1 (.lst ys)) H'->hid l H7 b=some (.lst zs)->hid l H' b=some (.lst zs):=fun {H' b zs} S h=>by
   have n:=sF h;rw[cm n] at h ⊢;exact ua (T1 _ _ hT7) S (T1 _ _ h)
  refine⟨c1,ys,ws,rfl,ae,s8.mk',hw,s8.lt,fun dn H' dj S' lt'=>⟨s8.smb S' lt',up S' gh7,up S' gp7,.inl ⟨rfl,dj.closed.ud (va hw)⟩⟩,fun fa la lb a b dn E f H' dj hf hm h2 hlt g1 g2 g3 S' lt'=>?_⟩;have s9:=s8.smb S' lt';have tw:=Tw.of dj hf hm.2 h2;refine⟨s9,up S' gh7,up S' gp7,.inr ⟨fa,la,lb,a,b,rfl,?_,?_,tw⟩⟩
  ·obtain⟨x,y,z,e9,dok⟩:=id s9.ds;rw[cm (bD g1 e9 (fun z=>by cases z))];exact g1
  ·have na:la≠l:=fun z=>by
    obtain⟨x,y,c,e9,dok⟩:=id s9.ds;rw[z,e9] at g2;have g2:[V.int x,V.int y,V.int c]=iv a:=by injection (EM g2)
    have hc:V.int c∈iv a:=by rw[<- g2];simp
    obtain⟨j,hj,ej⟩:=AJ.mp hc;obtain⟨i,hi,rfl⟩:=AJ.mp hj;have ec:((i:Nat):Int)=c:=by injection ej
    have:=tw.ha i hi;have:=dok.2.2.1;lia
   rw[cm na];exact g2
 rintro vp H8 ⟨s8,gh8,gp8,pr8⟩;clear gh7 gp7 s7;refine⟨_,rfl,l,10,rfl,s8.ds,by decide,by decide,fun r1 Hg a0 a1 dg=>⟨_,rfl,l,41,rfl,dg.ds,by decide,by decide,fun r2 Hh b0 b1 dh=>⟨av (by show 4<=1000000;decide),fun Lp nLp=>⟨Lp,rfl,⟨_,SqL.of ae⟩,?_⟩⟩⟩⟩;have d9:=(dg.trans dh).trans (Dr.of_same dh.ds (af nLp (.lst [.int 0,.int r1,.int r2,.int 40])));have gL:upd Hh Lp (.lst [.int 0,.int r1,.int r2,.int 40]) Lp=some (.lst [.int 0,.int r1,.int r2,.int 40]):=ae;have s9:=s8.dr nl0 d9;have gh9:=d9.same _ _ gh8;have gp9:=d9.same _ _ gp8;have pr9:=pr8.dr d9;generalize upd Hh Lp (.lst [.int 0,.int r1,.int r2,.int 40])=H9 at gL s9 gh9 gp9 pr9 ⊢;clear d9 dg dh s8 gh8 gp8 pr8 nLp;refine eU (K:=K) (a:=Lp) (xs:=[.int 0,.int r1,.int r2,.int 40]) (fun j σ H'=>∃e8 e9 e10 e11 e12,σ=[some (.ref a),some (.int (0+(i:Int))),some (.ref l),some (.ref W),some (.ref M),some (.ref hd),some (.ref pd),some vp,e8,e9,e10,e11,e12]/\Fo H9 H') ⟨_,_,_,_,_,rfl,Fo.refl _⟩ (fun j σ H' hj z=>?_) (fun j v σ H' hv z=>?_) (fun σ H' z=>?_)
 ·obtain⟨_,_,_,_,_,_,z1⟩:=z;exact SqL.of (z1 _ _ gL)
 ·obtain⟨e8,e9,e10,e11,e12,rfl,z1⟩:=z;obtain⟨n,rfl,hn⟩:∃n:Nat,v=.int (n:Int)/\n<=40:=by
   have hm:=Bg hv;simp only[AN,Bt,or_false] at hm;rcases hm with rfl|rfl|rfl|rfl
   ·exact⟨0,rfl,by lia⟩
   ·exact⟨r1.toNat,by rw[Fm a0],by lia⟩
   ·exact⟨r2.toNat,by rw[Fm b0],by lia⟩
   ·exact⟨40,rfl,by lia⟩
  have ghr:=aH l _ _ _ gh9;refine⟨_,rfl,_,rfl,hd,ys,ws,n,rfl,z1 _ _ ghr,rf z1 s9.mk',WC,hn,fun Ha Sa=>?_⟩;have T1:=z1.trans Sa;refine⟨_,rfl,_,rfl,hd,ys,ws,n,rfl,T1 _ _ ghr,rf T1 s9.mk',hw,by lia,fun Hb Sb=>?_⟩;have T2:=T1.trans Sb;clear T1 Sa Sb z1;refine⟨_,rfl,_,rfl,.int _,true,rfl,?_⟩;refine⟨_,rfl,_,rfl,_,rfl,pd,_,_,_,rfl,rfl,SqL.of (T2 _ _ (aH l _ _ _ gp9)),bh (j:=n) (by rw[AW,Dg (by lia)];rfl),rfl,false,?_,?_⟩
  ·show V.bl (!decide (V.int ((cT ws n:Nat):Int)=V.int ((cT ws n:Nat):Int)))=_;rw[EG rfl];rfl
  refine⟨_,rfl,_,rfl,.list ((ws.map wt).map Tb.dat),.list ((ws.map wt).map Tb.dat),.lst (SqL.of (T2 _ _ ghr)) (jH (rf T2 s9.mk')),.lst (SqL.of (T2 _ _ s9.m')) (jH (rf T2 s9.mk')),gG _,gG _,lS _,false,uo _,?_⟩;refine⟨_,rfl,_,rfl,_,_,rfl,rfl,false,?_,?_⟩
  ·show V.bl (decide ((cL ws n).getD n 0<((cT ws n:Nat):Int)))=_;rw[EH (by have:=tR hw n;lia)]
  rcases pr9 with ⟨rfl,ud⟩|⟨fa,la,lb,b1,b2,rfl,_⟩
  ·refine⟨_,rfl,rfl,true,rfl,_,rfl,_,rfl,rfl,false,?_,?_⟩
   ·show V.bl (!decide (V.int ((cT ws n:Nat):Int)=V.int ((cL ws n).getD n 0)))=_;rw[qc hw ud n,EG rfl];rfl
   exact⟨_,_,_,_,_,rfl,T2⟩
  ·refine⟨_,rfl,rfl,false,rfl,?_⟩;exact⟨_,_,_,_,_,rfl,T2⟩
 obtain⟨e8,e9,e10,e11,e12,rfl,z1⟩:=z;have s10:=s9.same nl0 z1;have gh10:=(Dr.of_same s9.ds z1).same _ _ gh9;have pr10:=pr9.dr (Dr.of_same s9.ds z1);clear s9 gh9 pr9 gp9 gL z1;refine⟨av (by show 1<=1000000;decide),fun T0 nT0=>?_⟩;have d11:=Dr.new s10.ds nT0 (.lst [.str ""]);have gT0:=bG s10.ds nT0 (.lst [.str ""]);have s11:=s10.dr nl0 d11;have gh11:=d11.same _ _ gh10;have pr11:=pr10.dr d11;generalize upd H' T0 (.lst [.str ""])=H11 at d11 gT0 s11 gh11 pr11 ⊢;clear d11 s10 gh10 pr10 nT0;refine⟨_,rfl,l,10,rfl,s11.ds,by decide,by decide,fun r3 H12 c0 c1 d12=>?_⟩;have s12:=s11.dr nl0 d12;have gh12:=d12.same _ _ gh11;have pr12:=pr11.dr d12;have gT12:=aH l _ _ _ (d12.same _ _ gT0);clear d12 s11 gh11 pr11 gT0;refine⟨_,rfl,by lia,by lia,?_⟩;have lt9:∀n,n<=9->(FI n).length<=512:=fun n hn=>by
  rw[Gg];exact Dq (by decide:0<2) hn
 refine bZ (lo:=0) (n:=r3.toNat) (fun j σ H'=>∃e8 X e12,σ=[some (.ref a),some (.int (0+(i:Int))),some (.ref l),some (.ref W),some (.ref M),some (.ref hd),some (.ref pd),some vp,e8,e9,e10,some (.ref X),e12]/\Fo H12 H'/\H' X=some (.lst (aj (FI j)))) ⟨_,T0,_,rfl,Fo.refl _,gT12⟩ (fun j σ H' hj z=>?_) (fun σ H' z=>?_)
 ·obtain⟨e8,X,e12,rfl,z1,gX⟩:=z;have l9:=lt9 j (by lia);have l10:=lt9 (j+1) (by lia);have m9:=FL j;refine⟨_,rfl,X,rfl,⟨_,SqL.of gX⟩,kX (c:=108) (by decide +kernel) gX (by lia) (fun x hx=>by rw[(m9 x hx).1];lia) fun l1 n1=>?_⟩;have U1:=af n1 (.lst (aj ((FI j).map fun x=>x++[108])));have g1:upd H' l1 (.lst (aj ((FI j).map fun x=>x++[108]))) l1=some (.lst (aj ((FI j).map fun x=>x++[108]))):=ae;have gX7:=U1 _ _ gX;generalize upd H' l1 (.lst (aj ((FI j).map fun x=>x++[108])))=Hc at U1 g1 gX7 ⊢;refine⟨_,rfl,X,rfl,⟨_,SqL.of gX7⟩,kX (c:=114) (by decide +kernel) gX7 (by lia) (fun x hx=>by rw[(m9 x hx).1];lia) fun l2 n2=>?_⟩;have U2:=af n2 (.lst (aj ((FI j).map fun x=>x++[114])));have g2:upd Hc l2 (.lst (aj ((FI j).map fun x=>x++[114]))) l2=some (.lst (aj ((FI j).map fun x=>x++[114]))):=ae;have g1':=U2 _ _ g1;generalize upd Hc l2 (.lst (aj ((FI j).map fun x=>x++[114])))=Hd at U2 g2 g1' ⊢;have e1:((FI j).map (fun x=>x++[108])).length=(FI j).length:=AI _;have e2:((FI j).map (fun x=>x++[114])).length=(FI j).length:=AI _;refine⟨l1,l2,_,_,rfl,rfl,g1',g2,av (by rw[aw,aw,e1,e2];lia),fun X1 nX1=>?_⟩;exact⟨_,X1,_,rfl,z1.trans (U1.trans (U2.trans (af nX1 _))),by rw[ae,cB];rfl⟩
 obtain⟨e8,X,e12,rfl,z1,gX⟩:=z;have l9:=lt9 r3.toNat (by lia);have s13:=s12.same nl0 z1;have gh13:=(Dr.of_same s12.ds z1).same _ _ gh12;have pr13:=pr12.dr (Dr.of_same s12.ds z1);have m9:=FL r3.toNat;obtain⟨m,em,hm⟩:∃m:Nat,r3.toNat=m/\m<=9:=⟨_,rfl,by lia⟩
 rw[em] at gX m9 l9;clear s12 gh12 pr12 z1 gT12;refine⟨_,rfl,X,rfl,⟨_,SqL.of gX⟩,?_⟩;refine cf (K:=K) (a:=X) (xs:=aj (FI m)) (fun k zs H2=>Fo H' H2/\zs=aj (((FI m).take k).filter fun x=>decide (0<Wn ws x))) ⟨Fo.refl _,rfl⟩ (fun k zs H2 hk z=>by rw[z.2,aw];exact AX (Ce _ _) (by rw[AZ];exact CA _ _)) (av (by rw[aw];lia)) (fun k zs H2 hk z=>SqL.of (z.1 _ _ gX)) (fun k v zs H2 hv z=>?_) (fun zs H2 z L0 nL0=>?_)
 ·obtain⟨y1,rfl⟩:=z;have hk:k<(aj (FI m)).length:=(Bc.mp hv).1;obtain⟨x,ex,rfl⟩:=jB hv;have lx:=(m9 x (Bg ex)).1;refine⟨_,rfl,_,rfl,W,ws,x,rfl,y1 _ _ s13.w',hw.ok,by lia,fun pp vs H10 S10 npp gpp cns=>?_⟩;obtain⟨ca,ec,gc⟩:=cns.at (i:=x.length) (by rw[bK];lia);have lv:vs.length=x.length+1:=by rw[Paired.length cns,bK]
  refine⟨1,rfl,pp,vs,-1,.ref ca,rfl,rfl,SqL.of gpp,tJ lv ec,ca,_,1,_,rfl,rfl,SqT.of gc,rfl,_,_,rfl,rfl,decide (0<Wn ws x),?_,?_⟩
  ·show V.bl (decide (0<((bU ws x x.length).getD x.length (none,0)).2))=_;rw[<- tU];rfl
  cases h0:decide (0<Wn ws x) with
  |true=>
   refine⟨_,rfl,Nx.mk hk ⟨y1.trans S10,?_⟩⟩;rw[dM ex,BR,Bs,h0,EF rfl,DC];exact cB _ [x]
  |false=>
   refine Nx.mk (i:=k) (n:=(aj (FI m)).length) (P:=fun k zs H2=>Fo H' H2/\zs=aj (((FI m).take k).filter fun x=>decide (0<Wn ws x))) hk ⟨y1.trans S10,?_⟩;rw[dM ex,BR,Bs,h0,EE (by decide),DC,Bp]
 obtain⟨y1,rfl⟩:=z;rw[aw,Bw];have lmade:=rV hw m;generalize (FI m).filter (fun x=>decide (0<Wn ws x))=md at lmade ⊢;have S14:=y1.trans (af nL0 (.lst (aj md)));have gmd:upd H2 L0 (.lst (aj md)) L0=some (.lst (aj md)):=ae;generalize upd H2 L0 (.lst (aj md))=H14 at S14 gmd ⊢;have s14:=s13.same nl0 S14;have gh14:=aH l _ _ _ ((Dr.of_same s13.ds S14).same _ _ gh13);have pr14:=pr13.dr (Dr.of_same s13.ds S14);have gX14:=S14 _ _ gX;clear S14 y1 nL0 s13 gh13 pr13 gX;obtain⟨x0,ex0,lx0⟩:∃x0,(FI m)[0]?=some x0/\x0.length=m:=by
  have:0<(FI m).length:=by rw[Gg];exact Nat.pow_pos (by decide)
  exact⟨_,AL this,(m9 _ (Bq this)).1⟩
 have lz0:(txt x0).length=m:=by show x0.toArray.size=_;simp[lx0]
 refine⟨_,rfl,L0,_,rfl,.inl (SqL.of gmd),_,rfl,_,rfl,X,_,0,.str (txt x0),rfl,rfl,SqL.of gX14,bh (j:=0) (by rw[AW,ex0];rfl),txt x0,rfl,av (by rw[lz0];lia),hd,ys,ws,m,by rw[lz0];rfl,gh14,s14.mk',WC,by lia,fun Ha Sa=>⟨rfl,false,?_,?_⟩⟩
 ·show V.bl (!decide (V.int (((aj md).length:Nat):Int)=V.int ((cT ws m:Nat):Int)))=_;rw[aw,lmade,EG rfl];rfl
 have s15:=s14.same nl0 Sa;have gh15:=Sa _ _ gh14;have pr15:=pr14.dr (Dr.of_same s14.ds Sa);clear s14 gh14 pr14 Sa gX14 gmd;rcases pr15 with ⟨rfl,ud⟩|⟨fa,la,lb,b1,b2,rfl,g1,g2,tw⟩
 ·refine⟨_,rfl,rfl,false,rfl,?_⟩;exact⟨_,_,_,_,_,_,_,_,_,_,_,_,rfl,Si.trans s15.fi,s15.lt⟩
 ·refine⟨_,rfl,rfl,true,rfl,?_⟩;have few:=tw.few;have al:=cZ hw.l1 b1 tw.ha;refine⟨_,rfl,fa,_,0,_,rfl,rfl,SqT.of (aH l _ _ _ g1),rfl,la,rfl,⟨_,SqL.of (aH l _ _ _ g2)⟩,rH rfl (aH l _ _ _ g2) s15.w' hw.l40 tw.ha (by lia) fun q1 nq=>?_⟩;refine⟨q1,_,rfl,SqL.of ae,?_⟩;rw[km];have S16:=af nq (.lst ((b1.map fun k=>(((ws.getD k []).length:Nat):Int)).map V.int));have s16:=s15.same nl0 S16;have gh16:=S16 _ _ gh15;generalize upd Ha q1 (.lst ((b1.map fun k=>(((ws.getD k []).length:Nat):Int)).map V.int))=H16 at s16 gh16 ⊢;clear S16 s15 gh15 g1 g2;have less:=tL hw tw.ha tw.hb tw.ne tw.eq;generalize (bA ws b1).length=n at less few ⊢;refine⟨_,rfl,_,_,rfl,rfl,decide (n<=40),?_,?_⟩
  ·show V.bl (decide (((n:Nat):Int)<=40))=_
   congr 1
   exact decide_eq_decide.mpr (by lia)
  cases h0:decide (n<=40) with
  |false=>exact⟨_,_,_,_,_,_,_,_,_,_,_,_,rfl,Si.trans s16.fi,s16.lt⟩
  |true=>
   have n40:=EK h0;refine⟨_,rfl,_,rfl,hd,ys,ws,n,rfl,gh16,s16.mk',WC,n40,fun Hb Sb=>?_⟩;refine⟨_,rfl,_,rfl,hd,ys,ws,n,rfl,Sb _ _ gh16,rf Sb s16.mk',hw,by lia,fun Hc Sc=>?_⟩;have s17:=s16.same nl0 (Sb.trans Sc);refine⟨_,_,rfl,rfl,false,?_,?_⟩
   ·show V.bl (decide ((cL ws n).getD n 0<=((cT ws n:Nat):Int)))=_;rw[EH (by lia)]
   exact⟨_,_,_,_,_,_,_,_,_,_,_,_,rfl,Si.trans s17.fi,s17.lt⟩
end
theorem lF{us:List Value}(h:us.length=1):∃a,us=[a]:=match us,h with|[a],_=>⟨a,rfl⟩
theorem my{us:List Value}(h:us.length=2):∃a b,us=[a,b]:=match us,h with|[a,b],_=>⟨a,b,rfl⟩
theorem xh{us:List Value}(h:us.length=3):∃a b c,us=[a,b,c]:=match us,h with|[a,b,c],_=>⟨a,b,c,rfl⟩
def FIn (K:W.Frag)(fn:Str)(st:Stmt):Prop:=∃(f:Addr)(oc:Value)(od an:Option Addr)(sl:Array (Option Value))(kV dc pm cd ct:Value),W.nsIn K mainGlobals fn=some (some (.ref f))/\K.lookup f=some ⟨oc,od,.func (W.fnOf fn fn (bO st) (bw st) (ar st) .none kV dc pm an cd ct),sl⟩/\W.codeIn K cd fn=true/\W.keepIn K (.ref f)=true
theorem FIn.of{K:W.Frag}{fn:Str}{st:Stmt}{f:Addr}{oc:Value}{od an:Option Addr}{sl:Array (Option Value)}{kV dc pm cd ct:Value}(a:W.nsIn K mainGlobals fn=some (some (.ref f)))(l:K.lookup f=some ⟨oc,od,.func (W.fnOf fn fn (bO st) (bw st) (ar st) .none kV dc pm an cd ct),sl⟩)(c:W.codeIn K cd fn=true)(k:W.keepIn K (.ref f)=true):FIn K fn st:=⟨f,oc,od,an,sl,kV,dc,pm,cd,ct,a,l,c,k⟩
theorem FIn.dd{K:W.Frag}{fn:Str}{st:Stmt}{h:Heap}{mg:Str->Option Value}(a:FIn K fn st)(X:K.In h)(G:h.Ns mainGlobals mg){ps:List Str}(hb:∀(kV doc pm:Value)(an:Option Addr)(cdv ct:Value)(us:List Value),us.length=ps.length->bindArgs (W.fnOf fn fn (bO st) (bw st) (ar st) .none kV doc pm an cdv ct) ⟨us,[]⟩=pure (ps.zip us)):∃d:DD,Def K mg fn st ps d:=by
 obtain⟨f,oc,od,an,sl,kV,dc,pm,cd,ct,a,l,c,k⟩:=a;have F:=nI (st:=st) l c k;exact⟨⟨f,_⟩,F,EV X G a,F.binds (ps:=ps) hb⟩
theorem all_mk{l:W.OpenLaw}{w:World}{K:W.Frag}{h:Heap}{mg:Str->Option Value}{fa:Addr}(X:K.In h)(G:h.Ns mainGlobals mg)(hfa:mg "law"=some (.ref fa))
  (zu:FIn K "is_whole" (top 6))
  (Ai:FIn K "_law_whole" (top 43))
  (Ag:FIn K "is_table" (top 7))
  (zv:FIn K "worth" (top 8))
  (zt:FIn K "_law_times" (top 40))
  (zH:FIn K "_law_made" (top 41))
  (Am:FIn K "_law_of_letters" (top 42))
  (zG:FIn K "_law_draw" (top 37))
  (zp:FIn K "_law_draws" (top 36))
  (zr:FIn K "is_plain" (top 10))
  (a_ww:FIn K "word_within" (top 11))
  (Ak:FIn K "maker_word" (top 15))
  (Aj:FIn K "maker_words" (top 16))
  (zq:FIn K "_law_piece" (top 38))
  (a_sm:FIn K "_law_short_makers" (top 39))
  (Ad:FIn K "check_letters" (top 21))
  (Ae:FIn K "count_of_rows" (top 22))
  (a_rb:FIn K "rests_behind" (top 23))
  (a_nc:FIn K "next_counts" (top 24))
  (Af:FIn K "count_of_tables" (top 25))
  (a_fp:FIn K "first_pairs" (top 27))
  (Ap:FIn K "words_within" (top 28))
  (Ao:FIn K "words_beyond" (top 29))
  (a_fs:FIn K "first_steps" (top 30))
  (a_ns:FIn K "next_steps" (top 31))
  (a_ks:FIn K "keep_shorter" (top 32))
  {f_to:Addr}{od_to an_to:Option Addr}{sl_to:Array (Option Value)}{oc_to kV_to dc_to pm_to cd_to ct_to:Value}
  (a_to:W.nsIn K mainGlobals "twins_of"=some (some (.ref f_to)))(l_to:K.lookup f_to=some ⟨oc_to,od_to,.func (W.fnOf "twins_of" "twins_of" (bO (top 33)) (bw (top 33)) (ar (top 33)) .none kV_to dc_to pm_to an_to cd_to ct_to),sl_to⟩)(c_to:W.codeIn K cd_to "twins_of"=true)(k_to:W.keepIn K (.ref f_to)=true)
  (An:FIn K "twins" (top 34))
  (Ah:FIn K "_law_counts" (top 44))
  (a_td:FIn K "_law_tables_due" (top 45))
  {f_law:Addr}{od_law an_law:Option Addr}{sl_law:Array (Option Value)}{oc_law kV_law dc_law pm_law cd_law ct_law:Value}
  (zU:W.nsIn K mainGlobals "law"=some (some (.ref f_law)))(l_law:K.lookup f_law=some ⟨oc_law,od_law,.func (W.fnOf "law" "law" (bO (top 46)) (bw (top 46)) (ar (top 46)) .none kV_law dc_law pm_law an_law cd_law ct_law),sl_law⟩)(c_law:W.codeIn K cd_law "law"=true)(k_law:W.keepIn K (.ref f_law)=true)
  {one:Addr}(Aw:W.nsIn K mainGlobals "ONE"=some (some (.ref one)))
  {odo_ONE:Option Addr}{ito_ONE:Array Value}{no_ONE:Nat}{slo_ONE:Array (Option Value)}(l_ONE:K.lookup one=some ⟨.type "tuple",odo_ONE,.seq ito_ONE no_ONE,slo_ONE⟩)(z_ONE:ito_ONE.size<=sizeLine)(v_ONE:Vals Tb.one.vs ito_ONE.toList)
  {t_LM:Tok}(e_LM:W.nsIn K mainGlobals "LONGEST_MAKER"=some (some (.int 40 t_LM)))
  {t_MM:Tok}(e_MM:W.nsIn K mainGlobals "MOST_MAKERS"=some (some (.int 8 t_MM)))
  {t_ML:Tok}(e_ML:W.nsIn K mainGlobals "MOST_LETTERS_OF_ROWS"=some (some (.int 400 t_ML)))
  {t_MT:Tok}(e_MT:W.nsIn K mainGlobals "MOST_LETTERS_OF_TABLES"=some (some (.int 40 t_MT)))
  {t_LC:Tok}(e_LC:W.nsIn K mainGlobals "LONGEST_COUNTED_MAKER"=some (some (.int 12 t_LC)))
  {cdA tA bmA:Addr}{obm:Obj}(ec:cd_to=.ref cdA)(hdA:∀h:Heap,K.In h->W.CodeHd h cdA tA)(neA:mainGlobals≠tA)(e_BI:W.nsIn K mainGlobals "__builtins__"=some (some (.ref bmA)))(l_BI:K.lookup bmA=some obm)(p_BI:bmA≠builtinsNs/\bmA≠mainGlobals/\bmA≠tA/\obm.cls=.type "module"/\obm.dict=some builtinsNs/\obm.data=.plain)
  (Az:W.nsIn K mainGlobals "int"=some none)   (zI:W.nsIn K mainGlobals "bool"=some none)   (yR:W.nsIn K mainGlobals "isinstance"=some none)   (zy:W.nsIn K mainGlobals "tuple"=some none)   (zJ:W.nsIn K mainGlobals "list"=some none)   (AD:W.nsIn K mainGlobals "str"=some none)   (AA:W.nsIn K mainGlobals "len"=some none)   (Ax:W.nsIn K mainGlobals "all"=some none)   (Ay:W.nsIn K mainGlobals "any"=some none)   (zx:W.nsIn K mainGlobals "range"=some none)   (AB:W.nsIn K mainGlobals "max"=some none)   (AC:W.nsIn K mainGlobals "min"=some none)   (AE:W.nsIn K mainGlobals "sum"=some none)   (yT:W.nsIn K mainGlobals "enumerate"=some none)   (zf:W.nsIn K mainGlobals "sorted"=some none) :
  ∃fd:FuncData,(∀(s:Shared)(v:Value),BindsTo s fd ⟨[v],[]⟩ [("script",v)])/\∀base:Heap,K.In base->base.Ns mainGlobals mg->Fx l.prog w K mg base CX0 8 fa fd ["script"] (rY tA K):=by
 have e:=hfa.symm.trans (EV X G zU);cases e;have yV:=EW X G Az;have yY:=EW X G zI;have yI:=EW X G yR;have yO:=EW X G zy;have yP:=EW X G zJ;have b_str:=EW X G AD;have yK:=EW X G AA;have Aq:=EW X G Ax;have Au:=EW X G Ay;have yJ:=EW X G zx;have Av:=EW X G AB;have yW:=EW X G AC;have yQ:=EW X G AE;have yN:=EW X G yT;have yS:=EW X G zf;obtain ⟨d_whole,yU⟩ :=zu.dd X G (ps:=["thing"]) (by walk_at "u");obtain ⟨d_lwh,zM⟩ :=Ai.dd X G (ps:=["found"]) (by walk_at "u");obtain ⟨d_ist,zK⟩ :=Ag.dd X G (ps:=["thing"]) (by walk_at "u");obtain ⟨d_worth,zd⟩ :=zv.dd X G (ps:=["table"]) (by walk_at "u");obtain ⟨d_times,zc⟩ :=zt.dd X G (ps:=["one","other"]) (by walk_at "u");obtain ⟨d_made,zA⟩ :=zH.dd X G (ps:=["tables"]) (by walk_at "u");obtain ⟨d_ofl,zO⟩ :=Am.dd X G (ps:=["word"]) (by walk_at "u");obtain ⟨d_draw,yL⟩ :=zG.dd X G (ps:=["draws","many"]) (by walk_at "u");obtain ⟨d_draws,yZ⟩ :=zp.dd X G (ps:=["script","k"]) (by walk_at "u");obtain ⟨d_plain,zb⟩ :=zr.dd X G (ps:=["table"]) (by walk_at "u");obtain ⟨d_ww,D_ww⟩ :=a_ww.dd X G (ps:=["table","most"]) (by walk_at "u");obtain ⟨d_mkw,zN⟩ :=Ak.dd X G (ps:=["maker"]) (by walk_at "u");obtain ⟨d_mks,yX⟩ :=Aj.dd X G (ps:=["makers"]) (by walk_at "u");obtain ⟨d_piece,za⟩ :=zq.dd X G (ps:=["draws","most"]) (by walk_at "u");obtain ⟨d_sm,Ls⟩ :=a_sm.dd X G (ps:=["draws","most","together"]) (by walk_at "u");obtain ⟨d_chk,zg⟩ :=Ad.dd X G (ps:=["n","most"]) (by walk_at "u");obtain ⟨d_cor,zD⟩ :=Ae.dd X G (ps:=["makers","n"]) (by walk_at "u");obtain ⟨d_rb,D_rb⟩ :=a_rb.dd X G (ps:=["words","rests","letter"]) (by walk_at "u");obtain ⟨d_nc,D_nc⟩ :=a_nc.dd X G (ps:=["words","counts"]) (by walk_at "u");obtain ⟨d_cot,zB⟩ :=Af.dd X G (ps:=["makers","n"]) (by walk_at "u");obtain ⟨d_fp,D_fp⟩ :=a_fp.dd X G (ps:=["words"]) (by walk_at "u");obtain ⟨d_win,zR⟩ :=Ap.dd X G (ps:=["words","text"]) (by walk_at "u");obtain ⟨d_wbe,zQ⟩ :=Ao.dd X G (ps:=["words","text"]) (by walk_at "u");obtain ⟨d_fs,D_fs⟩ :=a_fs.dd X G (ps:=["words"]) (by walk_at "u");obtain ⟨d_ns,D_ns⟩ :=a_ns.dd X G (ps:=["words","left","found"]) (by walk_at "u");obtain ⟨d_ks,D_ks⟩ :=a_ks.dd X G (ps:=["waiting","done","steps"]) (by walk_at "u")
 have F_to:=nI (st:=top 33) l_to c_to k_to;have D_to:Def K mg "twins_of" (top 33) ["words"] ⟨f_to,_⟩ :=⟨F_to,EV X G a_to,F_to.binds (ps:=["words"]) fun _ _ _ _ _ _ us hl=>by obtain ⟨_,rfl⟩ :=lF hl;rfl⟩
 obtain ⟨d_twn,zP⟩ :=An.dd X G (ps:=["makers"]) (by walk_at "u");obtain ⟨d_lcn,zL⟩ :=Ah.dd X G (ps:=["words","text"]) (by walk_at "u");obtain ⟨d_td,Lm⟩ :=a_td.dd X G (ps:=["words","most"]) (by walk_at "u");have F_law:=nI (st:=top 46) l_law c_law k_law;have AF:Def K mg "law" (top 46) ["script"] ⟨fa,_⟩ :=⟨F_law,EV X G zU,F_law.binds (ps:=["script"]) fun _ _ _ _ _ _ us hl=>by obtain ⟨_,rfl⟩ :=lF hl;rfl⟩
 have kO:∀H,SqT K H one Tb.one.vs:=fun H=>.inr ⟨_,ito_ONE,no_ONE,l_ONE,rfl,rfl,z_ONE,v_ONE⟩;have mO:=EV X G Aw;have LK:Ll K mg cdA tA:=⟨hdA,fun h KX=>⟨bmA,obm,EV X G e_BI,p_BI.1,p_BI.2.1,p_BI.2.2.1,KX _ _ l_BI,p_BI.2.2.2⟩,neA⟩
 refine⟨W.fnOf "law" "law" (bO (top 46)) (bw (top 46)) (ar (top 46)) .none kV_law dc_law pm_law an_law cd_law ct_law,fun s v=>.of_eq rfl,fun base _ _=>?_⟩;have zl:=rZ (P:=l.prog) (w:=w) (base:=base) yU yV yY yI;have zX:=mU (P:=l.prog) (w:=w) (base:=base) zM yV yY yI;have zV:=wq ⟨yU,zl⟩ zK yO yK Aq yI;have zo:=rR (P:=l.prog) (w:=w) (base:=base) zd;have zk:=rE (P:=l.prog) (w:=w) (base:=base) zc yJ yO;have zF:=qF ⟨zc,zk⟩ zA;have zZ:=wo ⟨zA,zF⟩ zO;have yM:=uh (P:=l.prog) (w:=w) (base:=base) yL;have zh:=rW (P:=l.prog) (w:=w) (base:=base) yZ yK yV;have zj:=qW ⟨zK,zV⟩  ⟨zd,zo⟩ zb yW;have G_ww:=xJ (P:=l.prog) (w:=w) (base:=base) mO kO D_ww yK;have zY:=vW (EV X G e_LM) ⟨zb,zj⟩  ⟨D_ww,G_ww⟩ zN;have ze:=wm (EV X G e_MM) ⟨zN,zY⟩ yX yI yP yK;have zi:=sd ⟨yL,yM⟩ za yJ;have LI:=yk ⟨yL,yM⟩  ⟨za,zi⟩ Ls yJ yK yQ;have zC:=wY (P:=l.prog) (w:=w) (base:=base) zg;have zS:=wA (EV X G e_ML) ⟨yX,ze⟩  ⟨zg,zC⟩ zD yJ yK yQ;have G_rb:=yh (P:=l.prog) (w:=w) (base:=base) D_rb yP yO yS;have G_nc:=xB ⟨D_rb,G_rb⟩ D_nc;have zE:=wG (EV X G e_MT) (EV X G e_LC) ⟨yX,ze⟩  ⟨zg,zC⟩  ⟨D_nc,G_nc⟩ zB yJ yK yQ Au;have G_fp:=yn (P:=l.prog) (w:=w) (base:=base) D_fp yK yJ;have Ac:=wu (P:=l.prog) (w:=w) (base:=base) zR yN;have Ab:=wF (P:=l.prog) (w:=w) (base:=base) zQ yN;have G_fs:=xA ⟨D_fp,G_fp⟩ D_fs yK;have G_ns:=xT ⟨zR,Ac⟩  ⟨zQ,Ab⟩ D_ns yK;have G_ks:=yz (P:=l.prog) (w:=w) (base:=base) D_ks;have G_to:=yw LK ec ⟨D_fs,G_fs⟩  ⟨D_ks,G_ks⟩  ⟨D_ns,G_ns⟩ D_to yW;have Aa:=vS ⟨yX,ze⟩  ⟨D_to,G_to⟩ zP;have zW:=vA (P:=l.prog) (w:=w) (base:=base) zL yJ yK yW yQ;have Ly:=xD (P:=l.prog) (w:=w) (base:=base) Lm yJ yK yQ yP yO yS yV;have Al:All tA l.prog w K mg base ⟨d_draws,d_draw,d_sm,d_ofl,d_td,d_twn,d_cot,d_cor,d_lwh,d_lcn⟩:=
  ⟨yZ,yL,Ls,zO,Lm,zP,zB,zD,zM,zL,zh,yM,LI,zZ,Ly,Aa,zE,zS,zX,zW,yJ,Av,yW,yK,yP,yQ⟩
 exact vm Al AF
theorem walk{l:W.OpenLaw}{q:Program}{loose:List Str}{XP:(Str->Option Value)->Heap->Prop}{YP:World->Heap->Prop}{d:DefRec}{K KF:Params->W.Frag}{T c0:Addr}{ps:Array Value}(hn:l.most=some 63)(hdf:d.params.defaults=[])(hps:TriplesOk ps.toList/\codeAmong Im ps.toList=none)
  (hY:∀(w:World)(h:Heap),YP w h->(KF w.params).In h)(hKF:∀(p:Params)(h:Heap),(KF p).In h->(K p).In h/\h.get? T=some (W.tabObj ps)/\W.CodeHd h c0 T)(kT:∀p:Params,(K p).lookup T=none)
  (F:∀(w:World) (mg:Str->Option Value) (fa:Addr) (h:Heap),(K w.params).In h->h.Ns mainGlobals mg->mg d.name=some (.ref fa) ->
   ∃fd:FuncData,(∀(s:Shared) (u:Value),BindsTo s fd ⟨[u],[]⟩ [("script",u)])/\∀base:Heap,(K w.params).In base->base.Ns mainGlobals mg->Fx l.prog w (K w.params) mg base CX0 8 fa fd ["script"] (rY T (K w.params))) :
  W.WalkO q loose XP YP l.row.toRowW d [] (fun f vs=>PySem.call f vs):=
 L2.Jw (n:=63) (k:=8) (x:="script") (CX:=fun _=>CX0) (sp:=fun w=>rY T (K w.params)) hn (by decide) hdf ⟨rfl,by decide,by decide⟩ hY hKF kT F (fun _ _ a ns hl gT hS=>⟨a,ns,rfl,hS,hl,⟨ps,gT,hps.1,.inl hps.2⟩,fun _=>rfl⟩) fun _ _ _ _ _ z=>z
end K3
namespace Hd
open PySem PySem.W PyProof.Rows
noncomputable section
def run (den:Code->Sem Fin)(ok:Nat->Option Value->Thread->Bool)(st:(Code->Sem Fin)->Program->World->SharedT->Thread->Option (SharedT×Thread))(p:Program)(w:World)(m:Nat)(ann:Option Value):Nat->SharedT->Thread->Option SharedT
 |0,_,_=>none
 |n+1,s,t=>match through t with
  |true=>some s
  |false=>match ok m ann t with
   |false=>none
   |true=>match st den p w s t with
    |some r=>run den ok st p w m ann n r.1 r.2
    |none=>none
theorem sS{tb:String->Option Builtin}{p:Program}{w:World}{m:Nat}{ann:Option Value}:∀{n:Nat}{s r:SharedT}{t:Thread},run (denote tb) stepOk stepT p w m ann n s t=some r->topRun tb p w m ann n s.abs t=some r.abs
 |0,_,_,_,h=>by cases h
 |n+1,s,r,t,h=>by
  unfold run at h;unfold topRun;cases ht:through t with
  |true=>rw[ht] at h;cases h;rfl
  |false=>
   rw[ht] at h;cases hk:stepOk m ann t with
   |false=>rw[hk] at h;cases h
   |true=>
    rw[hk] at h;cases hs:stepT (denote tb) p w s t with
    |none=>rw[hs] at h;cases h
    |some r=>rw[hs] at h;rw[stepT_spec hs];exact sS h
def grow:List Obj->Nat->BT->BT
 |[],_,t=>t
 |o::l,n,t=>grow l (n+1) (t.ins n o)
def xN(P:Params):BT:=grow (boot_heap P).objs.toList 0 .nil
abbrev first(w:World)(os:OsState):SharedT:=⟨xN w.params,(boot_heap w.params).objs.size,(boot_heap w.params).life,#[],boot_drawn,boot_toks,os⟩
theorem nH(w:World)(os:OsState):(first w os).abs=⟨boot_heap w.params,#[],boot_drawn,boot_toks,os⟩:=by kernel_rfl
def vK(P:Params):Option Value:=(boot_heap P).nsMap mainGlobals "__annotations__"
def vB(seenF:Program->List Str->List Str->(Shared->Bool)->Bool->Shared->_)(p q:Program)(loose:List Str)(Xt:Shared->Bool)(as:List Addr)(h:Heap)(s:Shared):=
 ((staticsOk (importedModules p.main.body) h s.heap&&namesBound p s.heap&&gensDone s&&laidKept h s.heap),(seenF q loose (importedModules p.main.body) Xt true s:type_of% (openSeen q loose (importedModules p.main.body) Xt true s)),as.map s.heap.get?)
abbrev xf(den:Code->Sem Fin)(ok:Nat->Option Value->Thread->Bool)(st:(Code->Sem Fin)->Program->World->SharedT->Thread->Option (SharedT×Thread))
  (seenF:(q:Program)->(loose mods:List Str)->(Xt:Shared->Bool)->Bool->(s:Shared)->type_of% (openSeen q loose mods Xt true s))(p q:Program)(loose:List Str)(Xt:Shared->Bool)(K:Params->Frag)(as:List Addr)(N:Nat)(w:World):Prop:=
 (fun os=>(run den ok st p w (boot_heap w.params).objs.size (vK w.params) N (first w os) (topStub p)).map fun s=>vB seenF p q loose Xt as (boot_heap w.params) s.abs)=fun _=>some (true,openGood q loose,(K w.params).map fun x=>some x.2)
theorem yi{p q:Program}{loose:List Str}{Xt:Shared->Bool}{K:Params->Frag}{as:List Addr}{N:Nat}(e:opening p=plainProg p.main.scope.names)(hN:Nat.ble 600 N=true)(f:∀s,fenceModules? p s=some s)
  (size:∀P:Params,(boot_heap P).isNs mainGlobals=true)(key:∀w,xf (denote treeTable) stepOk stepT openSeen p q loose Xt K as N w) :
  LeftO p q loose Xt (fun s=>as.map s.heap.get?) (fun w=>(K w.params).map fun x=>some x.2) N true:=fun w=>by
 obtain⟨⟨h,gs,d,k,os⟩,e1,e2⟩:=BH.mp (boot_open (p:=p) (N:=N) e hN f w);obtain⟨rfl,rfl,rfl,rfl⟩:h=boot_heap w.params/\gs=Array.mk []/\d=boot_drawn/\k=boot_toks:=by simpa using e2
 obtain⟨s,r,l⟩:=BH.mp (congrFun (key w) os);have r':=sS r;rw[nH] at r';unfold vB at l;obtain⟨l1,l2,l3⟩:_/\_/\_:=by simpa only [Prod.mk.injEq] using l
 have t:topFrom treeTable p w N ⟨boot_heap w.params,#[],boot_drawn,boot_toks,os⟩=some s.abs:=by
  unfold topFrom;dsimp only;rw[size w.params];show(topRun treeTable p w (boot_heap w.params).objs.size (vK w.params) N _ _).bind _=_;rw[r'];show(match staticsOk (importedModules p.main.body) (boot_heap w.params) s.abs.heap&&namesBound p s.abs.heap&&gensDone s.abs&&laidKept (boot_heap w.params) s.abs.heap with|true=>_|false=>_)=_;rw[l1]
 unfold openEnds;rw[e1];show(topFrom treeTable p w N _).map _=_;rw[t];exact congrArg some (Prod.ext l2 l3)
abbrev en(P:Params)(x:Str)(t:Tok)(v:Value):DictEntry:=⟨PyData.keyHash P x,.str x t,v⟩
abbrev dn:=PySem.W.Fast.tw11892475500146522536 PySem.W.Fast.tw14364793385576792824
abbrev vh(p q:Program)(loose:List Str)(Xt:Shared->Bool)(K:Params->Frag)(as:List Addr)(N:Nat)(w:World):Prop:=xf dn PySem.W.Fast.tw6613529449190102663 PySem.W.Fast.tw10156331382660048174 PySem.W.Fast.tw4187177175401517315 p q loose Xt K as N w
theorem key1{p q:Program}{loose:List Str}{Xt:Shared->Bool}{K:Params->Frag}{as:List Addr}{N:Nat}(h:∀w:World,vh p q loose Xt K as N w):∀w,xf (denote treeTable) stepOk stepT openSeen p q loose Xt K as N w:=fun w=>by
 rw[PySem.W.Fast.te10156331382660048174,PySem.W.Fast.te11892475500146522536,PySem.W.Fast.te14364793385576792824,PySem.W.Fast.te6613529449190102663,PySem.W.Fast.te4187177175401517315];exact h w
abbrev xt(l:OpenLaw)(q:Program)(s:Shared):Bool:=xlAt q [] s&&recOk (RowW.records l.row.toRowW) s
theorem xc(P:Params):(boot_heap P).isNs mainGlobals=true:=by kernel_rfl
theorem head{l:OpenLaw}{q:Program}{loose:List Str}{K:Params->Frag}{as:List Addr}{N:Nat}{d:DefRec}(said:l.wellSaid=true)(e:opening l.prog=plainProg l.prog.main.scope.names)(hN:Nat.ble 600 N=true)(f:∀s,fenceModules? l.prog s=some s)
  (key:∀w,xf (denote treeTable) stepOk stepT openSeen l.prog q loose (xt l q) K as N w)(hK:∀P,as=(K P).map (·.1))
  (hdef:defOf q l.row.name=some (d,[]))(hp:l.row.prog.theDef l.row.name=some (d.params,d.body,d.scope))(hk:kwWritten? d.params.kwonlyargs d.params.kw_defaults=some [])(hwr:(!l.row.writes||l.row.records.isEmpty)=true)
  (ok:(chainsOk q&&opensWell l.row.prog&&(frees l.row.toRowW&&l.row.within.isEmpty))=true)(hb:l.row.prog.bare)(hw:l.row.toRowW.promised)
  (call:WalkO q loose (XL q []) (InK K) l.row.toRowW d [] fun f vs=>PySem.call f vs):l.Holds:=
 holds_law said fun k1=>holds_open (Xt:=xt l q) (yi e hN f xc key) (InK.of hK) InK.keeps (fun s e=>xl_of s (Di.mp e).1) XL.keeps hdef hp hk (fun s e=>recFacts_of (Di.mp e).2) hwr k1 ok hb hw call
end
end Hd
namespace Hd
open PySem PySem.W PyProof.Rows L2 K3
noncomputable section
abbrev pw:=PySem.Challenge.pw_quadwords_k25_whole_counts_of_tables
def loose:List Str:=[]
def keep:List Nat:=[1,2,3,5,6,7,8,10,11,13,14,15,16,18,19,20,21,22,23,24,25,27,28,29,30,31,32,33,34,36,37,38,39,40,41,42,43,44,45,46]
abbrev cO(n:Str)(t t1 t2:Nat)(l a f:Int)(v1 v2 v3 v4 v5 v6:Value)(u:Int)(t3:Nat):Obj:=⟨.type "code",none,.fields #[.str n t,.str n t1,.str "/claim/cut.py" t2,.int l 0,.int a 0,.int 0 0,.int 0 0,.int f 0,v1,.bool true,.int 181 0,v2,v3,v4,v5,v6,.int u 0,.int l 0,.str "/claim/cut.py" t3],#[]⟩
abbrev fO(n:Str)(s:Stmt)(m:Value)(c:Addr):Obj:=⟨.type "function",none,.func (PySem.W.fnOf n n (bO s) (bw s) (ar s) .none .none .none m none (.ref c) .none),#[]⟩
def o3(P:Params):Obj:=⟨.type "dict",none,(.dict #[en P "__name__" 165 (.str "law_quadwords_k25_whole_counts_of_tables" 423),en P "__doc__" 166 .none,en P "__package__" 167 .none,en P "__loader__" 168 (.builtin "__main__.__loader__#opaque"),en P "__spec__" 169 .none,en P "__annotations__" 170 (.ref 6),en P "__builtins__" 171 (.ref 4),en P "__file__" 173 (.str "/claim/cut.py" 172),en P "__cached__" 174 .none,en P "QuadError" 206 (.ref 24),en P "NoMakers" 222 (.ref 37),en P "NoCount" 238 (.ref 49),en P "ONE" 245 (.ref 52),en P "is_whole" 252 (.ref 59),en P "is_table" 258 (.ref 64),en P "worth" 269 (.ref 71),en P "is_plain" 278 (.ref 78),en P "word_within" 291 (.ref 85),en P "MOST_MAKERS" 295 (.int 8 294),en P "LONGEST_MAKER" 297 (.int 40 296),en P "maker_word" 305 (.ref 92),en P "maker_words" 311 (.ref 97),en P "MOST_LETTERS_OF_ROWS" 315 (.int 400 314),en P "MOST_LETTERS_OF_TABLES" 317 (.int 40 316),en P "LONGEST_COUNTED_MAKER" 319 (.int 12 318),en P "check_letters" 327 (.ref 104),en P "count_of_rows" 333 (.ref 109),en P "rests_behind" 339 (.ref 114),en P "next_counts" 352 (.ref 121),en P "count_of_tables" 358 (.ref 126),en P "first_pairs" 366 (.ref 131),en P "words_within" 372 (.ref 136),en P "words_beyond" 378 (.ref 141),en P "first_steps" 384 (.ref 146),en P "next_steps" 390 (.ref 151),en P "keep_shorter" 401 (.ref 158),en P "twins_of" 415 (.ref 165),en P "twins" 422 (.ref 172),en P "_law_draws" 435 (.ref 179),en P "_law_draw" 444 (.ref 186),en P "_law_piece" 450 (.ref 191),en P "_law_short_makers" 456 (.ref 196),en P "_law_times" 468 (.ref 203),en P "_law_made" 477 (.ref 210),en P "_law_of_letters" 483 (.ref 215),en P "_law_whole" 490 (.ref 222),en P "_law_counts" 496 (.ref 227),en P "_law_tables_due" 502 (.ref 232),en P "law" 508 (.ref 237)] 49),#[]⟩
def o4(P:Params):Obj:=⟨.type "module",(some 0),.plain,#[]⟩
def o23(P:Params):Obj:=⟨.type "dict",none,(.dict #[en P "__module__" 196 (.str "quadwords.errors" 187),en P "__firstlineno__" 200 (.int 2 199),en P "__static_attributes__" 201 (.ref 22),en P "__weakref__" 203 (.ref 25),en P "__doc__" 204 .none] 3),#[]⟩
def o24(P:Params):Obj:=⟨.type "type",none,(.cls ⟨"QuadError",[.type "ValueError"],[.ref 24,.type "ValueError",.type "Exception",.type "BaseException",.type "object"],23,"QuadError",true,[],[.ref 37,.ref 49],false,none,false⟩),#[some (.ref 15),none,some (.str "QuadError" 189),some (.str "QuadError" 197),some (.builtin "ValueError.__new__"),some (.bool true)]⟩
def o36(P:Params):Obj:=⟨.type "dict",none,(.dict #[en P "__module__" 214 (.str "quadwords.errors" 187),en P "__firstlineno__" 218 (.int 4 217),en P "__static_attributes__" 219 (.ref 35),en P "__doc__" 220 .none] 2),#[]⟩
def o37(P:Params):Obj:=⟨.type "type",none,(.cls ⟨"NoMakers",[.ref 24],[.ref 37,.ref 24,.type "ValueError",.type "Exception",.type "BaseException",.type "object"],36,"NoMakers",true,[],[],false,none,false⟩),#[some (.ref 28),none,some (.str "NoMakers" 207),some (.str "NoMakers" 215),some (.builtin "ValueError.__new__"),some (.bool true)]⟩
def o48(P:Params):Obj:=⟨.type "dict",none,(.dict #[en P "__module__" 230 (.str "quadwords.errors" 187),en P "__firstlineno__" 234 (.int 6 233),en P "__static_attributes__" 235 (.ref 47),en P "__doc__" 236 .none] 2),#[]⟩
def o49(P:Params):Obj:=⟨.type "type",none,(.cls ⟨"NoCount",[.ref 24],[.ref 49,.ref 24,.type "ValueError",.type "Exception",.type "BaseException",.type "object"],48,"NoCount",true,[],[],false,none,false⟩),#[some (.ref 40),none,some (.str "NoCount" 223),some (.str "NoCount" 231),some (.builtin "ValueError.__new__"),some (.bool true)]⟩
def o52(P:Params):Obj:=⟨.type "tuple",none,(.seq #[.int 1 241,.int 0 242,.int 0 243,.int 1 244] 0),#[]⟩
def o58(P:Params):Obj:=cO "is_whole" 246 247 248 10 1 3 (.ref 53) (.ref 54) .none (.ref 55) (.ref 56) (.ref 57) 250 251
def o59(P:Params):Obj:=fO "is_whole" (top 6) (.str "quadwords.tables" 239) 58
def o63(P:Params):Obj:=cO "is_table" 253 254 255 12 1 3 (.ref 60) (.ref 61) .none .none .none (.ref 62) 256 257
def o64(P:Params):Obj:=fO "is_table" (top 7) (.str "quadwords.tables" 239) 63
def o70(P:Params):Obj:=cO "worth" 259 260 261 14 1 3 (.ref 65) (.ref 66) .none (.ref 67) (.ref 68) (.ref 69) 267 268
def o71(P:Params):Obj:=fO "worth" (top 8) (.str "quadwords.tables" 239) 70
def o77(P:Params):Obj:=cO "is_plain" 272 273 274 18 1 3 (.ref 72) (.ref 73) .none (.ref 74) (.ref 75) (.ref 76) 276 277
def o78(P:Params):Obj:=fO "is_plain" (top 10) (.str "quadwords.plain" 270) 77
def o84(P:Params):Obj:=cO "word_within" 279 280 281 20 2 3 (.ref 79) (.ref 80) .none (.ref 81) (.ref 82) (.ref 83) 289 290
def o85(P:Params):Obj:=fO "word_within" (top 11) (.str "quadwords.plain" 270) 84
def o91(P:Params):Obj:=cO "maker_word" 298 299 300 36 1 3 (.ref 86) (.ref 87) .none (.ref 88) (.ref 89) (.ref 90) 303 304
def o92(P:Params):Obj:=fO "maker_word" (top 15) (.str "quadwords.rows" 292) 91
def o96(P:Params):Obj:=cO "maker_words" 306 307 308 43 1 3 (.ref 93) (.ref 94) .none .none .none (.ref 95) 309 310
def o97(P:Params):Obj:=fO "maker_words" (top 16) (.str "quadwords.rows" 292) 96
def o103(P:Params):Obj:=cO "check_letters" 320 321 322 51 2 3 (.ref 98) (.ref 99) .none (.ref 100) (.ref 101) (.ref 102) 325 326
def o104(P:Params):Obj:=fO "check_letters" (top 21) (.str "quadwords.counts" 312) 103
def o108(P:Params):Obj:=cO "count_of_rows" 328 329 330 54 2 3 (.ref 105) (.ref 106) .none .none .none (.ref 107) 331 332
def o109(P:Params):Obj:=fO "count_of_rows" (top 22) (.str "quadwords.counts" 312) 108
def o113(P:Params):Obj:=cO "rests_behind" 334 335 336 61 3 3 (.ref 110) (.ref 111) .none .none .none (.ref 112) 337 338
def o114(P:Params):Obj:=fO "rests_behind" (top 23) (.str "quadwords.counts" 312) 113
def o120(P:Params):Obj:=cO "next_counts" 340 341 342 64 2 3 (.ref 115) (.ref 116) .none (.ref 117) (.ref 118) (.ref 119) 350 351
def o121(P:Params):Obj:=fO "next_counts" (top 24) (.str "quadwords.counts" 312) 120
def o125(P:Params):Obj:=cO "count_of_tables" 353 354 355 71 2 3 (.ref 122) (.ref 123) .none .none .none (.ref 124) 356 357
def o126(P:Params):Obj:=fO "count_of_tables" (top 25) (.str "quadwords.counts" 312) 125
def o130(P:Params):Obj:=cO "first_pairs" 361 362 363 81 1 3 (.ref 127) (.ref 128) .none .none .none (.ref 129) 364 365
def o131(P:Params):Obj:=fO "first_pairs" (top 27) (.str "quadwords.free" 359) 130
def o135(P:Params):Obj:=cO "words_within" 367 368 369 85 2 3 (.ref 132) (.ref 133) .none .none .none (.ref 134) 370 371
def o136(P:Params):Obj:=fO "words_within" (top 28) (.str "quadwords.free" 359) 135
def o140(P:Params):Obj:=cO "words_beyond" 373 374 375 87 2 3 (.ref 137) (.ref 138) .none .none .none (.ref 139) 376 377
def o141(P:Params):Obj:=fO "words_beyond" (top 29) (.str "quadwords.free" 359) 140
def o145(P:Params):Obj:=cO "first_steps" 379 380 381 89 1 3 (.ref 142) (.ref 143) .none .none .none (.ref 144) 382 383
def o146(P:Params):Obj:=fO "first_steps" (top 30) (.str "quadwords.free" 359) 145
def o150(P:Params):Obj:=cO "next_steps" 385 386 387 92 3 3 (.ref 147) (.ref 148) .none .none .none (.ref 149) 388 389
def o151(P:Params):Obj:=fO "next_steps" (top 31) (.str "quadwords.free" 359) 150
def o157(P:Params):Obj:=cO "keep_shorter" 391 392 393 97 3 3 (.ref 152) (.ref 153) .none (.ref 154) (.ref 155) (.ref 156) 399 400
def o158(P:Params):Obj:=fO "keep_shorter" (top 32) (.str "quadwords.free" 359) 157
def xH(P:Params):Obj:=cO "twins_of" 402 403 404 101 1 3 (.ref 159) (.ref 160) .none (.ref 161) (.ref 162) (.ref 163) 413 414
def o165(P:Params):Obj:=fO "twins_of" (top 33) (.str "quadwords.free" 359) 164
def o171(P:Params):Obj:=cO "twins" 416 417 418 114 1 3 (.ref 166) (.ref 167) .none (.ref 168) (.ref 169) (.ref 170) 420 421
def o172(P:Params):Obj:=fO "twins" (top 34) (.str "quadwords.free" 359) 171
def o178(P:Params):Obj:=cO "_law_draws" 425 426 427 117 2 3 (.ref 173) (.ref 174) .none (.ref 175) (.ref 176) (.ref 177) 433 434
def o179(P:Params):Obj:=fO "_law_draws" (top 36) (.str "law_quadwords_k25_whole_counts_of_tables" 423) 178
def o185(P:Params):Obj:=cO "_law_draw" 436 437 438 127 2 3 (.ref 180) (.ref 181) .none (.ref 182) (.ref 183) (.ref 184) 442 443
def o186(P:Params):Obj:=fO "_law_draw" (top 37) (.str "law_quadwords_k25_whole_counts_of_tables" 423) 185
def o190(P:Params):Obj:=cO "_law_piece" 445 446 447 134 2 3 (.ref 187) (.ref 188) .none .none .none (.ref 189) 448 449
def o191(P:Params):Obj:=fO "_law_piece" (top 38) (.str "law_quadwords_k25_whole_counts_of_tables" 423) 190
def o195(P:Params):Obj:=cO "_law_short_makers" 451 452 453 140 3 3 (.ref 192) (.ref 193) .none .none .none (.ref 194) 454 455
def o196(P:Params):Obj:=fO "_law_short_makers" (top 39) (.str "law_quadwords_k25_whole_counts_of_tables" 423) 195
def o202(P:Params):Obj:=cO "_law_times" 457 458 459 162 2 3 (.ref 197) (.ref 198) .none (.ref 199) (.ref 200) (.ref 201) 466 467
def o203(P:Params):Obj:=fO "_law_times" (top 40) (.str "law_quadwords_k25_whole_counts_of_tables" 423) 202
def o209(P:Params):Obj:=cO "_law_made" 469 470 471 169 1 3 (.ref 204) (.ref 205) .none (.ref 206) (.ref 207) (.ref 208) 475 476
def o210(P:Params):Obj:=fO "_law_made" (top 41) (.str "law_quadwords_k25_whole_counts_of_tables" 423) 209
def o214(P:Params):Obj:=cO "_law_of_letters" 478 479 480 174 1 3 (.ref 211) (.ref 212) .none .none .none (.ref 213) 481 482
def o215(P:Params):Obj:=fO "_law_of_letters" (top 42) (.str "law_quadwords_k25_whole_counts_of_tables" 423) 214
def o221(P:Params):Obj:=cO "_law_whole" 484 485 486 178 1 3 (.ref 216) (.ref 217) .none (.ref 218) (.ref 219) (.ref 220) 488 489
def o222(P:Params):Obj:=fO "_law_whole" (top 43) (.str "law_quadwords_k25_whole_counts_of_tables" 423) 221
def o226(P:Params):Obj:=cO "_law_counts" 491 492 493 180 2 3 (.ref 223) (.ref 224) .none .none .none (.ref 225) 494 495
def o227(P:Params):Obj:=fO "_law_counts" (top 44) (.str "law_quadwords_k25_whole_counts_of_tables" 423) 226
def o231(P:Params):Obj:=cO "_law_tables_due" 497 498 499 187 2 3 (.ref 228) (.ref 229) .none .none .none (.ref 230) 500 501
def o232(P:Params):Obj:=fO "_law_tables_due" (top 45) (.str "law_quadwords_k25_whole_counts_of_tables" 423) 231
def o236(P:Params):Obj:=cO "law" 503 504 505 206 1 3 (.ref 233) (.ref 234) .none .none .none (.ref 235) 506 507
def o237(P:Params):Obj:=fO "law" (top 46) (.str "law_quadwords_k25_whole_counts_of_tables" 423) 236
def xg(P:Params):Obj:=⟨.none,none,(.fields #[]),#[]⟩
def K(P:Params):Frag:=(nat_lit 3,o3 P)::(nat_lit 4,o4 P)::(nat_lit 23,o23 P)::(nat_lit 24,o24 P)::(nat_lit 36,o36 P)::(nat_lit 37,o37 P)::(nat_lit 48,o48 P)::(nat_lit 49,o49 P)::(nat_lit 52,o52 P)::(nat_lit 58,o58 P)::(nat_lit 59,o59 P)::(nat_lit 63,o63 P)::(nat_lit 64,o64 P)::(nat_lit 70,o70 P)::(nat_lit 71,o71 P)::(nat_lit 77,o77 P)::(nat_lit 78,o78 P)::(nat_lit 84,o84 P)::(nat_lit 85,o85 P)::(nat_lit 91,o91 P)::(nat_lit 92,o92 P)::(nat_lit 96,o96 P)::(nat_lit 97,o97 P)::(nat_lit 103,o103 P)::(nat_lit 104,o104 P)::(nat_lit 108,o108 P)::(nat_lit 109,o109 P)::(nat_lit 113,o113 P)::(nat_lit 114,o114 P)::(nat_lit 120,o120 P)::(nat_lit 121,o121 P)::(nat_lit 125,o125 P)::(nat_lit 126,o126 P)::(nat_lit 130,o130 P)::(nat_lit 131,o131 P)::(nat_lit 135,o135 P)::(nat_lit 136,o136 P)::(nat_lit 140,o140 P)::(nat_lit 141,o141 P)::(nat_lit 145,o145 P)::(nat_lit 146,o146 P)::(nat_lit 150,o150 P)::(nat_lit 151,o151 P)::(nat_lit 157,o157 P)::(nat_lit 158,o158 P)::(nat_lit 164,xH P)::(nat_lit 165,o165 P)::(nat_lit 171,o171 P)::(nat_lit 172,o172 P)::(nat_lit 178,o178 P)::(nat_lit 179,o179 P)::(nat_lit 185,o185 P)::(nat_lit 186,o186 P)::(nat_lit 190,o190 P)::(nat_lit 191,o191 P)::(nat_lit 195,o195 P)::(nat_lit 196,o196 P)::(nat_lit 202,o202 P)::(nat_lit 203,o203 P)::(nat_lit 209,o209 P)::(nat_lit 210,o210 P)::(nat_lit 214,o214 P)::(nat_lit 215,o215 P)::(nat_lit 221,o221 P)::(nat_lit 222,o222 P)::(nat_lit 226,o226 P)::(nat_lit 227,o227 P)::(nat_lit 231,o231 P)::(nat_lit 232,o232 P)::(nat_lit 236,o236 P)::(nat_lit 237,o237 P)::[]
def KF(P:Params):Frag:=(nat_lit 160,xg P)::K P
def kAs:List Addr:=[160,3,4,23,24,36,37,48,49,52,58,59,63,64,70,71,77,78,84,85,91,92,96,97,103,104,108,109,113,114,120,121,125,126,130,131,135,136,140,141,145,146,150,151,157,158,164,165,171,172,178,179,185,186,190,191,195,196,202,203,209,210,214,215,221,222,226,227,231,232,236,237]
abbrev tA:Addr:=160
abbrev cA:Addr:=164
abbrev bmA:Addr:=4
theorem lk_K(P:Params):(K P).lookup 164=some (xH P):=by kernel_rfl
theorem kT(P:Params):(K P).lookup tA=none:=by kernel_rfl
theorem JI(P:Params)(h:Heap)(X:(K P).In h):PySem.W.CodeHd h cA tA:=⟨xH P,_,_,_,_,_,_,_,_,X _ _ (lk_K P),rfl,rfl,rfl,rfl,rfl,rfl,rfl,rfl,by decide⟩
abbrev pT:Array Value:=#[]
theorem hKF(P:Params)(h:Heap)(X:(KF P).In h):(K P).In h/\h.get? tA=some (PySem.W.tabObj pT)/\PySem.W.CodeHd h cA tA:=by
 have X1:(K P).In h:=fun a o e=>X a o (by
  show List.lookup a ((tA,xg P)::K P)=some o;rw[Cc];have ne:a≠tA:=fun z=>by rw[z,kT P] at e;cases e
  rw[show(a==tA)=false by simpa using ne]
  exact e)
 exact⟨X1,X tA (xg P) (by show List.lookup tA ((tA,xg P)::K P)=_;rw[Cc];rfl),JI P h X1⟩
set_option maxRecDepth 100000 in
theorem key0(w:World):vh pw (view pw keep) loose (xt PySem.Challenge.rw_quadwords_k25_whole_counts_of_tables (view pw keep)) KF kAs 3380 w:=by kernel_rfl
theorem key:∀w,xf (denote treeTable) stepOk stepT openSeen pw (view pw keep) loose (xt PySem.Challenge.rw_quadwords_k25_whole_counts_of_tables (view pw keep)) KF kAs 3380 w:=key1 key0
end
end Hd
open PySem PySem.W PyProof.Rows
local macro_rules | `(tactic| walk_at "fin")=>`(tactic| ((refine' K3.FIn.of ?a ?l ?c ?k); (case a=>k_is); (case l=>k_is); (case c=>k_is); (case k=>k_is)))
set_option maxRecDepth 100000 in
set_option maxHeartbeats 0 in
theorem PySem.Challenge.cw_quadwords_k25_whole_counts_of_tables_holds : PySem.Challenge.rw_quadwords_k25_whole_counts_of_tables.Holds := by
 w_on
 refine Hd.head (q:=view Hd.pw Hd.keep) (loose:=Hd.loose) (K:=Hd.KF) (as:=Hd.kAs) (by decide +kernel) (by kernel_rfl) (by decide) (fun s=>rfl) Hd.key (fun P=>by kernel_rfl) (by rfl) (by rfl) (by rfl) (by rfl) (by decide +kernel) ⟨rfl,rfl,rfl,rfl,rfl,by decide +kernel⟩ ?hw ?hc
 case hw=>w_witness2
 k_fill
 refine K3.walk (l:=PySem.Challenge.rw_quadwords_k25_whole_counts_of_tables) (K:=Hd.K) (KF:=Hd.KF) (T:=Hd.tA) (c0:=Hd.cA) (ps:=Hd.pT) rfl rfl ⟨trivial,rfl⟩ (fun w h Y=>Y) Hd.hKF Hd.kT ?F
 case F=>
  k_fill
  intro w mg fa h KX G hmg
  refine' K3.all_mk KX G hmg ?zu ?Ai ?Ag ?zv ?zt ?zH ?Am ?zG ?zp ?zr ?a_ww ?Ak ?Aj ?zq ?a_sm ?Ad ?Ae ?a_rb ?a_nc ?Af ?a_fp ?Ap ?Ao ?a_fs ?a_ns ?a_ks ?a_to ?l_to ?c_to ?k_to ?An ?Ah ?a_td ?zU ?l_law ?c_law ?k_law ?Aw ?l_ONE ?z_ONE ?v_ONE ?e_LM ?e_MM ?e_ML ?e_MT ?e_LC ?ec ?hdA ?neA ?e_BI ?l_BI ?p_BI ?Az ?zI ?yR ?zy ?zJ ?AD ?AA ?Ax ?Ay ?zx ?AB ?AC ?AE ?yT ?zf
  (case zu=>walk_at "fin")
  (case Ai=>walk_at "fin")
  (case Ag=>walk_at "fin")
  (case zv=>walk_at "fin")
  (case zt=>walk_at "fin")
  (case zH=>walk_at "fin")
  (case Am=>walk_at "fin")
  (case zG=>walk_at "fin")
  (case zp=>walk_at "fin")
  (case zr=>walk_at "fin")
  (case a_ww=>walk_at "fin")
  (case Ak=>walk_at "fin")
  (case Aj=>walk_at "fin")
  (case zq=>walk_at "fin")
  (case a_sm=>walk_at "fin")
  (case Ad=>walk_at "fin")
  (case Ae=>walk_at "fin")
  (case a_rb=>walk_at "fin")
  (case a_nc=>walk_at "fin")
  (case Af=>walk_at "fin")
  (case a_fp=>walk_at "fin")
  (case Ap=>walk_at "fin")
  (case Ao=>walk_at "fin")
  (case a_fs=>walk_at "fin")
  (case a_ns=>walk_at "fin")
  (case a_ks=>walk_at "fin")
  (case a_to=>k_is)
  (case l_to=>k_is)
  (case c_to=>k_is)
  (case k_to=>k_is)
  (case An=>walk_at "fin")
  (case Ah=>walk_at "fin")
  (case a_td=>walk_at "fin")
  (case zU=>k_is)
  (case l_law=>k_is)
  (case c_law=>k_is)
  (case k_law=>k_is)
  (case Aw=>k_is)
  (case l_ONE=>k_is)
  (case z_ONE=>decide)
  (case v_ONE=>exact .cons ⟨_,rfl⟩ (.cons ⟨_,rfl⟩ (.cons ⟨_,rfl⟩ (.cons ⟨_,rfl⟩ .nil))))
  (case e_LM=>k_is)
  (case e_MM=>k_is)
  (case e_ML=>k_is)
  (case e_MT=>k_is)
  (case e_LC=>k_is)
  (case ec=>rfl)
  (case hdA=>exact fun h X=>Hd.JI _ h X)
  (case neA=>decide)
  (case e_BI=>k_is)
  (case l_BI=>k_is)
  (case p_BI=>exact⟨by decide,by decide,by decide,rfl,rfl,rfl⟩)
  (case Az=>k_is)
  (case zI=>k_is)
  (case yR=>k_is)
  (case zy=>k_is)
  (case zJ=>k_is)
  (case AD=>k_is)
  (case AA=>k_is)
  (case Ax=>k_is)
  (case Ay=>k_is)
  (case zx=>k_is)
  (case AB=>k_is)
  (case AC=>k_is)
  (case AE=>k_is)
  (case yT=>k_is)
  (case zf=>k_is)
