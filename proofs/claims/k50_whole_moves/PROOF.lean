import PyProof.Rows.All
import Wide.All
import OpenK.AllK
import Wide.FinOn
import Lean
import PyProof.EqAt
import PyProof.EqKinds
import PyProof.TupleCall
import PyProof.NsDelKeeps
import PyProof.RulesAs
import PyProof.SumAny
import PyProof.WalksMore
import PyProof.WalkInts
import PyProof.EnumMake
import KE.KMinKey
import PyProof.Rows.Range3
import PyProof.Rows.SortStr
import PyProof.StrLawsIn
import KE.KIntText
import PyProof.ListRange
import KE.KLam
import PyProof.SetRoads
import PyProof.Rows.SetObj
import PyProof.CollectWalk
import PyProof.DictItems
import PyProof.Rows.TupDisplay
import KE.KDictSum
import PyProof.Rows.SetFrom
import PyProof.DictCompW
import PyProof.ListStr
import PyProof.ZipIter
import PyProof.DelItemList
import OpenK.ZGo
import PySem.Challenge.RW_quadwords_k50_whole_moves
set_option genSizeOf false
set_option compiler.extract_closed false
set_option maxRecDepth 100000
set_option maxHeartbeats 4000000
abbrev DP:=@Nat.le_refl
abbrev DQ:=@List.length_map
abbrev DR:=@List.length_append
abbrev DS:=@List.mem_cons_self
abbrev DT:=@Nat.lt_of_lt_of_le
abbrev DU:=@List.getElem?_eq_some_iff
abbrev DV:=@List.mem_append_right
abbrev DW:=@List.getElem?_eq_getElem
abbrev DX:=@List.mem_append
abbrev DY:=@List.getElem?_map
abbrev DZ:=@Nat.ne_of_lt
abbrev Ea:=@List.mem_of_getElem?
abbrev Eb:=@List.mem_cons
abbrev Ec:=@Nat.zero_le
abbrev Ed:=@List.size_toArray
abbrev Ee:=@Nat.le_trans
abbrev Ef:=@List.map_append
abbrev Eg:=@List.mem_cons_of_mem
abbrev Eh:=@List.mem_append_left
abbrev Ei:=@List.mem_singleton
abbrev Ej:=@List.append_assoc
abbrev Ek:=@Bool.false_ne_true
abbrev Em:=@List.mem_map
abbrev Eo:=@List.take_add_one
abbrev Ep:=@List.getElem_mem
abbrev Er:=@Nat.lt_irrefl
abbrev Es:=@List.mem_range
abbrev Et:=@List.append_nil
abbrev Eu:=@List.length_take
abbrev Ex:=@List.map_cons
abbrev Ey:=@Bool.and_eq_true
abbrev Ez:=@List.take_length
abbrev EA:=@List.length_cons
abbrev EB:=@Option.map_eq_some_iff
abbrev EC:=@Int.toNat_natCast
abbrev ED:=@List.getD_eq_getElem?_getD
abbrev EE:=@List.all_eq_true
abbrev EF:=@Int.zero_add
abbrev EG:=@List.length_range
abbrev EH:=@Nat.le_of_lt
abbrev EI:=@List.not_mem_nil
abbrev EJ:=@List.replicate_succ
abbrev EK:=@List.filter_cons
abbrev EL:=@List.map_map
abbrev EM:=@Option.ne_none_iff_exists'
abbrev EN:=@Option.bind_eq_some_iff
abbrev EO:=@Nat.le_succ
abbrev ER:=@List.flatten_cons
abbrev ES:=@List.take_of_length_le
abbrev ET:=@Bool.eq_iff_iff
abbrev EU:=@List.length_replicate
abbrev EV:=@List.cons_append
abbrev EY:=@Array.length_toList
abbrev EZ:=@List.getElem?_append_left
abbrev Fd:=@List.lookup_cons
abbrev Fe:=@Nat.le_succ_of_le
abbrev Ff:=@List.getElem?_append_right
abbrev Fg:=@List.reverse_cons
abbrev Fh:=@List.foldl_cons
abbrev Fi:=@Nat.lt_of_le_of_lt
abbrev Fj:=@Nat.mod_lt
abbrev Fk:=@Array.getElem?_toList
abbrev Fl:=@List.forIn_cons
abbrev Fm:=@Nat.lt_succ_self
abbrev Fn:=@Nat.lt_succ_of_lt
abbrev Fo:=@List.any_eq_true
abbrev Fp:=@List.nodup_append
abbrev Fq:=@List.range_succ
abbrev Fs:=@Int.emod_nonneg
abbrev Ft:=@Int.emod_lt_of_pos
abbrev Fu:=@List.foldl_append
abbrev Fv:=@List.mem_replicate
abbrev Fw:=@Nat.le_add_right
abbrev Fx:=@List.getElem?_set_ne
abbrev Fy:=@Nat.ne_of_gt
abbrev Fz:=@Option.isSome_iff_exists
abbrev FB:=@List.map_nil
abbrev FC:=@List.any_cons
abbrev FD:=@Nat.succ_le_succ
abbrev FE:=@List.find?_cons
abbrev FF:=@Option.map_some
abbrev FH:=@List.getElem?_of_mem
abbrev FI:=@Bool.and_eq_true_iff
abbrev FJ:=@Int.natCast_nonneg
abbrev FK:=@List.mem_filter
abbrev FL:=@List.getElem?_set_self
abbrev FM:=@List.nodup_cons
abbrev FN:=@Nat.le_of_eq
abbrev FO:=@List.length_filter_le
abbrev FP:=@List.mem_iff_getElem
abbrev FQ:=@List.map_congr_left
abbrev FR:=@Int.toNat_of_nonneg
abbrev FS:=@List.length_reverse
abbrev FT:=@List.mem_of_mem_take
abbrev FU:=@Nat.not_lt_zero
abbrev FV:=@List.mem_map_of_mem
abbrev FW:=@List.idxOf_cons
abbrev FX:=@List.idxOf_lt_length_of_mem
abbrev FY:=@List.filterMap_cons
abbrev FZ:=@List.getElem_inj
abbrev Gc:=@Int.fdiv_eq_ediv_of_nonneg
abbrev Ge:=@List.length_set
abbrev Gg:=@List.nil_append
abbrev Gh:=@List.length_nil
abbrev Gi:=@List.nodup_nil
abbrev Gj:=@Nat.pow_le_pow_right
abbrev Gk:=@List.getElem?_toArray
abbrev Gm:=@Bool.true_and
abbrev Gn:=@List.getElem?_eq_none
abbrev Gp:=@Int.ofNat_lt
abbrev Gq:=@List.mem_flatMap
abbrev Gu:=@List.mem_filterMap
abbrev Gv:=@Nat.min_le_right
abbrev Gx:=@List.all_cons
abbrev Gy:=@Nat.min_le_left
abbrev Gz:=@Int.natAbs_mul
abbrev GA:=@Nat.log2_lt
abbrev GB:=@List.drop_zero
abbrev GC:=@Nat.le_of_ble_eq_true
abbrev GD:=@List.take_append_drop
abbrev GE:=@Nat.succ_pos
abbrev GF:=@List.getElem?_range
abbrev GG:=@Nat.lt_of_not_le
abbrev GH:=@List.of_mem_zip
abbrev GI:=@List.getElem?_replicate
abbrev GJ:=@List.filterMap_map
abbrev GK:=@List.length_singleton
abbrev GL:=@Bool.and_false
abbrev GM:=@Option.getD_some
abbrev GN:=@Option.isSome_map
abbrev GP:=@Bool.false_eq_true
abbrev GQ:=@List.pairwise_map
abbrev GR:=@Array.all_toList
abbrev GS:=@List.mem_reverse
abbrev GT:=@List.flatten_append
abbrev GU:=@List.flatten_nil
abbrev GV:=@Nat.succ_lt_succ
abbrev GW:=@List.take_zero
abbrev GX:=@Option.map_map
abbrev GY:=@List.getElem_idxOf
abbrev GZ:=@List.flatMap_cons
abbrev Hg:=@List.eraseIdxIfInBounds_toArray
abbrev Hh:=@Array.getElem?_eq_some_iff
abbrev Hj:=@List.getLast?_eq_some_iff
abbrev Hk:=@List.mem_of_find?_eq_some
abbrev Hl:=@List.mem_or_eq_of_mem_set
abbrev Hm:=@PySem.wpAny_bind
abbrev Hn:=@PySem.wpAny_pure
abbrev Ho:=@if_neg
abbrev Hq:=@if_pos
abbrev Ht:=@decide_eq_true
abbrev Hu:=@decide_eq_false
abbrev Hv:=@PySem.wpAny_mono
abbrev Hw:=@PySem.wpAny_holding
abbrev Hy:=@of_decide_eq_true
abbrev Hz:=@PySem.Heap.lt_size
abbrev HC:=@Option.some.inj
abbrev HD:=@PySem.F.plainAttrs_list
abbrev HE:=@PySem.F.type_list_append
abbrev HF:=@PySem.F.slot_list_append
abbrev HG:=@PySem.W.mg_of
abbrev HH:=@PySem.W.mg_none_of
abbrev HI:=@Ne.symm
abbrev HJ:=@PySem.Heap.get?_push_of_some
abbrev HK:=@PySem.Heap.get?_push_size
abbrev HL:=@Bool.eq_iff_iff
abbrev HM:=@Nat.succ_le_succ
abbrev HN:=@Int.natCast_nonneg
abbrev HP:=@PySem.wpAny_attempt
abbrev HQ:=@PySem.wpAny_call_entry
abbrev HR:=@PySem.Heap.size_push
abbrev HS:=@PySem.wpAny_rule
abbrev HU:=@beq_iff_eq
abbrev HV:=@Int.toNat_of_nonneg
local macro_rules | `(tactic| walk_at "i") => `(tactic| first | exact .inl rfl | exact .inr rfl | assumption)
local macro_rules | `(tactic| walk_at "o") => `(tactic| first | assumption | exact Ee (by assumption) (by decide) | lia)
set_option Elab.async false
set_option maxHeartbeats 0
set_option linter.all false
set_option hygiene false in
local macro_rules|`((wq X))=>`(wpAny (model X.prog X.w) X.A)
local macro_rules|`(($f:ident $x*))=>do
 let n:=f.getId
 let some (g,t):=(([(`HZ,"_q"),(`Ii,"_q"),(`Ip,"_q"),(`aB,"________xxxx"),(`aH,"____x"),(`aL,"___xx"),(`aN,"_______xxxF"),(`aP,"______xRxxx"),(`aS,"_________xRxxxddrr"),(`aV,"____xr"),(`aY,"____x"),(`ae,"_____xx"),(`ag,"_____xxx"),(`ah,"____q"),(`aq,"___x"),(`ar,"__x_nROw"),(`aw,"__x____nROxrw"),(`ax,"_____xxr"),(`ay,"________xxx"),(`bA,"______Rxxr"),(`bB,"______________cxxfffy"),(`bC,"______xxxF"),(`bE,"________vcxxxy"),(`bF,"_________xxx"),(`bR,"___q"),(`bS,"_________xRxxxddrr"),(`bh,"_____x"),(`bo,"____q"),(`bp,"____x"),(`br,"________xxx"),(`bu,"____________xxdhRxxd"),(`bz,"_____________xxdhRxdrr"),(`cE,"_______xxxrrr"),(`cZ,"____x"),(`cj,"______cxrr"),(`cu,"________xxxx"),(`cx,"______xxrrr"),(`dG,"__________xxxx"),(`dM,"______vxx"),(`dZ,"______xxF"),(`du,"_______cRxRxxrr"),(`eA,"___x"),(`eQ,"________xxx"),(`fA,"_________xxxxR"),(`fE,"___xy"),(`fF,"_______xx"),(`fG,"____________xxxxxxrrrrr"),(`fZ,"___x"),(`fh,"__q"),(`fm,"__x__RxxRdd"),(`fq,"_____xRRxd"),(`gB,"____x"),(`gH,"__x__Rxxd"),(`gP,"____x"),(`gQ,"____x"),(`gR,"__xx___________cnRRdRRxRr"),(`hZ,"______xx"),(`iJ,"_______xxxx"),(`iP,"____x"),(`iV,"________cRxRxxrrr"),(`iW,"____q"),(`iq,"_______xx"),(`jT,"______________x___cxxfffnRORyw"),(`jc,"_______xxx"),(`kO,"___xG"),(`kP,"________xxxF"),(`kX,"_______xxxy"),(`ke,"_______xx"),(`ml,"______xx"),(`nB,"__x______nROxxw"),(`nH,"________xxrr"),(`ny,"_____xxx"),(`pA,"________Rxxrr"),(`pB,"____________xRxxxxrrddrr"),(`pO,"_________________x___cxxffffnRORyw"),(`qJ,"________________cxxffffy"),(`sF,"_______________cxxfffy"),(`sG,"____________________x___cxxffffffnRORxyw"),(`sY,"________xxx"),(`uL,"___________Rxxrr"),(`wY,"_________xxxxxrr"),(`xM,"_________Rxxrr")]:List (Lean.Name×String)).map fun a=>(a.1,a))++[(`ac,`aw,"__x____nRoxrw"),(`ad,`ar,"__x_nRow"),(`am,`ar,"__x_xROI")]|>.lookup n|Lean.Macro.throwUnsupported
 let mut i:=0
 let mut r:Array (Lean.TSyntax `term):=#[]
 for c in t.toList do
  if c=='q' then i:=i+1
  else if c=='x'||c=='f' then
   let some y:=x[i]?|Lean.Macro.throwUnsupported
   r:=r.push (<-if c=='x' then pure y else `(fun _ _ _ _=>$y))
   i:=i+1
  else r:=r.push (<-match c with|'G'=>`(fun _=>rfl)|'r'=>`(by rfl)|'w'=>`(by walk_at "i")|'R'=>`(rfl)|'O'=>`(Or.inl rfl)|'d'=>`(by decide)|'F'=>`(fun _ _=>rfl)|'I'=>`(.inr rfl)|'o'=>`(Or.inr rfl)|'y'=>`(by intro _;rfl)|'v'=>pure (Lean.mkIdent `PassesOwn.never)|'n'=>pure (Lean.mkIdent `nd)|'c'=>pure (Lean.mkIdent `hc)|'h'=>pure (Lean.mkIdent `hr)|_=>`(_))
 if i !=x.size then Lean.Macro.throwUnsupported
 `(@$(if g==n then f else Lean.mkIdent g) $r*)
namespace L2
open PySem PySem.Spec PyProof.Rows
abbrev Key:=Sum Int Str
def Km:Key->Value->Bool
 |.inl k,v=>Value.isInt k v
 |.inr x,v=>Value.isStrOf x v
def zR (w:World):Key->Int
 |.inl k=>hashInt k
 |.inr x=>hashStr w x
theorem Ih:∀{k:Key}{v:Value},Km k v=true->(∃i t,k=Sum.inl i/\v=Value.int i t)\/(∃x t,k=Sum.inr x/\v=Value.str x t)
 |.inl i,v,h=>by
  obtain⟨t,e⟩:=Value.isInt_shape (k:=i) (v:=v) h;exact .inl ⟨i,t,rfl,e⟩
 |.inr x,v,h=>by
  obtain⟨t,e⟩:=Value.isStrOf_shape (x:=x) (v:=v) h;exact .inr ⟨x,t,rfl,e⟩
theorem oy(i:Int)(t:Tok):Km (.inl i) (.int i t)=true:=by simp[Km,Value.isInt]
theorem nI(x:Str)(t:Tok):Km (.inr x) (.str x t)=true:=by simp[Km,Value.isStrOf]
theorem tI(a b:Int):decide ((Sum.inl a:Key)=Sum.inl b)=(a==b):=by
 by_cases e:a=b
 ·subst e;simp
 ·have h:¬(Sum.inl a:Key)=Sum.inl b:=fun q=>e (Sum.inl.inj q);rw[Hu h];exact(beq_eq_false_iff_ne.mpr e).symm
theorem tm(a b:Str):decide ((Sum.inr a:Key)=Sum.inr b)=decide (a=b):=by
 by_cases e:a=b
 ·subst e;simp
 ·have h:¬(Sum.inr a:Key)=Sum.inr b:=fun q=>e (Sum.inr.inj q);rw[Hu h,Hu e]
theorem vU(a:Int)(b:Str):decide ((Sum.inl a:Key)=Sum.inr b)=false:=Hu (fun q=>nomatch q)
theorem wU(a:Str)(b:Int):decide ((Sum.inr a:Key)=Sum.inl b)=false:=Hu (fun q=>nomatch q)
def aM (prog:Program)(w:World):PySem.KeyKind prog w Key where
 is:=Km
 hash:=zR w
 inj:=fun v a b ha hb=>by
  rcases Ih ha with ⟨i,t,rfl,rfl⟩|⟨x,t,rfl,rfl⟩
  ·rcases Ih hb with ⟨j,u,rfl,e⟩|⟨y,u,rfl,e⟩
   ·injection e with e1 _;rw[e1]
   ·exact nomatch e
  ·rcases Ih hb with ⟨j,u,rfl,e⟩|⟨y,u,rfl,e⟩
   ·exact nomatch e
   ·injection e with e1 _;rw[e1]
 byValue:=fun k v h=>by
  rcases Ih h with ⟨i,t,rfl,rfl⟩|⟨x,t,rfl,rfl⟩<;>rfl
 pyHash:=fun hv h=>by
  rcases Ih hv with ⟨i,t,rfl,rfl⟩|⟨x,t,rfl,rfl⟩
  ·exact wpAny_pyHash_int h
  ·exact wpAny_pyHash_str h
 eqBool:=fun hu hv h=>by
  rcases Ih hu with ⟨i,t,rfl,rfl⟩|⟨x,t,rfl,rfl⟩
  ·rcases Ih hv with ⟨j,u,rfl,rfl⟩|⟨y,u,rfl,rfl⟩
   ·rw[tI] at h;exact wpAny_eqBool_int h
   ·rw[vU] at h;exact SeqAt.EqAt.int_str i t y u _ _ _ _ h
  ·rcases Ih hv with ⟨j,u,rfl,rfl⟩|⟨y,u,rfl,rfl⟩
   ·rw[wU] at h;exact SeqAt.EqAt.str_int x t j u _ _ _ _ h
   ·rw[tm] at h;exact wpAny_eqBool_str h
 «strs»:=fun k x t v h=>by
  rcases Ih h with ⟨i,u,rfl,e⟩|⟨y,u,rfl,e⟩
  ·exact nomatch e
  ·injection e with e1 _;subst e1;cases v<;>rfl
theorem jW(prog:Program)(w:World)(i:Int)(t:Tok):(aM prog w).is (.inl i) (.int i t)=true:=oy i t
theorem eD(prog:Program)(w:World)(x:Str)(t:Tok):(aM prog w).is (.inr x) (.str x t)=true:=nI x t
inductive V where
 |non|bl (b:Bool)|int(i:Int)|str(x:Str)|byt(b:Array UInt8)|flt(b:UInt64)|ref(a:Addr)|ty(n:String)
 deriving DecidableEq
def RelV:V->Value->Prop
 |.non,u=>u=Value.none
 |.bl b,u=>u=Value.bool b
 |.int i,u=>∃t,u=Value.int i t
 |.str x,u=>∃t,u=Value.str x t
 |.byt b,u=>∃t,u=Value.bytes b t
 |.flt b,u=>∃t,u=Value.float b t
 |.ref a,u=>u=Value.ref a
 |.ty n,u=>u=Value.type n
abbrev Vals:List V->List Value->Prop:=Paired RelV
theorem Vals.length{xs:List V}{us:List Value}(r:Vals xs us):xs.length=us.length:=Paired.length r
theorem Vals.get:∀{xs:List V}{us:List Value}{i:Nat}{x:V},Vals xs us->xs[i]?=some x->∃u,us[i]?=some u/\RelV x u
 |_,_,_,_,.nil,e=>by simp at e
 |_,_,0,_,.cons r _,e=>by simp at e;subst e;exact⟨_,rfl,r⟩
 |_,_,i+1,x,.cons _ t,e=>by
  obtain⟨u,h1,h2⟩:=Vals.get (i:=i) (x:=x) t (by simpa using e);exact⟨u,by simpa using h1,h2⟩
theorem Vals.set{x:V}{u:Value}(r:RelV x u):∀{xs:List V}{us:List Value}(i:Nat),Vals xs us->Vals (xs.set i x) (us.set i u)
 |_,_,_,.nil=>.nil
 |_,_,0,.cons _ t=>.cons r t
 |_,_,i+1,.cons q t=>.cons q (Vals.set r i t)
theorem Vals.append:∀{xs ys:List V}{us ws:List Value},Vals xs us->Vals ys ws->Vals (xs++ys) (us++ws)
 |_,_,_,_,.nil,s=>s
 |_,_,_,_,.cons r t,s=>.cons r (Vals.append t s)
theorem Vals.take:∀{xs:List V}{us:List Value}(n:Nat),Vals xs us->Vals (xs.take n) (us.take n)
 |_,_,0,_=>.nil
 |_,_,_+1,.nil=>.nil
 |_,_,n+1,.cons r t=>.cons r (Vals.take n t)
theorem Vals.drop:∀{xs:List V}{us:List Value}(n:Nat),Vals xs us->Vals (xs.drop n) (us.drop n)
 |_,_,0,r=>r
 |_,_,_+1,.nil=>.nil
 |_,_,n+1,.cons _ t=>Vals.drop n t
def Ku:Option V->Option Value->Prop
 |some v,some u=>RelV v u
 |none,none=>True
 |_,_=>False
def KV {κ:Type}:List (κ×V)->List (κ×Value)->Prop:=Paired fun(p:κ×V) (q:κ×Value)=>p.1=q.1/\RelV p.2 q.2
def kV:Key->V
 |.inl i=>.int i
 |.inr x=>.str x
inductive HO where
 |lst (xs:List V)
 |tup (xs:List V)
 |dK (kvs:List (Key×V))|dT(kvs:List (List Key×V))
 |set (S:Int->Bool)(n:Nat)
 |ins (C dx:Addr)(fs:List (Str×V))
 |own (x:Addr)
 |xd (fs:List (Str×V))
 |met (f x:Addr)
 |rng (lo hi:Int)
 |frz (o:Obj)(u:HO)
 |tbl (ps:Array Value)
 |ext (φ:Heap->Prop)
abbrev Hp:=Addr->Option HO
def upd (H:Hp)(a:Addr)(o:HO):Hp:=fun b=>if b=a then some o else H b
theorem af{H:Hp}{a:Addr}{o:HO}:upd H a o a=some o:=by unfold upd;rw[Hq rfl]
theorem au{H:Hp}{a b:Addr}{o:HO}(h:b≠a):upd H a o b=H b:=by unfold upd;rw[Ho h]
theorem zb{H:Hp}{a b:Addr}{o u:HO}(h:H a=some o)(h':H b=some u)(d:o≠u):a≠b:=by
 intro e;subst e;rw[h] at h';exact d (HC h')
theorem aU{H:Hp}{a b:Addr}{o:HO}(h:H a=some o)(h':H b=none):a≠b:=by
 intro e;subst e;rw[h] at h';cases h'
section
variable (P:Program)(w:World)
def Iq(H:Hp)(h:Heap)(a:Addr):HO->Prop
 |.lst xs=>xs.length<=sizeLine/\∃(its:List Value)(n:Nat),Vals xs its/\h.get? a=some {cls:=.type "list",data:=.seq its.toArray n}
 |.tup xs=>xs.length<=sizeLine/\∃its:List Value,Vals xs its/\IsTup h a its.toArray
 |.dK kvs=>kvs.length<=sizeLine/\(a==sysModules)=false/\∃vs,KV kvs vs/\h.DictOf (aM P w) a vs
 |.dT kvs=>kvs.length<=sizeLine/\(a==sysModules)=false/\∃xs:List (List Key×Addr×Value),
   Paired (fun(p:List Key×V) (q:List Key×Addr×Value)=>p.1=q.1/\H q.2.1=some (.tup (p.1.map kV))/\RelV p.2 q.2.2) kvs xs /\
   ∃o es ep,h.get? a=some o/\o.ExactDict/\o.data=.dict es ep/\es.toList=xs.map (entryOfKey (tupleKind (aM P w)))/\(xs.map (·.1)).Nodup
 |.set S n=>h.SetOf (intKind P w) a S n
 |.ins C dx fs=>H dx=some (.own a)/\fs.length<=1000/\dx≠a/\h.get? a=some (W.instObj C dx) /\
   ∃mA,h.Ns1 dx mA/\(∀f,Ku (fs.lookup f) (mA f))/\PySem.Within mA (fs.map (·.1))
 |.own _=>∃o,h.get? a=some o
 |.xd fs=>∃mA,h.Ns1 a mA/\∀f,Ku (fs.lookup f) (mA f)
 |.rng lo hi=>∃t u v,h.get? a=some {cls:=.type "range",data:=.fields #[.int lo t,.int hi u,.int 1 v]}
 |.frz o u=>h.get? a=some o/\Iq H h a u
 |.tbl ps=>h.get? a=some {cls:=.none,data:=.fields ps}
 |.met f x=>h.get? a=some (W.methodObj (.ref f) (.ref x))
 |.ext φ=>φ h/\(∃o,h.get? a=some o)/\∀h1 h2:Heap,φ h1->(∀o,h1.get? a=some o->h2.get? a=some o)->φ h2
def HOk (H:Hp)(h:Heap):Prop:=∀a o,H a=some o->Iq P w H h a o
end
section
variable {P:Program}{w:World}{H H':Hp}{h h':Heap}{a:Addr}{o:HO}
theorem Iq.lt(x:Iq P w H h a o):a<h.objs.size:=by
 cases o with
 |lst xs=>obtain⟨_,_,_,_,e⟩:=x;exact Hz e
 |tup xs=>obtain⟨_,_,_,p⟩:=x;exact p.lt
 |dK kvs=>obtain⟨_,_,_,_,o,_,_,e,_⟩:=x;exact Hz e
 |dT kvs=>obtain⟨_,_,_,_,o,_,_,e,_⟩:=x;exact Hz e
 |set S n=>obtain⟨o,_,_,_,e,_⟩:=x;exact Hz e
 |ins C dx fs=>obtain⟨_,_,_,e,_⟩:=x;exact Hz e
 |own y=>obtain⟨_,e⟩:=x;exact Hz e
 |xd fs=>obtain⟨_,⟨_,_,_,e,_⟩,_⟩:=x;exact Hz e
 |rng lo hi=>obtain⟨_,_,_,e⟩:=x;exact Hz e
 |frz ob u=>obtain⟨e,_⟩:=x;exact Hz e
 |tbl ps=>exact Hz (show h.get? a=some _ from x)
 |met f y=>exact Hz (show h.get? a=some _ from x)
 |ext φ=>obtain⟨_,⟨_,e⟩,_⟩:=x;exact Hz e
theorem Paired.IL{α β:Type}{F G:α->β->Prop}:∀{l₁:List α}{l₂:List β},Paired F l₁ l₂->(∀a b,F a b->G a b)->Paired G l₁ l₂
 |_,_,.nil,_=>.nil
 |_,_,.cons r t,f=>.cons (f _ _ r) (Paired.IL t f)
theorem Iq.Lf(x:Iq P w H h a o)(k:∀b u,(b=a\/H b=some (.own a))->h.get? b=some u->h'.get? b=some u)
  (ho:∀b,H b=some (.own a)->H' b=some (.own a))(ht:∀b xs,H b=some (.tup xs)->H' b=some (.tup xs)):Iq P w H' h' a o:=by
 induction o with
 |lst xs=>obtain⟨z,its,n,r,e⟩:=x;exact⟨z,its,n,r,k _ _ (.inl rfl) e⟩
 |tup xs=>obtain⟨z,its,r,ob,e,c⟩:=x;exact⟨z,its,r,ob,k _ _ (.inl rfl) e,c⟩
 |dK kvs=>obtain⟨z,y,vs,r,ob,es,ep,e,c⟩:=x;exact⟨z,y,vs,r,ob,es,ep,k _ _ (.inl rfl) e,c⟩
 |dT kvs=>
  obtain⟨z,y,xs,r,ob,es,ep,e,c⟩:=x;exact⟨z,y,xs,Paired.IL r fun p q z=>⟨z.1,ht _ _ z.2.1,z.2.2⟩,ob,es,ep,k _ _ (.inl rfl) e,c⟩
 |set S n=>obtain⟨ob,es,ep,t,e,c⟩:=x;exact⟨ob,es,ep,t,k _ _ (.inl rfl) e,c⟩
 |ins C dx fs=>
  obtain⟨d,z,ne,e,mA,⟨od,es,ep,e2,c⟩,r⟩:=x;exact⟨ho _ d,z,ne,k _ _ (.inl rfl) e,mA,⟨od,es,ep,k _ _ (.inr d) e2,c⟩,r⟩
 |own y=>obtain⟨ob,e⟩:=x;exact⟨ob,k _ _ (.inl rfl) e⟩
 |xd fs=>obtain⟨mA,⟨od,es,ep,e,c⟩,r⟩:=x;exact⟨mA,⟨od,es,ep,k _ _ (.inl rfl) e,c⟩,r⟩
 |rng lo hi=>obtain⟨t,u,v,e⟩:=x;exact⟨t,u,v,k _ _ (.inl rfl) e⟩
 |frz ob u ih=>obtain⟨e,q⟩:=x;exact⟨k _ _ (.inl rfl) e,ih q⟩
 |tbl ps=>
  have e:h.get? a=some {cls:=.none,data:=.fields ps}:=x;show h'.get? a=some {cls:=.none,data:=.fields ps};exact k a _ (.inl rfl) e
 |met f y=>
  have e:h.get? a=some (W.methodObj (.ref f) (.ref y)):=x;show h'.get? a=some (W.methodObj (.ref f) (.ref y));exact k a _ (.inl rfl) e
 |ext φ=>obtain⟨p,⟨o,e⟩,st⟩:=x;exact⟨st _ _ p fun o q=>k _ _ (.inl rfl) q,⟨o,k _ _ (.inl rfl) e⟩,st⟩
theorem HOk.lt(x:HOk P w H h)(e:H a=some o):a<h.objs.size:=(x a o e).lt
theorem HOk.fresh(x:HOk P w H h)(e:h.objs.size<=a):H a=none:=by
 cases q:H a with
 |none=>rfl
 |some u=>exact absurd (DT (x.lt q) e) (Er _)
theorem HOk.kept(x:HOk P w H h)(k:∀b u,h.get? b=some u->h'.get? b=some u):HOk P w H h':=fun a o e=>
 (x a o e).Lf (fun b u _ q=>k b u q) (fun _ q=>q) fun _ _ q=>q
theorem HOk.laid(x:HOk P w H h)(k:∀b u,h.get? b=some u->h'.get? b=some u)(hp:h.objs.size<=a)(new:Iq P w (upd H a o) h' a o):HOk P w (upd H a o) h':=fun b u e=>by
 have hn:=x.fresh hp;by_cases hb:b=a
 ·subst hb;rw[af] at e;cases e;exact new
 ·rw[au hb] at e;exact(x b u e).Lf (fun c v _ q=>k c v q) (fun c q=>by rw[au (aU q hn)];exact q) fun c xs q=>by rw[au (aU q hn)];exact q
end
def Rd (H:Hp)(a:Addr)(u:HO):Prop:=H a=some u\/∃o,H a=some (.frz o u)
theorem Rd.ok{P:Program}{w:World}{H:Hp}{h:Heap}{a:Addr}{u:HO}(r:Rd H a u)(x:HOk P w H h):Iq P w H h a u:=by
 rcases r with r|⟨o,r⟩
 ·exact x a u r
 ·obtain⟨_,q⟩:=x a _ r;exact q
def Mut:Option HO->Prop
 |some (.lst _)=>True
 |some (.dK _)=>True
 |some (.dT _)=>True
 |some (.set _ _)=>True
 |some (.ins _ _ _)=>True
 |some (.ext _)=>True
 |_=>False
section
variable {P:Program}{w:World}{H:Hp}{h h':Heap}{x e:Addr}{o':HO}
theorem HOk.write(ok:HOk P w H h)(mu:Mut (H x))(he:e=x\/H e=some (.own x))(k:∀b u,b≠e->h.get? b=some u->h'.get? b=some u)(heo:∃u,h'.get? e=some u)
  (new:Iq P w (upd H x o') h' x o'):HOk P w (upd H x o') h':=fun b u q=>by
 have nown:∀c y,H c=some (.own y)->c≠x:=fun c y r z=>by subst z;rw[r] at mu;exact mu
 have ntup:∀c xs,H c=some (.tup xs)->c≠x:=fun c xs r z=>by subst z;rw[r] at mu;exact mu
 by_cases hb:b=x
 ·subst hb;rw[af] at q;cases q;exact new
 ·rw[au hb] at q;by_cases hbe:b=e
  ·have q':H b=some (.own x):=by
    rcases he with z|z
    ·exact absurd (hbe.trans z) hb
    ·rw[hbe];exact z
   rw[q] at q';cases q';obtain⟨v,hv⟩:=heo;exact⟨v,by rw[hbe];exact hv⟩
  ·refine(ok b u q).Lf (fun c v hc r=>k c v ?_ r) (fun c r=>by rw[au (nown c b r)];exact r) fun c xs r=>by rw[au (ntup c xs r)];exact r
   rcases hc with rfl|hc
   ·exact hbe
   ·rintro rfl;rcases he with z|z
    ·exact nown c b hc z
    ·rw[hc] at z;cases z;exact hb rfl
end
structure Un(fs ex:List Addr)(H H':Hp)(h h':Heap):Prop where
 keep:∀b o,h.get? b=some o->H b=none->b∉fs->b∉ex->h'.get? b=some o
 slot:∀b o,h.get? b=some o->H b=none->b∈fs->b∉ex->∃sl,h'.get? b=some {o with slots:=sl}
 free:∀b o,h.get? b=some o->H b=none->b∉ex->H' b=none
 there:∀b o,h.get? b=some o->b∉ex->∃o',h'.get? b=some o'
 LI:∀b xs,H b=some (.tup xs)->H' b=some (.tup xs)
 Ln:∀b o u,H b=some (.frz o u)->H' b=some (.frz o u)
 Ly:∀b ps,H b=some (.tbl ps)->∃more,H' b=some (.tbl (ps++more))
section
variable {fs fs' ex ex':List Addr}{H H1 H2:Hp}{h h1 h2 h':Heap}{a x e:Addr}{o:HO}
theorem Un.any(u:Un fs ex H H1 h h1){b:Addr}{ob:Obj}(q:h.get? b=some ob)(n:H b=none)(hx:b∉ex):∃sl,h1.get? b=some {ob with slots:=sl}:=by
 by_cases hb:b∈fs
 ·exact u.slot b ob q n hb hx
 ·exact⟨ob.slots,u.keep b ob q n hb hx⟩
theorem Un.kept(k:∀b u,h.get? b=some u->h'.get? b=some u):Un fs ex H H h h':=
 ⟨fun b ob q _ _ _=>k b ob q,fun b ob q _ _ _=>⟨ob.slots,k b ob q⟩,fun _ _ _ n _=>n,fun b ob q _=>⟨ob,k b ob q⟩,fun _ _ q=>q,fun _ _ _ q=>q,fun _ ps q=>⟨#[],by rw[q];simp⟩⟩
theorem Un.refl:Un fs ex H H h h:=Un.kept fun _ _ q=>q
theorem Un.laid(k:∀b u,h.get? b=some u->h'.get? b=some u)(hp:h.objs.size<=a)(hn:H a=none):Un fs ex H (upd H a o) h h' where
 keep:=fun b u q _ _ _=>k b u q
 slot:=fun b u q _ _ _=>⟨u.slots,k b u q⟩
 free:=fun b u q n _=>by rw[au (DZ (DT (Hz q) hp))];exact n
 there:=fun b u q _=>⟨u,k b u q⟩
 LI:=fun b xs q=>by rw[au (aU q hn)];exact q
 Ln:=fun b u xs q=>by rw[au (aU q hn)];exact q
 Ly:=fun b ps q=>⟨#[],by rw[au (aU q hn),q];simp⟩
theorem Un.write(mu:Mut (H x))(he:e=x\/H e=some (.own x))(k:∀b u,b≠e->h.get? b=some u->h'.get? b=some u)(heo:∃u,h'.get? e=some u):Un fs ex H (upd H x o) h h':=by
 have hx:∀b,H b=none->b≠x:=fun b n z=>by subst z;rw[n] at mu;exact mu
 have hb:∀b,H b=none->b≠e:=fun b n z=>by
  subst z;rcases he with r|r
  ·exact hx b n r
  ·rw[n] at r;cases r
 have hm:∀b u,H b=some u->¬Mut (some u)->b≠x:=fun b u q nm z=>by subst z;rw[q] at mu;exact nm mu
 refine⟨fun b u q n _ _=>k b u (hb b n) q,fun b u q n _ _=>⟨u.slots,k b u (hb b n) q⟩,fun b u q n _=>by rw[au (hx b n)]; exact n,fun b u q _=>?_,
  fun b xs q=>by rw[au (hm b _ q fun z=>z)];exact q,fun b u xs q=>by rw[au (hm b _ q fun z=>z)];exact q,fun b ps q=>⟨#[],by rw[au (hm b _ q fun z=>z),q];simp⟩⟩
 by_cases hbe:b=e
 ·subst hbe;exact heo
 ·exact⟨u,k b u hbe q⟩
end
def trk (h:Heap)(H:Hp):List Addr:=(List.range h.objs.size).filter fun a=>(H a).isSome
def rO (h:Heap)(H:Hp):Heap:=W.hideAll h (trk h H)
theorem pE(h:Heap)(H:Hp):(rO h H).objs.size=h.objs.size:=W.hideAll_size _ _
theorem sq{h:Heap}{H:Hp}{b:Addr}{o:Obj}(e:h.get? b=some o)(n:H b=none):(rO h H).get? b=some o:=
 W.hideAll_get _ e fun hm=>by
  have q:(H b).isSome=true:=(FK.mp hm).2;rw[n] at q;simp at q
theorem uX{h:Heap}{H:Hp}{b:Addr}{o:Obj}(e:(rO h H).get? b=some o):h.get? b=some o/\H b=none:=by
 have e':h.get? b=some o:=W.of_hideAll (trk h H) e;refine⟨e',?_⟩;cases q:H b with
 |none=>rfl
 |some x=>
  have hm:b∈trk h H:=FK.mpr ⟨Es.mpr (Hz e'),by simp[q]⟩;have z:(rO h H).get? b=none:=W.hideAll_none (trk h H) hm;rw[z] at e;cases e
def vz (g h:Heap)(L:Addr):List (Addr×Obj):=(List.range h.objs.size).filterMap fun a=>if a=L\/(g.get? a).isSome=true then none else (h.get? a).map fun o=>(a,o)
def rest (g h:Heap)(L d:Addr):List (Addr×Obj):=(vz g h L).filter fun p=>decide (p.1≠d)
structure Mod(K:W.Frag)(mg:Str->Option Value)(base:Heap):Prop where
 kin:K.In base
 glob:base.Ns mainGlobals mg
 blt:∃mb,base.Ns builtinsNs mb/\∀x:Str,x≠"__name__"->mb x=bootBuiltins x
 nolimit:base.NoLimit
structure Cx where
 prog:Program
 w:World
 K:W.Frag
 mg:Str->Option Value
 base:Heap
 A:Around
 N:List Str
 s₀:Shared
 H₀:Hp
 env:Env
 outer:List Env
 stack:List Env
 ex:List Addr
 fn:Str->Bool
 calm:Bool
 pn:List (Addr×Obj)
 xe:Value->Shared->Prop
def frs (l:List Env):List Addr:=l.filterMap (·.frame)
abbrev Cx.fs(X:Cx):List Addr:=frs X.outer
def Vis (sc:Scope)(x:Str):Prop:=sc.names.lookup x=some .local\/sc.names.lookup x=some .cell\/sc.names.lookup x=some .free
def Loc (sc:Scope)(x:Str):Prop:=sc.names.lookup x=some .local\/sc.names.lookup x=some .cell
def Look (env:Env)(h:Heap)(m:Str->Option Value)(x:Str)(u:Value):Prop:=
 (env.kindOf x=some .local/\m x=some u)\/((env.kindOf x=some .cell\/env.kindOf x=some .free)/\∃c,env.cells.lookup x=some c/\h.IsCell c (some u))
structure Cx.Ok(X:Cx):Prop where
 mod:Mod X.K X.mg X.base
 kind:X.env.scope.kind=.function
 glob:X.env.globals=mainGlobals
 blt:X.env.builtins=builtinsNs
 above:X.s₀.heap.objs.size<=X.env.locals
 inj:∀x y c,X.env.cells.lookup x=some c->X.env.cells.lookup y=some c->x=y
 has:∀x,(X.env.kindOf x=some .cell\/X.env.kindOf x=some .free)->∃c,X.env.cells.lookup x=some c
 cab:∀x c,X.fn x=true->X.env.cells.lookup x=some c->X.s₀.heap.objs.size<=c
 hd:X.calm=true->X.A.handled=none
 frames:X.A.frames=some X.stack
 stk:X.stack=X.outer\/(X.stack=X.env::X.outer/\X.env.frame=some X.env.locals)
 exf:∀b∈X.ex,b≠X.env.locals/\∀x c,X.env.cells.lookup x=some c->c≠b
 bs:∀b o,X.base.get? b=some o->X.s₀.heap.get? b=some o/\X.H₀ b=none
 bsz:X.base.objs.size<=X.s₀.heap.objs.size
 NP:∀b o,X.base.get? b=some o->b∉X.ex
 MI:∀b∈X.ex,b∉X.fs
 Lk:X.s₀.heap.FunFrames X.base X.outer
 frf:∀b∈X.fs,X.H₀ b=none
structure Inv(X:Cx)(pins:List (Addr×Obj))(σ:List (Option V))(H:Hp)(s:Shared):Prop where
 ok:X.Ok
 os:s.os=X.s₀.os
 bare:AllBare s.gens
 base:Un X.fs X.ex X.H₀ H X.s₀.heap s.heap
 loc:∃m,s.heap.Ns X.env.locals m/\∀(i:Nat)(x:Str)(v:V),X.N[i]?=some x->σ[i]?=some (some v)->Vis X.env.scope x->∃u,RelV v u/\Look X.env s.heap m x u
 cell:∀x c,X.env.cells.lookup x=some c->∃v,s.heap.IsCell c v
 free:H X.env.locals=none
 Jc:∀x c,X.env.cells.lookup x=some c->H c=none
 pin:∀p∈X.pn++pins,s.heap.get? p.1=some p.2/\H p.1=none/\p.1≠X.env.locals/\p.1∉X.fs/\∀v,p.2.data≠.cell v
 hok:HOk X.prog X.w H s.heap
 len:σ.length=X.N.length
section
variable {X:Cx}{pins:List (Addr×Obj)}{σ:List (Option V)}{H H':Hp}{s:Shared}{h':Heap}
theorem Cx.Ok.nofr(ok:X.Ok){b:Addr}{o:Obj}(e:X.base.get? b=some o):b∉X.fs:=fun hb=>by
 have:=(ok.Lk.mem hb).1;rw[e] at this;cases this
theorem Inv.bs(I:Inv X pins σ H s):∀b o,X.base.get? b=some o->s.heap.get? b=some o/\H b=none:=fun b o e=>
 ⟨I.base.keep b o (I.ok.bs b o e).1 (I.ok.bs b o e).2 (I.ok.nofr e) (I.ok.NP b o e),I.base.free b o (I.ok.bs b o e).1 (I.ok.bs b o e).2 (I.ok.NP b o e)⟩
theorem Inv.bk(I:Inv X pins σ H s):∀b o,X.base.get? b=some o->s.heap.get? b=some o:=fun b o e=>(I.bs b o e).1
theorem Inv.mod(I:Inv X pins σ H s):Mod X.K X.mg X.base:=I.ok.mod
theorem Inv.kIn(I:Inv X pins σ H s):X.K.In s.heap:=I.ok.mod.kin.keeps I.bk
theorem Inv.lt(I:Inv X pins σ H s):X.env.locals<s.heap.objs.size:=let ⟨_,hn,_⟩:=I.loc;hn.lt
theorem Inv.sz(I:Inv X pins σ H s):X.s₀.heap.objs.size<=s.heap.objs.size:=Ee I.ok.above (EH I.lt)
theorem Inv.nofs(I:Inv X pins σ H s){a:Addr}(h:s.heap.objs.size<=a):a∉X.fs:=fun hb=>by
 obtain⟨_,o,ho,_⟩:=I.ok.Lk.mem hb;exact absurd (DT (Hz ho) (Ee I.sz h)) (Er _)
theorem Inv.cne(I:Inv X pins σ H s):∀x c,X.env.cells.lookup x=some c->c≠X.env.locals:=fun x c e z=>by
 obtain⟨v,o,ho,hd⟩:=I.cell x c e;obtain⟨m,⟨o',es,ep,ho',hd',_⟩,_⟩:=I.loc;rw[z,ho'] at ho;cases ho;rw[hd'] at hd;cases hd
theorem Inv.Lk(I:Inv X pins σ H s):s.heap.FunFrames X.base X.outer:=by
 have all:∀(l:List Env),(∀b∈frs l,b∈X.fs)->X.s₀.heap.FunFrames X.base l->s.heap.FunFrames X.base l:=by
  intro l;induction l with
  |nil=>intro _ _;trivial
  |cons env r ih=>
   intro hs hl;obtain⟨hk,⟨L,o,hf,hn,ho,hd⟩,hr⟩:=hl;have hL:L∈X.fs:=hs L (by unfold frs;rw[FY,hf];exact DS);obtain⟨sl,e⟩:=I.base.slot L o ho (I.ok.frf L hL) hL fun z=>I.ok.MI L z hL;exact⟨hk,⟨L,_,hf,hn,e,hd⟩,ih (fun b hb=>hs b (by unfold frs;rw[FY,hf];exact Eg _ hb)) hr⟩
 exact all X.outer (fun _ hb=>hb) I.ok.Lk
theorem Inv.stack(I:Inv X pins σ H s):s.heap.FunFrames X.base X.stack:=by
 rcases I.ok.stk with e|⟨e,hf⟩
 ·rw[e];exact I.Lk
 ·rw[e];obtain⟨m,hn,_⟩:=I.loc;refine .cons (by rw[I.ok.kind];decide) hf hn ?_ I.Lk;exact Heap.get?_none_of_le (Ee I.ok.bsz I.ok.above)
theorem Inv.Kb(I:Inv X pins σ H s):∀b∈frs X.stack,b∈X.env.locals::X.fs:=fun b hb=>by
 rcases I.ok.stk with e|⟨e,hf⟩
 ·rw[e] at hb;exact Eg _ hb
 ·rw[e] at hb;unfold frs at hb;rw[FY,hf] at hb;exact hb
theorem Inv.Kv(I:Inv X pins σ H s):∀b∈frs X.stack,H b=none:=fun b hb=>by
 rcases Eb.mp (I.Kb b hb) with e|hb
 ·rw[e];exact I.free
 ·obtain⟨_,o,ho,_⟩:=I.ok.Lk.mem hb;exact I.base.free b o ho (I.ok.frf b hb) fun z=>I.ok.MI b z hb
theorem Inv.step{g':Array GenState}{t':Nat}{d':Drawn}{ch:List Addr}(I:Inv X pins σ H s)
  (hch:∀b∈ch,(b∈X.ex\/X.s₀.heap.get? b=none)/\b≠X.env.locals/\(∀x c,X.env.cells.lookup x=some c->c≠b)/\∀p∈X.pn++pins,p.1≠b)
  (keep:∀b o,b≠X.env.locals->b∉X.fs->b∉ch->s.heap.get? b=some o->H b=none->h'.get? b=some o)
  (slot:∀b o,b≠X.env.locals->b∈X.fs->b∉ch->s.heap.get? b=some o->H b=none->∃sl,h'.get? b=some {o with slots:=sl})(free:∀b o,b∉ch->s.heap.get? b=some o->H b=none->H' b=none)
  (there:∀b o,b∉ch->s.heap.get? b=some o->∃o',h'.get? b=some o')
  (LI:∀b xs,H b=some (.tup xs)->H' b=some (.tup xs))(Ln:∀b o u,H b=some (.frz o u)->H' b=some (.frz o u))(Ly:∀b ps,H b=some (.tbl ps)->∃more,H' b=some (.tbl (ps++more)))
  (ns:∀m,s.heap.Ns X.env.locals m->h'.Ns X.env.locals m)(hok:HOk X.prog X.w H' h')(hg:AllBare g') :
  Inv X pins σ H' {s with heap:=h',gens:=g',drawn:=d',toks:=t'}:=by
 have neL:∀b o,X.s₀.heap.get? b=some o->b≠X.env.locals:=fun b o e=>DZ (DT (Hz e) I.ok.above);have neC:∀b o,X.s₀.heap.get? b=some o->b∉X.ex->b∉ch:=fun b o e hx hb=>by
  rcases (hch b hb).1 with z|z
  ·exact hx z
  ·rw[z] at e;cases e
 have cellK:∀x c,X.env.cells.lookup x=some c->∀v,s.heap.IsCell c v->h'.IsCell c v:=fun x c e v hq1=>by
  obtain⟨o,ho,hd⟩:=hq1;have nch:c∉ch:=fun z=>(hch c z).2.2.1 x c e rfl;by_cases hc:c∈X.fs
  ·obtain⟨sl,q⟩:=slot c o (I.cne x c e) hc nch ho (I.Jc x c e);exact⟨_,q,hd⟩
  ·exact⟨o,keep c o (I.cne x c e) hc nch ho (I.Jc x c e),hd⟩
 refine⟨I.ok,I.os,hg,⟨fun b o e n hb hx=>?_,fun b o e n hb hx=>?_,fun b o e n hx=>?_,fun b o e hx=>?_,fun b xs e=>LI b xs (I.base.LI b xs e),fun b o xs e=>Ln b o xs (I.base.Ln b o xs e),fun b ps e=>?_⟩,?_,fun x c e=>?_,?_,fun x c e=>?_,fun p hp=>?_,hok,I.len⟩
 ·exact keep b o (neL b o e) hb (neC b o e hx) (I.base.keep b o e n hb hx) (I.base.free b o e n hx)
 ·obtain⟨sl,e1⟩:=I.base.slot b o e n hb hx;obtain⟨sl',e2⟩:=slot b _ (neL b o e) hb (neC b o e hx) e1 (I.base.free b o e n hx);exact⟨sl',e2⟩
 ·obtain⟨o',e1⟩:=I.base.there b o e hx;exact free b o' (neC b o e hx) e1 (I.base.free b o e n hx)
 ·obtain⟨o',e1⟩:=I.base.there b o e hx;exact there b o' (neC b o e hx) e1
 ·obtain⟨m1,e1⟩:=I.base.Ly b ps e;obtain⟨m2,e2⟩:=Ly b _ e1;exact⟨m1++m2,by rw[e2,Array.append_assoc]⟩
 ·obtain⟨m,hn,hl⟩:=I.loc;refine⟨m,ns m hn,fun i x v e1 e2 e3=>?_⟩;obtain⟨u,r,l⟩:=hl i x v e1 e2 e3;refine⟨u,r,?_⟩;rcases l with l|⟨k,c,e,z⟩
  ·exact .inl l
  ·exact .inr ⟨k,c,e,cellK x c e _ z⟩
 ·obtain⟨v,z⟩:=I.cell x c e;exact⟨v,cellK x c e v z⟩
 ·obtain⟨m,⟨o,_,_,ho,_⟩,_⟩:=I.loc;exact free _ o (fun z=>(hch _ z).2.1 rfl) ho I.free
 ·obtain⟨v,o,ho,hd⟩:=I.cell x c e;exact free c o (fun z=>(hch c z).2.2.1 x c e rfl) ho (I.Jc x c e)
 ·obtain⟨e,n,ne,nf,d⟩:=I.pin p hp;have nch:p.1∉ch:=fun z=>(hch p.1 z).2.2.2 p hp rfl;exact⟨keep p.1 p.2 ne nf nch e n,free p.1 p.2 nch e n,ne,nf,d⟩
theorem Inv.un{t':Nat}(I:Inv X pins σ H s)(u:Un X.fs [] H H' s.heap h')(hok:HOk X.prog X.w H' h'):Inv X pins σ H' {s with heap:=h',toks:=t'}:=by
 obtain⟨m,⟨o,es,ep,ho,r⟩,_⟩:=id I.loc;obtain⟨sl,hL⟩:=u.any ho I.free (by simp)
 exact I.step (g':=s.gens) (d':=s.drawn) (ch:=[]) (fun _ z=>nomatch z) (fun b o _ hb _ e n=>u.keep b o e n hb (by simp)) (fun b o _ hb _ e n=>u.slot b o e n hb (by simp)) (fun b o _ e n=>u.free b o e n (by simp)) (fun b o _ e=>u.there b o e (by simp)) u.LI u.Ln u.Ly (fun m' hm=>by
  obtain⟨o',es',ep',ho',r'⟩:=hm;rw[ho] at ho';cases ho'
  exact⟨_,es',ep',hL,r'⟩) hok I.bare
theorem Inv.call{g':Array GenState}{t':Nat}{d':Drawn}{ch:List Addr}(I:Inv X pins σ H s)(u:Un (frs X.stack) ch H H' s.heap h')(hok:HOk X.prog X.w H' h')(hg:AllBare g')
  (hch:∀b∈ch,(b∈X.ex\/X.s₀.heap.get? b=none)/\b≠X.env.locals/\(∀x c,X.env.cells.lookup x=some c->c≠b)/\∀p∈X.pn++pins,p.1≠b) :
  Inv X pins σ H' {s with heap:=h',gens:=g',drawn:=d',toks:=t'}:=by
 obtain⟨m,⟨o,es,ep,ho,r⟩,_⟩:=id I.loc;obtain⟨sl,hL⟩:=u.any ho I.free fun z=>(hch _ z).2.1 rfl
 exact I.step (ch:=ch) hch (fun b o hL hb hc e n=>u.keep b o e n (fun z=>(Eb.mp (I.Kb b z)).elim hL hb) hc) (fun b o _ _ hc e n=>u.any e n hc) (fun b o hc e n=>u.free b o e n hc) (fun b o hc e=>u.there b o e hc) u.LI u.Ln u.Ly (fun m' hm=>by
  obtain⟨o',es',ep',ho',r'⟩:=hm;rw[ho] at ho';cases ho'
  exact⟨_,es',ep',hL,r'⟩) hok hg
theorem Inv.turned{t':Nat}{it:Addr}(I:Inv X pins σ H s)(k:∀b o,b≠it->s.heap.get? b=some o->h'.get? b=some o)(hn:H it=none)(hL:it≠X.env.locals)
  (h1:it∈X.ex\/X.s₀.heap.get? it=none)(h2:∀x c,X.env.cells.lookup x=some c->c≠it)(h3:∀p∈X.pn++pins,p.1≠it):Inv X pins σ H {s with heap:=h',toks:=t'}:=by
 have nit:∀b u,H b=some u->b≠it:=fun b u e z=>by rw[z,hn] at e;cases e
 refine I.step (g':=s.gens) (d':=s.drawn) (ch:=[it]) (fun b hb=>?_) (fun b o _ _ hc e _=>k b o (fun z=>hc (by simp[z])) e) (fun b o _ _ hc e _=>⟨o.slots,k b o (fun z=>hc (by simp[z])) e⟩) (fun _ _ _ _ n=>n)
  (fun b o hc e=>⟨o,k b o (fun z=>hc (by simp[z])) e⟩) (fun _ _ e=>e) (fun _ _ _ e=>e) (fun b ps e=>⟨#[],by rw[e];simp⟩) (fun m hm=>?_) (fun b u e=>?_) I.bare
 ·have e:b=it:=by simpa using hb
  subst e;exact⟨h1,hL,h2,h3⟩
 ·obtain⟨o,es,ep,ho,r⟩:=hm;exact⟨o,es,ep,k _ o (HI hL) ho,r⟩
 ·refine(I.hok b u e).Lf (fun c v hc q=>k c v ?_ q) (fun _ q=>q) fun _ _ q=>q;rcases hc with z|z
  ·rw[z];exact nit b u e
  ·exact nit c _ z
theorem Inv.tok(I:Inv X pins σ H s)(t:Nat):Inv X pins σ H {s with toks:=t}:=I.un (h':=s.heap) (t':=t) Un.refl I.hok
theorem Inv.kept{t':Nat}(I:Inv X pins σ H s)(k:∀b u,s.heap.get? b=some u->h'.get? b=some u):Inv X pins σ H {s with heap:=h',toks:=t'}:=I.un (Un.kept k) (I.hok.kept k)
theorem Inv.laid{a:Addr}{o:HO}{t':Nat}(I:Inv X pins σ H s)(k:∀b u,s.heap.get? b=some u->h'.get? b=some u)(hp:s.heap.objs.size<=a)(new:Iq X.prog X.w (upd H a o) h' a o) :
  Inv X pins σ (upd H a o) {s with heap:=h',toks:=t'}:=I.un (Un.laid k hp (I.hok.fresh hp)) (I.hok.laid k hp new)
theorem Inv.write{x e:Addr}{o:HO}{t':Nat}(I:Inv X pins σ H s)(mu:Mut (H x))(he:e=x\/H e=some (.own x))(k:∀b u,b≠e->s.heap.get? b=some u->h'.get? b=some u)(heo:∃u,h'.get? e=some u)
  (new:Iq X.prog X.w (upd H x o) h' x o):Inv X pins σ (upd H x o) {s with heap:=h',toks:=t'}:=I.un (Un.write mu he k heo) (I.hok.write mu he k heo new)
theorem Inv.IU{pins':List (Addr×Obj)}(I:Inv X pins σ H s)(h:∀p∈pins',s.heap.get? p.1=some p.2/\H p.1=none/\p.1≠X.env.locals/\p.1∉X.fs/\∀v,p.2.data≠.cell v):Inv X pins' σ H s:=
 ⟨I.ok,I.os,I.bare,I.base,I.loc,I.cell,I.free,I.Jc,fun p hp=>(DX.mp hp).elim (fun z=>I.pin p (Eh _ z)) (h p),I.hok,I.len⟩
theorem lH{N:List Str}(hN:N.Nodup){i j:Nat}{x:Str}(a:N[i]?=some x)(b:N[j]?=some x):i=j:=by
 obtain⟨h1,e1⟩:=DU.mp a;obtain⟨h2,e2⟩:=DU.mp b;exact(FZ hN).mp (e1.trans e2.symm)
theorem eV{M:Model}{A:Around}{E:Value->Shared->Prop}{i:Nat}{x:Str}{v:V}{u:Value}{Q:Unit->Shared->Prop}(I:Inv X pins σ H s)(hN:X.N.Nodup)(hi:X.N[i]?=some x)(hx:Loc X.env.scope x)(r:RelV v u)
  (h:∀s',Inv X pins (σ.set i (some v)) H s'->(∃a,Heap.SameBut a s.heap s'.heap/\(a=X.env.locals\/X.env.cells.lookup x=some a))->Q () s')(hf:X.fn x=true\/X.env.scope.names.lookup x=some .local:=by first|exact .inl rfl|exact .inr rfl|assumption):wpAny M A (storeName X.env x u) Q E s:=by
 obtain⟨m,hn,hl⟩:=id I.loc;have hcls:(X.env.scope.kind==.class||(X.env.scope.kind==.module&&X.env.locals != X.env.globals))=false:=by rw[I.ok.kind];rfl
 have hiσ:i<σ.length:=by rw[I.len];exact(DU.mp hi).1
 have cne:=I.cne;have tracked:∀{a:Addr}{h':Heap},(∃o,s.heap.get? a=some o/\H a=none)->Heap.SameBut a s.heap h'->HOk X.prog X.w H h':=fun {a h'} ha hs b ob e=>by
  obtain⟨_,_,hfree⟩:=ha;refine(I.hok b ob e).Lf (fun c w' hc q=>(hs.2 c ?_).trans q) (fun _ q=>q) fun _ _ q=>q;rintro rfl;rcases hc with rfl|hc
  ·rw[hfree] at e;cases e
  ·rw[hfree] at hc;cases hc
 rcases hx with hk|hk
 ·refine wpAny_storeName_local hk hn (fun h' hn' hs=>?_) hcls;obtain⟨oL,_,_,hoL,_⟩:=id hn;refine h _ ⟨I.ok,I.os,I.bare,⟨fun b o e n hb hx=>?_,fun b o e n hb hx=>?_,I.base.free,fun b o e hx=>?_,I.base.LI,I.base.Ln,I.base.Ly⟩,⟨_,hn',fun j y v' e1 e2 e3=>?_⟩,fun y c e=>?_,I.free,I.Jc,fun p hp=>?_,tracked ⟨oL,hoL,I.free⟩ hs,by simpa using I.len⟩ ⟨_,hs,.inl rfl⟩
  ·exact(hs.2 b (DZ (DT (Hz e) I.ok.above))).trans (I.base.keep b o e n hb hx)
  ·obtain⟨sl,e1⟩:=I.base.slot b o e n hb hx;exact⟨sl,(hs.2 b (DZ (DT (Hz e) I.ok.above))).trans e1⟩
  ·obtain⟨o',e1⟩:=I.base.there b o e hx;exact⟨o',(hs.2 b (DZ (DT (Hz e) I.ok.above))).trans e1⟩
  ·by_cases hj:j=i
   ·subst hj;rw[hi] at e1;cases e1;rw[FL hiσ] at e2;cases e2;exact⟨u,r,.inl ⟨hk,by simp⟩⟩
   ·rw[Fx (HI hj)] at e2;obtain⟨u',r',q⟩:=hl j y v' e1 e2 e3;refine⟨u',r',?_⟩;rcases q with ⟨k,e⟩|⟨k,c,e,z⟩
    ·refine .inl ⟨k,?_⟩;have:y≠x:=fun e=>hj (lH hN e1 (e▸hi));simp[this,e]
    ·exact .inr ⟨k,c,e,z.sameBut hs (cne y c e)⟩
  ·obtain⟨w',z⟩:=I.cell y c e;exact⟨w',z.sameBut hs (cne y c e)⟩
  ·obtain⟨e,n,ne,nf,d⟩:=I.pin p hp;exact⟨(hs.2 p.1 ne).trans e,n,ne,nf,d⟩
 ·have hfn:X.fn x=true:=by
   rcases hf with z|z
   ·exact z
   ·rw[z] at hk;cases hk
  obtain⟨c,hc⟩:=I.ok.has x (.inl hk);obtain⟨w',z⟩:=I.cell x c hc;refine wpAny_storeName_cell I.ok.kind hk hc z (fun h' hc' hs=>?_);obtain⟨oc,hoc,hocd⟩:=id z;refine h {s with heap:=h'} ⟨I.ok,I.os,I.bare,⟨fun b o e n hb hx=>?_,fun b o e n hb hx=>?_,I.base.free,fun b o e hx=>?_,I.base.LI,I.base.Ln,I.base.Ly⟩,⟨m,hn.sameBut hs (HI (cne x c hc)),fun j y v' e1 e2 e3=>?_⟩,fun y c' e=>?_,I.free,I.Jc,fun p hp=>?_,tracked ⟨oc,hoc,I.Jc x c hc⟩ hs,by simpa using I.len⟩ ⟨c,hs,.inr hc⟩
  ·exact(hs.2 b (DZ (DT (Hz e) (I.ok.cab x c hfn hc)))).trans (I.base.keep b o e n hb hx)
  ·obtain⟨sl,e1⟩:=I.base.slot b o e n hb hx;exact⟨sl,(hs.2 b (DZ (DT (Hz e) (I.ok.cab x c hfn hc)))).trans e1⟩
  ·obtain⟨o',e1⟩:=I.base.there b o e hx;exact⟨o',(hs.2 b (DZ (DT (Hz e) (I.ok.cab x c hfn hc)))).trans e1⟩
  ·by_cases hj:j=i
   ·subst hj;rw[hi] at e1;cases e1;rw[FL hiσ] at e2;cases e2;exact⟨u,r,.inr ⟨.inl hk,c,hc,hc'⟩⟩
   ·rw[Fx (HI hj)] at e2;obtain⟨u',r',q⟩:=hl j y v' e1 e2 e3;refine⟨u',r',?_⟩;rcases q with q|⟨k,c',e,z'⟩
    ·exact .inl q
    ·refine .inr ⟨k,c',e,z'.sameBut hs ?_⟩;rintro rfl;exact hj (lH hN e1 (I.ok.inj _ _ _ e hc▸hi))
  ·by_cases hcc:c'=c
   ·subst hcc;exact⟨_,hc'⟩
   ·obtain⟨w2,z2⟩:=I.cell y c' e;exact⟨w2,z2.sameBut hs hcc⟩
  ·obtain⟨e,n,ne,nf,d⟩:=I.pin p hp;refine⟨(hs.2 p.1 ?_).trans e,n,ne,nf,d⟩;intro q;rw[q,hoc] at e;have q':oc=p.2:=HC e;exact d w' (by rw[<- q'];exact hocd)
theorem eS{M:Model}{A:Around}{E:Value->Shared->Prop}{i:Nat}{x:Str}{v:V}{u:Value}{Q:Unit->Shared->Prop}(I:Inv X pins σ H s)(hN:X.N.Nodup)(hi:X.N[i]?=some x)(hx:Loc X.env.scope x)(r:RelV v u)
  (h:∀s',Inv X pins (σ.set i (some v)) H s'->Q () s')(hf:X.fn x=true\/X.env.scope.names.lookup x=some .local:=by first|exact .inl rfl|exact .inr rfl|assumption):wpAny M A (storeName X.env x u) Q E s:=
 eV I hN hi hx r (fun s' I' _=>h s' I') hf
theorem Inv.OC{s':Shared}{ch:List Addr}(I:Inv X pins σ H s)(ho:s'.os=s.os)(u:Un (frs X.stack) ch H H' s.heap s'.heap)(hok:HOk X.prog X.w H' s'.heap)(hg:AllBare s'.gens)
  (hch:∀b∈ch,(b∈X.ex\/X.s₀.heap.get? b=none)/\b≠X.env.locals/\(∀x c,X.env.cells.lookup x=some c->c≠b)/\∀p∈X.pn++pins,p.1≠b):Inv X pins σ H' s':=by
 obtain⟨h',g',d',t',o'⟩:=s';have e:o'=s.os:=ho;subst e;exact I.call (g':=g') (t':=t') (d':=d') u hok hg hch
end
abbrev XK:=Value->Option Addr->Hp->Prop
abbrev St:=List (Option V)
abbrev VK:=V->Hp->Prop
abbrev TE:=St->Hp->VK->Prop
abbrev TT:=St->Hp->(Bool->Hp->Prop)->Prop
abbrev TA:=St->Hp->(List V->Hp->Prop)->Prop
structure Ends where
 nx:St->Hp->Prop
 rt:VK
 bk:St->Hp->Prop:=fun _ _=>False
 ct:St->Hp->Prop:=fun _ _=>False
abbrev TS:=Ends->St->Hp->Prop
def EP (X:Cx)(pins:List (Addr×Obj))(σ:St)(Q:VK)(u:Value)(s':Shared):Prop:=∃v H',Inv X pins σ H' s'/\RelV v u/\Q v H'
def TP (X:Cx)(pins:List (Addr×Obj))(σ:St)(Q:Bool->Hp->Prop)(b:Bool)(s':Shared):Prop:=∃H',Inv X pins σ H' s'/\Q b H'
def AP (X:Cx)(pins:List (Addr×Obj))(σ:St)(Q:List V->Hp->Prop)(us:List Value)(s':Shared):Prop:=∃vs H',Inv X pins σ H' s'/\Vals vs us/\Q vs H'
def SP (X:Cx)(pins:List (Addr×Obj))(D:Ends)(f:Flow)(s':Shared):Prop:=
 match f with
 |.next=>∃σ' H',Inv X pins σ' H' s'/\D.nx σ' H'
 |.brk=>∃σ' H',Inv X pins σ' H' s'/\D.bk σ' H'
 |.cont=>∃σ' H',Inv X pins σ' H' s'/\D.ct σ' H'
 |.ret u=>∃v σ' H',Inv X pins σ' H' s'/\RelV v u/\D.rt v H'
def PE (X:Cx)(e:Expr)(t:TE):Prop:=
 ∀(pins:List (Addr×Obj))(s:Shared)(σ:St)(H:Hp)(Q:VK),Inv X pins σ H s->t σ H Q->(wq X) (eval e X.env) (EP X pins σ Q) X.xe s
def PT (X:Cx)(e:Expr)(t:TT):Prop:=
 ∀(pins:List (Addr×Obj))(s:Shared)(σ:St)(H:Hp)(Q:Bool->Hp->Prop),Inv X pins σ H s->t σ H Q->(wq X) (isTrue e X.env (eval e X.env)) (TP X pins σ Q) X.xe s
def PW (X:Cx)(e:Expr)(t:TT):Prop:=
 ∀(whole:Sem Value)(pins:List (Addr×Obj))(s:Shared)(σ:St)(H:Hp)(Q:Bool->Hp->Prop),Inv X pins σ H s->t σ H Q->(wq X) (isTrue e X.env whole) (TP X pins σ Q) X.xe s
theorem PW.pt{X:Cx}{e:Expr}{t:TT}(h:PW X e t):PT X e t:=h _
def PA (X:Cx)(es:List Expr)(t:TA):Prop:=
 ∀(pos:Pos)(pins:List (Addr×Obj))(s:Shared)(σ:St)(H:Hp)(Q:List V->Hp->Prop),Inv X pins σ H s->t σ H Q->(wq X) (spliced (backTo pos (starEach es X.env))) (AP X pins σ Q) X.xe s
def PS (X:Cx)(st:Stmt)(t:TS):Prop:=
 ∀(pins:List (Addr×Obj))(s:Shared)(σ:St)(H:Hp)(D:Ends),Inv X pins σ H s->t D σ H->(wq X) (exec st X.env) (SP X pins D) X.xe s
def PSs (X:Cx)(st:List Stmt)(t:TS):Prop:=
 ∀(pins:List (Addr×Obj))(s:Shared)(σ:St)(H:Hp)(D:Ends),Inv X pins σ H s->t D σ H->(wq X) (execs st X.env) (SP X pins D) X.xe s
theorem thn{α:Type}{t:Sem α}{Q Q':α->Shared->Prop}{M:Model}{A:Around}{E:Value->Shared->Prop}{s:Shared}(h:wpAny M A t Q E s)(hQ:∀a s,Q a s->Q' a s):wpAny M A t Q' E s:=Hv h hQ fun _ _ x=>x
section
variable {X:Cx}
def yR (i:Nat):TE:=fun σ H Q=>∃v,σ[i]?=some (some v)/\Q v H
def tC (v:V):TE:=fun _ H Q=>Q v H
theorem wk{i:Nat}{x:Str}{pos:Pos}(hN:X.N[i]?=some x)(hv:Vis X.env.scope x)(hd:(x==("__debug__":Str))=false:=by decide)(hcd:(x==("__classdict__":Str))=false:=by decide):PE X (.Name x pos) (yR i):=by
 intro pins s σ H Q I h;obtain⟨v,e,h⟩:=h;obtain⟨m,hn,hl⟩:=I.loc;obtain⟨u,r,l⟩:=hl i x v hN e hv;have fin:EP X pins σ Q u s:=⟨v,H,I,r,h⟩
 rcases l with ⟨hk,hm⟩|⟨hk,c,hc,hcell⟩
 ·exact wpAny_Name (wpAny_loadName_local I.ok.kind hk hn hm fin) hd
 ·rcases hk with hk|hk
  ·exact wpAny_Name (wpAny_loadName_cell I.ok.kind hk hc hcell fin) hd
  ·exact wpAny_Name (wpAny_loadName_free I.ok.kind hk hc hcell fin hcd) hd
theorem ah{i j pos}:PE X (.Constant (.int i) j pos) (tC (.int i)):=fun _ _ _ H _ I h=>wpAny_Constant_int ⟨.int i,H,I.tok _,⟨_,rfl⟩,h⟩
theorem iW{b j pos}:PE X (.Constant (.bool b) j pos) (tC (.bl b)):=fun _ _ _ H _ I h=>Constant_bool ⟨.bl b,H,I,rfl,h⟩
theorem bR{j pos}:PE X (.Constant .none j pos) (tC .non):=fun _ _ _ H _ I h=>Constant_none ⟨.non,H,I,rfl,h⟩
theorem bo{x j pos}:PE X (.Constant (.str x) j pos) (tC (.str x)):=fun _ _ _ H _ I h=>Calls.Constant_str ⟨.str x,H,I.tok _,⟨_,rfl⟩,h⟩
def Gl (X:Cx)(x:Str):Prop:=X.env.kindOf x=some .globalImplicit
theorem pZ{E:Value->Shared->Prop}{pins:List (Addr×Obj)}{s:Shared}{σ:St}{H:Hp}{x:Str}{u:Value}{pos:Pos}{Q:Value->Shared->Prop}(I:Inv X pins σ H s)(hg:Gl X x)(hm:X.mg x=some u)(h:Q u s)
  (hd:(x==("__debug__":Str))=false:=by decide):(wq X) (eval (.Name x pos) X.env) Q E s:=
 Calls.Name_function_global I.ok.kind hg (Calls.loadGlobal_global (by rw[I.ok.glob];exact I.mod.glob.keeps I.bk) hm h) hd
theorem cX{E:Value->Shared->Prop}{pins:List (Addr×Obj)}{s:Shared}{σ:St}{H:Hp}{x:Str}{u:Value}{pos:Pos}{Q:Value->Shared->Prop}(I:Inv X pins σ H s)(hg:Gl X x)(hm:X.mg x=none)(hv:bootBuiltins x=some u)(h:Q u s)
  (hn:x≠"__name__":=by decide)(hd:(x==("__debug__":Str))=false:=by decide):(wq X) (eval (.Name x pos) X.env) Q E s:=by
 obtain⟨mb,h1,h2⟩:=I.mod.blt;exact Calls.Name_function_global I.ok.kind hg (Calls.loadGlobal_builtin (by rw[I.ok.glob];exact I.mod.glob.keeps I.bk) hm (by rw[I.ok.blt];exact h1.keeps I.bk) ((h2 x hn).trans hv) h) hd
theorem gH{x:Str}{v:V}{u:Value}{pos:Pos}(hg:Gl X x)(hm:X.mg x=some u)(r:RelV v u)(hd:(x==("__debug__":Str))=false:=by decide):PE X (.Name x pos) (tC v):=
 fun _ _ _ H _ I h=>pZ I hg hm ⟨v,H,I,r,h⟩ hd
theorem fm{x:Str}{v:V}{u:Value}{pos:Pos}(hg:Gl X x)(hm:X.mg x=none)(hv:bootBuiltins x=some u)(r:RelV v u)(hn:x≠"__name__":=by decide)(hd:(x==("__debug__":Str))=false:=by decide):PE X (.Name x pos) (tC v):=
 fun _ _ _ H _ I h=>cX I hg hm hv ⟨v,H,I,r,h⟩ hn hd
variable {a b:Expr}{ta tb:TE}{pos:Pos}
def PC (X:Cx)(op:CmpOp)(a b:Expr)(t:TE):Prop:=
 ∀(pins:List (Addr×Obj))(s:Shared)(σ:St)(H:Hp)(Q:VK),Inv X pins σ H s->t σ H Q ->
  (wq X) (eval a X.env) (fun v s₁=>(wq X) (eval b X.env) (fun u s₂=>(wq X) (compareOp op v u) (EP X pins σ Q) X.xe s₂) X.xe s₁) X.xe s
theorem eL(b:Expr){op:CmpOp}(h:op≠.In)(h2:op≠.NotIn):behindInMarks op b=false:=by
 have e1:(op==CmpOp.In)=false:=by cases op<;>first|rfl|exact absurd rfl h
 have e2:(op==CmpOp.NotIn)=false:=by cases op<;>first|rfl|exact absurd rfl h2
 cases b<;>simp[behindInMarks,e1,e2]
def tB (t:TE):TT:=fun σ H Q=>t σ H fun x H1=>∃c,x=.bl c/\Q c H1
theorem ml{op:CmpOp}{t:TE}(h:PC X op a b t)(h1:behindInMarks op b=false:=by first|exact eL _ (by decide) (by decide)|rfl):PT X (.Compare a [op] [b] pos) (tB t):=by
 intro pins s σ H Q I hw;refine wpAny_isTrue_Compare1 (thn (h pins s σ H _ I hw) fun v s1 h1=>thn h1 fun u s2 h2=>thn h2 fun c s3 hq2=>?_) h1;obtain⟨x,H1,I1,r1,q1⟩:=hq2;obtain⟨d,rfl,q⟩:=q1;cases r1;exact wpAny_truthy_bool ⟨H1,I1,q⟩
theorem fE{e:Expr}{t:TE}(h:PE X e t)(he:∀whole,isTrue e X.env whole=(do let v <- whole;standAt e.pos;holding [v] (truthy v)):=by intro _;rfl):PT X e (tB t):=by
 intro pins s σ H Q I hw;refine isTrue_plain (thn (h pins s σ H _ I hw) fun v s1 hq3=>?_) (he _);obtain⟨x,H1,I1,r1,q1⟩:=hq3;obtain⟨d,rfl,q⟩:=q1;cases r1;exact wpAny_truthy_bool ⟨H1,I1,q⟩
variable {tA tB':TT}{rest:List Expr}
def tAnd (t u:TT):TT:=fun σ H Q=>t σ H fun c H1=>if c=true then u σ H1 Q else Q false H1
def tOr (t u:TT):TT:=fun σ H Q=>t σ H fun c H1=>if c=true then Q true H1 else u σ H1 Q
def tNot (t:TT):TT:=fun σ H Q=>t σ H fun c H1=>Q (!c) H1
theorem cZ(ha:PT X a tA):PW X (.BoolOp .And [a] pos) tA:=by
 intro wh pins s σ H Q I h;refine isTrue_and (thn (ha pins s σ H Q I h) fun c s1 e=>?_);cases c with
 |true=>exact isTrue_and_nil e
 |false=>exact e
theorem gB(ha:PT X a tA):PW X (.BoolOp .Or [a] pos) tA:=by
 intro wh pins s σ H Q I h;refine isTrue_or (thn (ha pins s σ H Q I h) fun c s1 e=>?_);cases c with
 |false=>exact isTrue_or_nil e
 |true=>exact e
theorem fF(ha:PT X a tA)(hb:PW X (.BoolOp .And (b::rest) pos) tB'):PW X (.BoolOp .And (a::b::rest) pos) (tAnd tA tB'):=by
 intro wh pins s σ H Q I h;refine isTrue_and (thn (ha pins s σ H _ I h) fun c s1 hq4=>?_);obtain⟨H1,I1,q1⟩:=hq4;cases c with
 |true=>exact hb wh pins s1 σ H1 Q I1 q1
 |false=>exact⟨H1,I1,q1⟩
theorem ke(ha:PT X a tA)(hb:PW X (.BoolOp .Or (b::rest) pos) tB'):PW X (.BoolOp .Or (a::b::rest) pos) (tOr tA tB'):=by
 intro wh pins s σ H Q I h;refine isTrue_or (thn (ha pins s σ H _ I h) fun c s1 hq5=>?_);obtain⟨H1,I1,q1⟩:=hq5;cases c with
 |true=>exact⟨H1,I1,q1⟩
 |false=>exact hb wh pins s1 σ H1 Q I1 q1
theorem gP(ha:PT X a tA):PT X (.UnaryOp .Not a pos) (tNot tA):=by
 intro pins s σ H Q I h;exact isTrue_not (ha pins s σ H (fun c H1=>Q (!c) H1) I h)
def yY (ta tb:TE):TE:=fun σ H Q=>ta σ H fun x H1=>∃c,x=.bl c/\if c=true then tb σ H1 Q else Q (.bl false) H1
def yW (ta:TE):TE:=fun σ H Q=>ta σ H fun x H1=>∃c,x=.bl c/\Q (.bl (!c)) H1
theorem oF{op}{t:TE}(h:PE X a t):PE X (.BoolOp op [a] pos) t:=fun pins s σ H Q I hw=>BoolOp_one (h pins s σ H Q I hw)
theorem iq(ha:PE X a ta)(hb:PE X (.BoolOp .And (b::rest) pos) tb):PE X (.BoolOp .And (a::b::rest) pos) (yY ta tb):=by
 intro pins s σ H Q I h;refine BoolOp_and (thn (ha pins s σ H _ I h) fun v s1 hq6=>?_);obtain⟨x,H1,I1,r1,q1⟩:=hq6;obtain⟨c,rfl,q1⟩:=q1;cases r1;refine wpAny_truthy_bool ?_;cases c with
 |true=>exact hb pins s1 σ H1 Q I1 q1
 |false=>exact⟨.bl false,H1,I1,rfl,q1⟩
theorem sN(ha:PE X a ta):PE X (.UnaryOp .Not a pos) (yW ta):=by
 intro pins s σ H Q I h;refine UnaryOp_ (thn (ha pins s σ H _ I h) fun v s1 hq7=>?_);obtain⟨x,H1,I1,r1,q1⟩:=hq7;obtain⟨c,rfl,q1⟩:=q1;cases r1;exact not_of (wpAny_truthy_bool ⟨.bl (!c),H1,I1,rfl,q1⟩)
def tIf (t:TT)(ta tb:TE):TE:=fun σ H Q=>t σ H fun c H1=>if c=true then ta σ H1 Q else tb σ H1 Q
theorem eQ{c:Expr}(hc:PT X c tA)(ha:PE X a ta)(hb:PE X b tb):PE X (.IfExp c a b pos) (tIf tA ta tb):=by
 intro pins s σ H Q I h;refine wpAny_IfExp (thn (hc pins s σ H _ I h) fun d s1 hq8=>?_);obtain⟨H1,I1,q1⟩:=hq8;cases d with
 |true=>exact ha pins s1 σ H1 Q I1 q1
 |false=>exact hb pins s1 σ H1 Q I1 q1
end
def SqL (K:W.Frag)(H:Hp)(a:Addr)(xs:List V):Prop:=
 Rd H a (.lst xs) \/
  ∃(o:Obj)(its:Array Value)(n:Nat),K.lookup a=some o/\o.cls=.type "list"/\o.dict=none/\o.data=.seq its n/\its.size<=sizeLine/\Vals xs its.toList
def SqT (K:W.Frag)(H:Hp)(a:Addr)(xs:List V):Prop:=
 Rd H a (.tup xs) \/
  ∃(o:Obj)(its:Array Value)(n:Nat),K.lookup a=some o/\o.cls=.type "tuple"/\o.data=.seq its n/\its.size<=sizeLine/\Vals xs its.toList
def absV:Value->Option V
 |.none=>some .non
 |.bool b=>some (.bl b)
 |.int i _=>some (.int i)
 |.str x _=>some (.str x)
 |.bytes b _=>some (.byt b)
 |.float b _=>some (.flt b)
 |.ref a=>some (.ref a)
 |.type n=>some (.ty n)
 |_=>none
theorem RelV.abs{x:V}{u:Value}(r:RelV x u):absV u=some x:=by
 cases x with
 |non=>cases r;rfl
 |bl _=>cases r;rfl
 |int _=>obtain⟨t,rfl⟩:=r;rfl
 |str _=>obtain⟨t,rfl⟩:=r;rfl
 |byt _=>obtain⟨t,rfl⟩:=r;rfl
 |flt _=>obtain⟨t,rfl⟩:=r;rfl
 |ref _=>cases r;rfl
 |ty _=>cases r;rfl
theorem RelV.inj{x y:V}{u:Value}(r:RelV x u)(q:RelV y u):x=y:=HC (r.abs.symm.trans q.abs)
theorem Vals.inj:∀{xs ys:List V}{us:List Value},Vals xs us->Vals ys us->xs=ys
 |_,_,_,.nil,.nil=>rfl
 |_,_,_,.cons r t,.cons r' t'=>by rw[r.inj r',Vals.inj t t']
section
variable {X:Cx}{pins:List (Addr×Obj)}{σ:St}{H:Hp}{s:Shared}{a:Addr}{xs ys:List V}
theorem SqL.of{K:W.Frag}(h:H a=some (.lst xs)):SqL K H a xs:=.inl (.inl h)
theorem SqT.of{K:W.Frag}(h:H a=some (.tup xs)):SqT K H a xs:=.inl (.inl h)
theorem Inv.list(I:Inv X pins σ H s)(h:SqL X.K H a xs):∃its:List Value,Vals xs its/\PlainL s.heap a its.toArray/\xs.length<=sizeLine:=by
 rcases h with h|⟨o,its,n,hk,hc,hd,hs,hz,r⟩
 ·obtain⟨z,its,n,r,e⟩:=h.ok I.hok;exact⟨its,r,⟨_,n,e,rfl,rfl,rfl⟩,z⟩
 ·refine⟨its.toList,r,⟨o,n,I.kIn a o hk,hc,hd,by simpa using hs⟩,?_⟩;have e:=r.length;simp only[EY] at e;lia
theorem Inv.tuple(I:Inv X pins σ H s)(h:SqT X.K H a xs):∃its:List Value,Vals xs its/\IsTup s.heap a its.toArray/\xs.length<=sizeLine:=by
 rcases h with h|⟨o,its,n,hk,hc,hs,hz,r⟩
 ·obtain⟨z,its,r,p⟩:=h.ok I.hok;exact⟨its,r,p,z⟩
 ·refine⟨its.toList,r,⟨o,I.kIn a o hk,hc,n,by simpa using hs⟩,?_⟩;have e:=r.length;simp only[EY] at e;lia
theorem Inv.Jq(I:Inv X pins σ H s)(h:SqL X.K H a xs)(h':SqL X.K H a ys):xs=ys:=by
 obtain⟨its,r,⟨o,n,e,_,_,d⟩,_⟩:=I.list h;obtain⟨its',r',⟨o',n',e',_,_,d'⟩,_⟩:=I.list h';rw[e] at e';cases e';rw[d] at d';injection d' with d1 _;have:its=its':=by simpa using congrArg Array.toList d1
 subst this;exact r.inj r'
theorem Inv.LK(I:Inv X pins σ H s)(h:SqT X.K H a xs)(h':SqT X.K H a ys):xs=ys:=by
 obtain⟨its,r,⟨o,e,_,n,d⟩,_⟩:=I.tuple h;obtain⟨its',r',⟨o',e',_,n',d'⟩,_⟩:=I.tuple h';rw[e] at e';cases e';rw[d] at d';injection d' with d1 _;have:its=its':=by simpa using congrArg Array.toList d1
 subst this;exact r.inj r'
end
abbrev Cx.Iy(X:Cx)(E:Value->Shared->Prop):Cx:={X with xe:=E}
abbrev Cx.nox(X:Cx):Cx:=X.Iy fun _ _=>False
theorem Cx.Ok.Iy{X:Cx}(ok:X.Ok)(E:Value->Shared->Prop):(X.Iy E).Ok:=
 ⟨ok.mod,ok.kind,ok.glob,ok.blt,ok.above,ok.inj,ok.has,ok.cab,ok.hd,ok.frames,ok.stk,ok.exf,ok.bs,ok.bsz,ok.NP,ok.MI,ok.Lk,ok.frf⟩
theorem Cx.Ok.Jo{X:Cx}{E:Value->Shared->Prop}(ok:(X.Iy E).Ok):X.Ok:=
 ⟨ok.mod,ok.kind,ok.glob,ok.blt,ok.above,ok.inj,ok.has,ok.cab,ok.hd,ok.frames,ok.stk,ok.exf,ok.bs,ok.bsz,ok.NP,ok.MI,ok.Lk,ok.frf⟩
section
variable {X:Cx}{pins:List (Addr×Obj)}{σ:St}{H:Hp}{s:Shared}{E:Value->Shared->Prop}
theorem Inv.Iy(I:Inv X pins σ H s)(E:Value->Shared->Prop):Inv (X.Iy E) pins σ H s:=⟨I.ok.Iy E,I.os,I.bare,I.base,I.loc,I.cell,I.free,I.Jc,I.pin,I.hok,I.len⟩
theorem Inv.Jo(I:Inv (X.Iy E) pins σ H s):Inv X pins σ H s:=⟨I.ok.Jo,I.os,I.bare,I.base,I.loc,I.cell,I.free,I.Jc,I.pin,I.hok,I.len⟩
theorem SP.Jo{D:Ends}{f:Flow}{s':Shared}(h:SP (X.Iy E) pins D f s'):SP X pins D f s':=by
 cases f with
 |next=>obtain⟨σ',H',I,q⟩:=h;exact⟨σ',H',I.Jo,q⟩
 |brk=>obtain⟨σ',H',I,q⟩:=h;exact⟨σ',H',I.Jo,q⟩
 |cont=>obtain⟨σ',H',I,q⟩:=h;exact⟨σ',H',I.Jo,q⟩
 |ret u=>obtain⟨v,σ',H',I,r,q⟩:=h;exact⟨v,σ',H',I.Jo,r,q⟩
theorem PSs.nox{st:List Stmt}{t:TS}(h:PSs X.nox st t):PSs X st t:=fun pins s σ H D I hw=>
 Hv (h pins s σ H D (I.Iy _) hw) (fun _ _ q=>q.Jo) fun _ _ z=>False.elim z
end
section
variable {X:Cx}{st:Stmt}{rest:List Stmt}{t u:TS}{e:Expr}{te:TE}{pos:Pos}
def Pt:TS:=fun D σ H=>D.nx σ H
def yo (t u:TS):TS:=fun D σ H=>t {D with nx:=u D} σ H
theorem HZ:PSs X [] Pt:=fun _ _ σ H _ I h=>wpAny_execs_nil ⟨σ,H,I,h⟩
theorem ae(h1:PS X st t)(h2:PSs X rest u):PSs X (st::rest) (yo t u):=by
 intro pins s σ H D I h;refine wpAny_execs_cons (thn (h1 pins s σ H {D with nx:=u D} I h) fun f s1 q=>?_);cases f with
 |next=>
  obtain⟨σ',H',I',q⟩:=q;exact h2 pins s1 σ' H' D I' q
 |ret v=>exact q
 |brk=>exact q
 |cont=>exact q
theorem aq(h1:PS X st t):PSs X [st] t:=by
 intro pins s σ H D I h;refine wpAny_execs_cons (thn (h1 pins s σ H D I h) fun f s1 q=>?_);cases f with
 |next=>exact wpAny_execs_nil q
 |ret v=>exact q
 |brk=>exact q
 |cont=>exact q
theorem Inv.quiet{pins:List (Addr×Obj)}{σ:St}{H:Hp}{s:Shared}(I:Inv X pins σ H s):interactive X.env=false:=by simp[interactive,I.ok.kind]
def zp (te:TE):TS:=fun D σ H=>te σ H fun _ H1=>D.nx σ H1
theorem aV(he:PE X e te)(hs:swapsWith e none pos.line X.env=pure false:=by rfl):PS X (.Expr e pos) (zp te):=by
 intro pins s σ H D I h;refine wpAny_Expr_any (thn (he pins s σ H _ I h) fun v s1 hq9=>?_) I.quiet hs;obtain⟨x,H1,I1,r1,q1⟩:=hq9;exact⟨σ,H1,I1,q1⟩
def tRet (te:TE):TS:=fun D σ H=>te σ H D.rt
theorem aH(he:PE X e te):PS X (.Return (some e) pos) (tRet te):=by
 intro pins s σ H D I h;refine wpAny_Return_some (thn (he pins s σ H _ I h) fun v s1 hq10=>?_);obtain⟨x,H1,I1,r1,q1⟩:=hq10;exact⟨x,σ,H1,I1,r1,q1⟩
def tIfS (c:TT)(t u:TS):TS:=fun D σ H=>c σ H fun b H1=>if b=true then t D σ H1 else u D σ H1
theorem br{c:Expr}{a b:List Stmt}{tc:TT}(hc:PT X c tc)(ha:PSs X a t)(hb:PSs X b u):PS X (.If c a b pos) (tIfS tc t u):=by
 intro pins s σ H D I h;refine wpAny_If (thn (hc pins s σ H _ I h) fun d s1 hq11=>?_);obtain⟨H1,I1,q1⟩:=hq11;cases d with
 |true=>exact ha pins s1 σ H1 D I1 q1
 |false=>exact hb pins s1 σ H1 D I1 q1
def Oa:TS:=fun _ _ _=>False
theorem JE:PS X st Oa:=fun _ _ _ _ _ _ h=>h.elim
end
abbrev TG:=V->St->Hp->(St->Hp->Prop)->Prop
abbrev TGs:=List V->St->Hp->(St->Hp->Prop)->Prop
def PG (X:Cx)(target:Expr)(t:TG):Prop:=
 ∀(pins:List (Addr×Obj))(s:Shared)(σ:St)(H:Hp)(v:V)(u:Value)(Q:St->Hp->Prop),Inv X pins σ H s->RelV v u->t v σ H Q ->
  (wq X) (assign target X.env u) (fun _ s'=>∃σ' H',Inv X pins σ' H' s'/\Q σ' H') X.xe s
def PGs (X:Cx)(ts:List Expr)(t:TGs):Prop:=
 ∀(pins:List (Addr×Obj))(s:Shared)(σ:St)(H:Hp)(vs:List V)(us:List Value)(Q:St->Hp->Prop),Inv X pins σ H s->Vals vs us->t vs σ H Q ->
  (wq X) (assignInOrder ((assignEach ts X.env).map (·.2)) us) (fun _ s'=>∃σ' H',Inv X pins σ' H' s'/\Q σ' H') X.xe s
abbrev Pw:=V->V->V->Hp->(Hp->Prop)->Prop
def Af (X:Cx)(t:Pw):Prop:=
 ∀(pins:List (Addr×Obj))(s:Shared)(σ:St)(H:Hp)(o i v:V)(ov iv u:Value)(Q:Hp->Prop),Inv X pins σ H s->RelV o ov->RelV i iv->RelV v u->t o i v H Q ->
  (wq X) (setItem ov iv u) (fun _ s'=>∃H',Inv X pins σ H' s'/\Q H') X.xe s
abbrev TIp:=V->V->Hp->VK->Prop
def PIp (X:Cx)(op:Operator)(t:TIp):Prop:=
 ∀(pins:List (Addr×Obj))(s:Shared)(σ:St)(H:Hp)(x y:V)(v u:Value)(Q:VK),Inv X pins σ H s->RelV x v->RelV y u->t x y H Q ->
  (wq X) (inplaceOp op v u) (EP X pins σ Q) X.xe s
section
variable {X:Cx}{pos:Pos}
def vw (i:Nat):TG:=fun v σ H Q=>Q (σ.set i (some v)) H
theorem ar{i:Nat}{x:Str}(hN:X.N.Nodup)(hi:X.N[i]?=some x)(hx:Loc X.env.scope x)(hf:X.fn x=true\/X.env.scope.names.lookup x=some .local:=by first|exact .inl rfl|exact .inr rfl|assumption):PG X (.Name x pos) (vw i):=by
 intro pins s σ H v u Q I r h;exact wpAny_assign_Name (eS I hN hi hx r (fun s' I'=>⟨_,H,I',h⟩) hf)
def gNil:TGs:=fun vs σ H Q=>vs=[]/\Q σ H
def zG (t:TG)(u:TGs):TGs:=fun vs σ H Q=>∃v r,vs=v::r/\t v σ H fun σ' H'=>u r σ' H' Q
theorem Ip:PGs X [] gNil:=by
 intro pins s σ H vs us Q I r h;obtain⟨e,h⟩:=h;subst e;cases r;exact assignInOrder_nil ⟨σ,H,I,h⟩
theorem ax{e:Expr}{es:List Expr}{t:TG}{u:TGs}(h1:PG X e t)(h2:PGs X es u)
  (hs:(assignEach (e::es) X.env).map (·.2)=assign e X.env::(assignEach es X.env).map (·.2):=by rfl):PGs X (e::es) (zG t u):=by
 intro pins s σ H vs us Q I r h;obtain⟨v,vr,e1,h⟩:=h;subst e1;cases r with
 |cons r rr=>
  rw[hs];refine assignInOrder_cons (thn (h1 pins s σ H _ _ _ I r h) fun _ s1 hq12=>?_);obtain⟨σ1,H1,I1,q1⟩:=hq12;exact h2 pins s1 σ1 H1 _ _ Q I1 rr q1
def Ag (K:W.Frag)(n:Nat)(t:TGs):TG:=fun v σ H Q=>∃a xs,v=.ref a/\SqT K H a xs/\xs.length=n/\t xs σ H Q
theorem cj{es:List Expr}{k:Nat}{t:TGs}{n:Nat}(hc:X.calm=true)(h:PGs X es t)
  (hn:(assignEach es X.env).length=n:=by rfl)(hst:(assignEach es X.env).findIdx? (·.1)=none:=by rfl):PG X (.Tuple es k pos) (Ag X.K n t):=by
 intro pins s σ H v u Q I r hw;obtain⟨a,xs,e1,hq,hl,hw⟩:=hw;subst e1;cases r;obtain⟨its,rv,ht,hz⟩:=I.tuple hq;refine assign_Tuple_tuple (I.ok.hd hc) ht (by simp[hn,<- hl,rv.length]) hst fun h' hx=>?_;have I1:Inv X pins σ H {s with heap:=h'}:=I.kept (t':=s.toks) fun b o e=>hx b o (DZ (Hz e)) e;exact h pins _ σ H xs _ Q I1 (by simpa using rv) hw
def gSub (to ti:TE)(t:Pw):TG:=fun v σ H Q=>to σ H fun o H1=>ti σ H1 fun i H2=>t o i v H2 fun H3=>Q σ H3
theorem kX{o i:Expr}{to ti:TE}{t:Pw}(ho:PE X o to)(hi:PE X i ti)(hs:Af X t)
  (ha:∀v,assign (.Subscript o i pos) X.env v=(do
   let ov <- holding [v] (eval o X.env)
   let iv <- holding [v,ov] (eval i X.env)
   standAt pos
   holding [v,ov,iv] (setItem ov iv v)
   release [v,ov,iv] []):=by intro _; rfl):PG X (.Subscript o i pos) (gSub to ti t):=by
 intro pins s σ H v u Q I r h;rw[ha];refine Hm (Hw (thn (ho pins s σ H _ I h) fun ov s1 hq13=>?_));obtain⟨x,H1,I1,r1,q1⟩:=hq13;refine Hm (Hw (thn (hi pins s1 σ H1 _ I1 q1) fun iv s2 hq14=>?_));obtain⟨y,H2,I2,r2,q2⟩:=hq14;refine Hm (wpAny_standAt (Hm (Hw (thn (hs pins s2 σ H2 x y v ov iv u _ I2 r1 r2 r q2) fun _ s3 hq15=>?_))));obtain⟨H3,I3,q3⟩:=hq15;exact wpAny_release ⟨σ,H3,I3,q3⟩
def Ae (te:TE)(g:TG):TS:=fun D σ H=>te σ H fun x H1=>g x σ H1 D.nx
theorem cx{tg e:Expr}{te:TE}{g:TG}(he:PE X e te)(hg:PG X tg g)(hs:swapsWithSole [tg] e pos.line X.env=pure false:=by rfl)(hw:swappedStores [tg] e X.env=pure none:=by rfl)
  (h1:(assignEach [tg] X.env).map (·.2)=[assign tg X.env]:=by rfl):PS X (.Assign [tg] e pos) (Ae te g):=by
 intro pins s σ H D I h;refine wpAny_Assign_stores (thn (he pins s σ H _ I h) fun v s1 hq16=>?_) hs hw;obtain⟨x,H1,I1,r1,q1⟩:=hq16;rw[h1];exact thn (hg pins s1 σ H1 x v _ I1 r1 q1) fun _ s2 q=>q
theorem aw{i:Nat}{x:Str}{e:Expr}{te:TE}{pos':Pos}(hN:X.N.Nodup)(hi:X.N[i]?=some x)(hx:Loc X.env.scope x)(he:PE X e te)(hs:swapsWith e (some (.Name x pos')) pos.line X.env=pure false:=by rfl)(hf:X.fn x=true\/X.env.scope.names.lookup x=some .local:=by first|exact .inl rfl|exact .inr rfl|assumption) :
  PS X (.Assign [.Name x pos'] e pos) (Ae te (vw i)):=by
 intro pins s σ H D I h;refine wpAny_Assign_Name (thn (he pins s σ H _ I h) fun v s1 hq17=>?_) hs;obtain⟨y,H1,I1,r1,q1⟩:=hq17;exact eS I1 hN hi hx r1 (fun s2 I2=>⟨_,H1,I2,q1⟩) hf
def tPar (i j:Nat)(ta:TA):TS:=fun D σ H=>ta σ H fun vs H1=>∃v w,vs=[v,w]/\D.nx ((σ.set i (some v)).set j (some w)) H1
theorem gR{i j:Nat}{x y:Str}{a b:Expr}{ta:TA}{px py pt:Pos}{kt k2 pt2}(hc:X.calm=true)(hN:X.N.Nodup)(hi:X.N[i]?=some x)(hj:X.N[j]?=some y)(hij:i≠j)
  (hx:X.env.scope.names.lookup x=some .local)(hy:X.env.scope.names.lookup y=some .local)(ha:PA X [a,b] ta)
  (hw:swappedStores [.Tuple [.Name x px,.Name y py] kt pt] (.Tuple [a,b] k2 pt2) X.env=pure (some [x,y]))
  (hs:swapsWithSole [.Tuple [.Name x px,.Name y py] kt pt] (.Tuple [a,b] k2 pt2) pos.line X.env=pure false:=by rfl) :
  PS X (.Assign [.Tuple [.Name x px,.Name y py] kt pt] (.Tuple [a,b] k2 pt2) pos) (tPar i j ta):=by
 intro pins s σ H D I h;rw[exec_Assign_arm];refine Hm (wpAny_standAt ?_);rw[hs];refine Hm (Hn ?_);rw[Ho (by decide)];refine Hm (Tuple_ (thn (ha _ pins s σ H _ I h) fun us s1 hq18=>?_));obtain⟨vs,H1,I1,r1,q1⟩:=hq18;obtain⟨v,w,e1,q1⟩:=q1;subst e1;obtain⟨u1,u2,rfl,rv,rw'⟩:∃u1 u2,us=[u1,u2]/\RelV v u1/\RelV w u2:=by
  cases r1 with
  |cons p q=>
   cases q with
   |cons p' q'=>
    cases q';exact⟨_,_,rfl,p,p'⟩
 refine wpAny_newObj_type ?_ (by show 2<=sizeLine;decide);have I2:Inv X pins σ H1 {s1 with heap:=s1.heap.push {cls:=.type "tuple",data:=.seq [u1,u2].toArray}}:=I1.kept (t':=s1.toks) fun b o e=>HJ _ e;rw[hw];refine Hm (Hn ?_);show (wq X) (do rule "assign.swapped-stores";let items <- unpackItems (.ref s1.heap.objs.size) 2 none;assignInOrder [fun v=>bindName X.env y v,fun v=>bindName X.env x v] items.reverse;pure Flow.next) _ _ _;refine Hm (HS (Hm (unpackItems_tuple (items:=#[u1,u2]) (I.ok.hd hc) (IsTup.new s1.heap _) fun h' hx'=>?_)));have I3:=I2.kept (h':=h') (t':=s1.toks) fun b o e=>hx' b o (DZ (Hz e)) e;show wpAny _ _ (assignInOrder [fun v=>bindName X.env y v,fun v=>bindName X.env x v] [u2,u1] >>= fun _=>pure Flow.next) _ _ _;refine Hm (assignInOrder_cons (wpAny_bindName (eS I3 hN hj (.inl hy) rw' (fun s2 I4=>?_) (.inr hy))));refine assignInOrder_cons (wpAny_bindName (eS I4 hN hi (.inl hx) rv (fun s3 I5=>assignInOrder_nil (Hn ?_)) (.inr hx)));rw[List.set_comm _ _ (HI hij)] at I5;exact⟨_,H1,I5,q1⟩
def tAug (i:Nat)(te:TE)(ti:TIp):TS:=fun D σ H=>∃x,σ[i]?=some (some x)/\te σ H fun y H1=>ti x y H1 fun z H2=>D.nx (σ.set i (some z)) H2
theorem nB{i:Nat}{x:Str}{e:Expr}{te:TE}{op:Operator}{ti:TIp}{pos':Pos}(hN:X.N.Nodup)(hi:X.N[i]?=some x)(hx:Loc X.env.scope x)(he:PE X e te)(ho:PIp X op ti)(hf:X.fn x=true\/X.env.scope.names.lookup x=some .local:=by first|exact .inl rfl|exact .inr rfl|assumption) :
  PS X (.AugAssign (.Name x pos') op e pos) (tAug i te ti):=by
 intro pins s σ H D I h;obtain⟨v,e1,h⟩:=h;obtain⟨m,hn,hl⟩:=I.loc;have vis:Vis X.env.scope x:=by rcases hx with k|k;exact .inl k;exact .inr (.inl k)
 obtain⟨u,r,l⟩:=hl i x v hi e1 vis;refine wpAny_AugAssign_Name ?_;have go:(wq X) (eval e X.env) (fun w s₂=>(wq X) (inplaceOp op u w) (fun r s₃=>(wq X) (storeName X.env x r) (fun _=>SP X pins D .next) X.xe s₃) X.xe s₂) X.xe s:=by
  refine thn (he pins s σ H _ I h) fun w s1 hq19=>?_;obtain⟨y,H1,I1,r1,q1⟩:=hq19;refine thn (ho pins s1 σ H1 v y u w _ I1 r r1 q1) fun z s2 hq20=>?_;obtain⟨zv,H2,I2,r2,q2⟩:=hq20;exact eS I2 hN hi hx r2 (fun s3 I3=>⟨_,H2,I3,q2⟩) hf
 rcases l with ⟨hk,hm⟩|⟨hk,c,hc,hcell⟩
 ·exact wpAny_loadName_local I.ok.kind hk hn hm go
 ·rcases hk with hk|hk
  ·exact wpAny_loadName_cell I.ok.kind hk hc hcell go
  ·rcases hx with k|k
   ·have:X.env.scope.names.lookup x=some .free:=hk;rw[k] at this;cases this
   ·have:X.env.scope.names.lookup x=some .free:=hk;rw[k] at this;cases this
def ipI (f:Int->Int->Int):TIp:=fun x y H Q=>∃i j,x=.int i/\y=.int j/\Q (.int (f i j)) H
theorem LU:PIp X .Add (ipI fun i j=>i+j):=by
 intro pins s σ H x y v u Q I r1 r2 h;obtain⟨i,j,e1,e2,q⟩:=h;subst e1;subst e2;obtain⟨t,rfl⟩:=r1;obtain⟨t',rfl⟩:=r2;exact iadd_int ⟨.int _,H,I.tok _,⟨_,rfl⟩,q⟩
def wq (c:TT)(tb:TS):TS:=fun D σ H=>∃W:Nat->St->Hp->Prop,(∃m,W m σ H)/\∀m σ H,W m σ H ->
 c σ H fun b H1=>if b=true then ∃N:St->Hp->Prop,(∀σ' H',N σ' H'->∃m',m'<m/\W m' σ' H')/\tb {D with nx:=N,ct:=N,bk:=D.nx} σ H1 else D.nx σ H1
theorem dM{c:Expr}{body:List Stmt}{tc:TT}{tb:TS}(hp:PassesOwn (model X.prog X.w) X.A X.env X.xe)(hc:PT X c tc)(hb:PSs X body tb):PS X (.While c body [] pos) (wq tc tb):=by
 intro pins s σ H D I h;obtain⟨W,⟨m0,w0⟩,turn⟩:=h;refine wpAny_While (codeAny_whileLoop (fun n s'=>∃σ' H',Inv X pins σ' H' s'/\W n σ' H') ?_ m0 ⟨σ,H,I,w0⟩);rintro n s1 ⟨σ1,H1,I1,w1⟩;refine wpAny_passesOwn hp (thn (hc pins s1 σ1 H1 _ I1 (turn n σ1 H1 w1)) fun b s2 hq21=>?_);obtain⟨H2,I2,q2⟩:=hq21;cases b with
 |true=>
  obtain⟨N,hN,q2⟩:=q2;rw[Hq rfl];refine wpAny_passesOwn hp (thn (hb pins s2 σ1 H2 _ I2 q2) fun f s3 q3=>?_);cases f with
  |next=>
   obtain⟨σ3,H3,I3,n3⟩:=q3;obtain⟨m',hm,w3⟩:=hN σ3 H3 n3;exact⟨m',hm,σ3,H3,I3,w3⟩
  |cont=>
   obtain⟨σ3,H3,I3,n3⟩:=q3;obtain⟨m',hm,w3⟩:=hN σ3 H3 n3;exact⟨m',hm,σ3,H3,I3,w3⟩
  |brk=>exact q3
  |ret v=>exact q3
 |false=>
  rw[Ho Ek];exact wpAny_execs_nil ⟨σ1,H2,I2,q2⟩
end
structure It where
 go:Nat->Hp->Prop
 yld:Nat->Hp->V->Hp->Prop
 stop:Nat->Hp->Prop
def ID (X:Cx)(pins:List (Addr×Obj))(H:Hp)(b:Addr):Prop:=
 H b=none/\b≠X.env.locals/\b∉X.fs/\(b∈X.ex\/X.s₀.heap.get? b=none)/\(∀x c,X.env.cells.lookup x=some c->c≠b)/\∀p∈X.pn++pins,p.1≠b
theorem Inv.Ma{X:Cx}{pins:List (Addr×Obj)}{σ:St}{H H':Hp}{s:Shared}{b:Addr}(I:Inv X pins σ H s)(hb:s.heap.objs.size<=b)(hn:H' b=none):ID X pins H' b:=by
 refine⟨hn,Fy (DT I.lt hb),I.nofs hb,.inr (Heap.get?_none_of_le (Ee I.sz hb)),fun x c e z=>?_,fun p hp z=>?_⟩
 ·obtain⟨v,q⟩:=I.cell x c e;exact absurd (DT q.lt (by rw[z];exact hb)) (Er _)
 ·exact absurd (DT (Hz (I.pin p hp).1) (by rw[z];exact hb)) (Er _)
structure Turn(P:Program)(w:World)(K:W.Frag)(tg:Expr)(J:It)(fp:List Addr)(it:Addr)(tn:Nat->Heap->Prop):Prop where
 mem:it∈fp
 obj:∀i h,tn i h->∀b∈fp,∃o,h.get? b=some o/\∀v,o.data≠.cell v
 keep:∀i h h',tn i h->(∀b∈fp,∀o,h.get? b=some o->h'.get? b=some o)->tn i h'
 item:∀(X:Cx),X.prog=P->X.w=w->X.K=K->X.calm=true->∀(i:Nat)(pins:List (Addr×Obj))(s:Shared)(σ:St)(H:Hp)(E:Value->Shared->Prop),Inv X pins σ H s->(∀b∈fp,ID X pins H b)->tn i s.heap->J.go i H ->
  wpAny (model P w) X.A (pyNext (.ref it)) (fun r s1=>∃u,r=some u /\
   wpAny (model P w) X.A (letOwnedTupleGo tg (.ref it) u) (fun _ s2=>∃x H',Inv X pins σ H' s2/\RelV x u/\J.yld i H x H'/\tn (i+1) s2.heap/\∀b∈fp,H' b=none) E s1) E s
 done:∀(X:Cx),X.prog=P->X.w=w->X.K=K->X.calm=true->∀(i:Nat)(pins:List (Addr×Obj))(s:Shared)(σ:St)(H:Hp)(E:Value->Shared->Prop),Inv X pins σ H s->(∀b∈fp,ID X pins H b)->tn i s.heap->J.stop i H ->
  wpAny (model P w) X.A (pyNext (.ref it)) (fun r s1=>r=none/\Inv X pins σ H s1) E s
 self:∀(A:Around)(i:Nat)(s:Shared)(Q:Value->Shared->Prop)(E:Value->Shared->Prop),tn i s.heap->Q (.ref it) s->wpAny (model P w) A (pyIter (.ref it)) Q E s
abbrev TI:=St->Hp->(It->Hp->Prop)->Prop
def PIE (X:Cx)(pins:List (Addr×Obj))(σ:St)(tg:Expr)(R:It->Hp->Prop)(itv:Value)(s2:Shared):Prop:=
 ∃(it:Addr)(fp:List Addr)(tn:Nat->Heap->Prop)(J:It)(H':Hp),itv=.ref it/\Inv X pins σ H' s2/\Turn X.prog X.w X.K tg J fp it tn/\tn 0 s2.heap/\(∀b∈fp,ID X pins H' b)/\R J H'
def PI (X:Cx)(tg iter:Expr)(wi:TI):Prop:=
 ∀(pins:List (Addr×Obj))(s:Shared)(σ:St)(H:Hp)(R:It->Hp->Prop),Inv X pins σ H s->wi σ H R ->
  (wq X) (eval iter X.env) (fun v s1=>(wq X) (pyIter v) (PIE X pins σ tg R) X.xe s1) X.xe s
theorem kF{M:Model}{A:Around}{E:Value->Shared->Prop}{s:Shared}{tg:Expr}{it:Addr}{u:Value}{o:Obj}{n:String}{vs:Array Value}{Q:Unit->Shared->Prop}(ho:s.heap.get? it=some o)(hc:o.cls=.type n)(hd:o.data=.fields vs)
    (hn:["enumerate","zip","dict_itemiterator","dict_reverseitemiterator","odict_iterator","itertools.zip_longest","itertools.pairwise"].contains n=false)(hQ:Q () s):wpAny M A (letOwnedTupleGo tg (.ref it) u) Q E s:=by
  unfold letOwnedTupleGo;cases tg<;>first
    |exact Hn hQ
    | (cases u <;> first
        |exact Hn hQ
        | (refine Hm (wpAny_load ho ?_)
           rw[hc,hd];show wpAny M A (if (["enumerate","zip","dict_itemiterator","dict_reverseitemiterator","odict_iterator","itertools.zip_longest","itertools.pairwise"].contains n&&vs[0]?==some (rawInt _))=true then _ else _) Q E s;rw[Ho (by intro h;rw[hn,Bool.false_and] at h;cases h)]
           exact Hn hQ))
def Itl (K:W.Frag)(a:Addr):It:=
 ⟨fun i H=>∃xs x,SqL K H a xs/\xs[i]?=some x,fun i H x H'=>H'=H/\∀xs,SqL K H a xs->xs[i]?=some x,fun i H=>∃xs,SqL K H a xs/\xs.length<=i⟩
def Itt (K:W.Frag)(a:Addr):It:=
 ⟨fun i H=>∃xs x,SqT K H a xs/\xs[i]?=some x,fun i H x H'=>H'=H/\∀xs,SqT K H a xs->xs[i]?=some x,fun i H=>∃xs,SqT K H a xs/\xs.length<=i⟩
def Itr (lo:Int)(n:Nat):It:=⟨fun i _=>i<n,fun i H x H'=>H'=H/\x=.int (lo+i),fun i _=>n<=i⟩
theorem pP{P:Program}{w:World}{K:W.Frag}{tg:Expr}(a it:Addr):Turn P w K tg (Itl K a) [it] it (fun i h=>h.IsListIter it a i) where
 mem:=by simp
 obj:=fun i h st b hb=>by
  have e:b=it:=by simpa using hb
  subst e;obtain⟨o,e,c,d⟩:=st;exact⟨o,e,fun v z=>by rw[d] at z;cases z⟩
 keep:=fun i h h' st k=>st.at fun o e=>k it (by simp) o e
 item:=by
  intro X hP hw hK hc i pins s σ H E I hf st hg;subst hP hw hK;obtain⟨xs,x,hq,hx⟩:=hg;obtain⟨its,rv,p,hz⟩:=I.list hq;obtain⟨u,hu,ru⟩:=rv.get hx;obtain⟨f0,f1,f2,f3,f4,f5⟩:=hf it (by simp);refine wpAny_pyNext_list_item st p.isList (x:=u) (by simpa using hu) fun h' st' sb=>?_;have I1:Inv X pins σ H {s with heap:=h'}:=I.turned (t':=s.toks) (fun b o hb e=>(sb.2 b hb).trans e) f0 f1 f3 f4 f5;obtain⟨o,e,c,d⟩:=id st';exact⟨u,rfl,kF (s:={s with heap:=h'}) e c d (by decide) ⟨x,H,I1,ru,⟨rfl,fun ys hy=>by rw[I.Jq hy hq];exact hx⟩,st',fun b hb=>(hf b hb).1⟩⟩
 done:=by
  intro X hP hw hK hc i pins s σ H E I hf st hg;subst hP hw hK;obtain⟨xs,hq,hx⟩:=hg;obtain⟨its,rv,p,hz⟩:=I.list hq;obtain⟨f0,f1,f2,f3,f4,f5⟩:=hf it (by simp);have hl:=rv.length;exact wpAny_pyNext_list_end (I.ok.hd hc) st p.isList (by simp;lia) fun h' eb=>⟨rfl,I.turned (t':=s.toks) (fun b o hb e=>eb b o hb e) f0 f1 f3 f4 f5⟩
 self:=fun _ _ _ _ _ st h=>wpAny_pyIter_listiter st h
theorem my{P:Program}{w:World}{K:W.Frag}{tg:Expr}(a it:Addr):Turn P w K tg (Itt K a) [it] it (fun i h=>h.IsTupleIter it a i) where
 mem:=by simp
 obj:=fun i h st b hb=>by
  have e:b=it:=by simpa using hb
  subst e;obtain⟨o,e,c,d⟩:=st;exact⟨o,e,fun v z=>by rw[d] at z;cases z⟩
 keep:=fun i h h' st k=>st.at fun o e=>k it (by simp) o e
 item:=by
  intro X hP hw hK hc i pins s σ H E I hf st hg;subst hP hw hK;obtain⟨xs,x,hq,hx⟩:=hg;obtain⟨its,rv,p,hz⟩:=I.tuple hq;obtain⟨u,hu,ru⟩:=rv.get hx;obtain⟨f0,f1,f2,f3,f4,f5⟩:=hf it (by simp);refine wpAny_pyNext_tuple_item st (show s.heap.IsTuple a its.toArray from p) (x:=u) (by simpa using hu) fun h' st' sb=>?_;have I1:Inv X pins σ H {s with heap:=h'}:=I.turned (t':=s.toks) (fun b o hb e=>(sb.2 b hb).trans e) f0 f1 f3 f4 f5;obtain⟨o,e,c,d⟩:=id st';exact⟨u,rfl,kF (s:={s with heap:=h'}) e c d (by decide) ⟨x,H,I1,ru,⟨rfl,fun ys hy=>by rw[I.LK hy hq];exact hx⟩,st',fun b hb=>(hf b hb).1⟩⟩
 done:=by
  intro X hP hw hK hc i pins s σ H E I hf st hg;subst hP hw hK;obtain⟨xs,hq,hx⟩:=hg;obtain⟨its,rv,p,hz⟩:=I.tuple hq;obtain⟨f0,f1,f2,f3,f4,f5⟩:=hf it (by simp);have hl:=rv.length;exact wpAny_pyNext_tuple_end (I.ok.hd hc) st (show s.heap.IsTuple a its.toArray from p) (by simp;lia) fun h' eb=>⟨rfl,I.turned (t':=s.toks) (fun b o hb e=>eb b o hb e) f0 f1 f3 f4 f5⟩
 self:=fun _ _ _ _ _ st h=>wpAny_pyIter_tupleiter st h
theorem mP{P:Program}{w:World}{K:PySem.W.Frag}{tg:Expr}(it:Addr)(lo:Int)(n:Nat):Turn P w K tg (Itr lo n) [it] it (fun i h=>IsRangeIter h it (lo+(i:Nat)*1) ((n:Int)-(i:Nat)) 1) where
 mem:=by simp
 obj:=fun i h st b hb=>by
  have e:b=it:=by simpa using hb
  subst e
  exact⟨_,st,fun v z=>by
   have z':Data.fields _=Data.cell v:=z
   cases z'⟩
 keep:=fun i h h' st k=>k it (by simp) _ st
 item:=by
  intro X hP hw hK hc i pins s σ H E I hf st hg;subst hP hw hK;obtain⟨f0,f1,f2,f3,f4,f5⟩:=hf it (by simp);have W:=Walks.range (prog:=X.prog) (w:=X.w) (I.ok.hd hc) it lo 1 n;refine W.item i s _ _ hg st fun v h' tk hv st' kk=>?_;obtain⟨t,rfl⟩:=hv;have I1:Inv X pins σ H {s with heap:=h',toks:=tk}:=I.turned (fun b o hb e=>kk b o (by simpa using hb) e) f0 f1 f3 f4 f5;refine⟨_,rfl,kF (s:={s with heap:=h',toks:=tk}) (n:="range_iterator") st' rfl rfl (by decide) ⟨.int (lo+i),H,I1,⟨t,?_⟩,⟨rfl,rfl⟩,st',fun b hb=>(hf b hb).1⟩⟩;rw[Int.mul_one]
 done:=by
  intro X hP hw hK hc i pins s σ H E I hf st hg;subst hP hw hK;obtain⟨f0,f1,f2,f3,f4,f5⟩:=hf it (by simp);exact wpAny_pyNext_range_end (I.ok.hd hc) st (by have:n<=i:=hg;lia) fun h' eb=>⟨rfl,I.turned (t':=s.toks) (fun b o hb e=>eb b o hb e) f0 f1 f3 f4 f5⟩
 self:=fun _ _ _ _ _ st h=>wpAny_pyIter_rangeiter st h
section
variable {X:Cx}{tg:Expr}
def zC (K:W.Frag)(tl:TE):TI:=fun σ H R=>tl σ H fun x H1=>∃a,x=.ref a/\(∃xs,SqL K H1 a xs)/\R (Itl K a) H1
def zY (K:W.Frag)(tl:TE):TI:=fun σ H R=>tl σ H fun x H1=>∃a,x=.ref a/\(∃xs,SqT K H1 a xs)/\R (Itt K a) H1
theorem bp{l:Expr}{tl:TE}(hl:PE X l tl):PI X tg l (zC X.K tl):=by
 intro pins s σ H R I h;refine thn (hl pins s σ H _ I h) fun v s1 hq22=>?_;obtain⟨x,H1,I1,r1,q1⟩:=hq22;obtain⟨a,e,⟨xs,hq⟩,q⟩:=q1;subst e;cases r1;obtain⟨its,rv,p,hz⟩:=I1.list hq;refine wpAny_pyIter_list p.isList ?_;refine⟨s1.heap.objs.size,[s1.heap.objs.size],_,_,H1,rfl,I1.kept (t':=s1.toks) fun b o e=>HJ _ e,pP a _,⟨_,HK _ rfl,rfl,rfl⟩,fun b hb=>?_,q⟩;have e:b=s1.heap.objs.size:=by simpa using hb
 subst e;exact I1.Ma (DP _) (I1.hok.fresh (DP _))
theorem kY{l:Expr}{tl:TE}(hl:PE X l tl):PI X tg l (zY X.K tl):=by
 intro pins s σ H R I h;refine thn (hl pins s σ H _ I h) fun v s1 hq23=>?_;obtain⟨x,H1,I1,r1,q1⟩:=hq23;obtain⟨a,e,⟨xs,hq⟩,q⟩:=q1;subst e;cases r1;obtain⟨its,rv,p,hz⟩:=I1.tuple hq;refine wpAny_pyIter_tuple (show s1.heap.IsTuple a its.toArray from p) ?_;refine⟨s1.heap.objs.size,[s1.heap.objs.size],_,_,H1,rfl,I1.kept (t':=s1.toks) fun b o e=>HJ _ e,my a _,⟨_,HK _ rfl,rfl,rfl⟩,fun b hb=>?_,q⟩;have e:b=s1.heap.objs.size:=by simpa using hb
 subst e;exact I1.Ma (DP _) (I1.hok.fresh (DP _))
theorem rj{pins:List (Addr×Obj)}{σ:St}{H:Hp}{s:Shared}{R:It->Hp->Prop}{E:Value->Shared->Prop}{lo hi:Int}{t u v:Tok}{tk:Nat}(I:Inv X pins σ H s)(h1:-(2^62)<=lo)(h2:lo<2^62)(h3:-(2^62)<=hi)(h4:hi<2^62)
  (q:R (Itr lo (hi-lo).toNat) H):(wq X) (pyIter (.ref s.heap.objs.size)) (PIE X pins σ tg R) E {s with heap:=s.heap.push {cls:=.type "range",data:=.fields #[.int lo t,.int hi u,.int 1 v]},toks:=tk}:=by
 refine wpAny_pyIter_range (IsRange.new ..) (small_one h1 h2 h3 h4) ?_;have I1:Inv X pins σ H {s with heap:=s.heap.push {cls:=.type "range",data:=.fields #[.int lo t,.int hi u,.int 1 v]},toks:=tk}:=I.kept fun b o e=>HJ _ e
 refine⟨(s.heap.push { cls:=.type "range",data:=.fields #[.int lo t,.int hi u,.int 1 v] }).objs.size,[(s.heap.push { cls:=.type "range",data:=.fields #[.int lo t,.int hi u,.int 1 v] }).objs.size],_,_,H,rfl,
  I1.kept (t':=tk) fun b o e=>HJ _ e,mP _ lo (hi-lo).toNat,?_,fun b hb=>?_,q⟩
 ·have e1:lo+((0:Nat):Int)*1=lo:=by simp
  have e2:(((hi-lo).toNat:Nat):Int)-((0:Nat):Int)=Builtin.Range.rangeSize lo hi 1:=by rw[rangeSize_one];split<;>lia
  show IsRangeIter _ _ (lo+((0:Nat):Int)*1) ((((hi-lo).toNat:Nat):Int)-((0:Nat):Int)) 1;rw[e1,e2];exact HK _ rfl
 ·have e:b=(s.heap.push {cls:=.type "range",data:=.fields #[.int lo t,.int hi u,.int 1 v]}).objs.size:=by simpa using hb
  subst e;exact I1.Ma (DP _) (I1.hok.fresh (DP _))
def zK (ta:TA):TI:=fun σ H R=>ta σ H fun vs H1=>∃j:Int,vs=[.int j]/\-(2^62)<=j/\j<2^62/\R (Itr 0 j.toNat) H1
theorem bA{a:Expr}{ta:TA}{p pos:Pos}(hg:Gl X "range")(hm:X.mg "range"=none)(ha:PA X [a] ta)(hs:starEach [a] X.env=[(false,eval a X.env)]:=by rfl):PI X tg (.Call (.Name "range" p) [a] [] pos) (zK ta):=by
 intro pins s σ H R I h;refine Call_ (cX I hg hm boot_range (PyProof.Rows.callWith_type1 (thn (ha pos pins s σ H _ I h) fun us s1 hq24=>?_) hs rfl));obtain⟨vs,H1,I1,r1,q1⟩:=hq24;obtain⟨j,e,q1,q2,q⟩:=q1;subst e;cases r1 with
 |cons r rr=>
  cases rr;obtain⟨t,rfl⟩:=r;exact call_range_1 (rj I1 (by lia) (by lia) q1 q2 (by simpa using q))
def tFor (wi:TI)(g:TG)(tb:TS):TS:=fun D σ H=>wi σ H fun J H1=>∃W:Nat->Nat->St->Hp->Prop,(∃m,W 0 m σ H1)/\∀i m σ H,W i m σ H ->
 (J.stop i H/\D.nx σ H)\/(J.go i H/\∃N:St->Hp->Prop,(∀σ' H',N σ' H'->∃m',m'<m/\W (i+1) m' σ' H')/\∀x H',J.yld i H x H'->g x σ H' fun σ2 H2=>tb {D with nx:=N,ct:=N,bk:=D.nx} σ2 H2)
def dz (fp:List Addr)(h:Heap):List (Addr×Obj):=fp.filterMap fun b=>(h.get? b).map fun o=>(b,o)
theorem bq{fp:List Addr}{h:Heap}{b:Addr}{o:Obj}(hb:b∈fp)(e:h.get? b=some o):(b,o)∈dz fp h:=Gu.mpr ⟨b,hb,by rw[e];rfl⟩
theorem jq{fp:List Addr}{h:Heap}{p:Addr×Obj}(hp:p∈dz fp h):p.1∈fp/\h.get? p.1=some p.2:=by
 obtain⟨b,hb,e⟩:=Gu.mp hp;cases q:h.get? b with
 |none=>rw[q] at e;cases e
 |some o=>
  rw[q] at e;have e':(b,o)=p:=HC e;subst e';exact⟨hb,q⟩
theorem Inv.pinned{pins:List (Addr×Obj)}{σ:St}{H:Hp}{s:Shared}{fp:List Addr}(I:Inv X pins σ H s)(hf:∀b∈fp,ID X pins H b)(ho:∀b∈fp,∃o,s.heap.get? b=some o/\∀v,o.data≠.cell v):Inv X (pins++dz fp s.heap) σ H s:=
 I.IU fun p hp=>(DX.mp hp).elim (fun z=>I.pin p (DV _ z)) fun z=>by
  obtain⟨hb,e⟩:=jq z;obtain⟨f0,f1,f2,_⟩:=hf p.1 hb;obtain⟨o,e',d⟩:=ho p.1 hb;rw[e] at e';cases e';exact⟨e,f0,f1,f2,d⟩
theorem Inv.Im{pins pl:List (Addr×Obj)}{σ:St}{H:Hp}{s:Shared}(I:Inv X (pins++pl) σ H s):Inv X pins σ H s:=I.IU fun p hp=>I.pin p (DV _ (Eh _ hp))
theorem bE{iter:Expr}{body:List Stmt}{wi:TI}{g:TG}{tb:TS}{pos:Pos}(hp:PassesOwn (model X.prog X.w) X.A X.env X.xe)(hc:X.calm=true)(hi:PI X tg iter wi)(hg:PG X tg g)(hb:PSs X body tb)
  (hs:∀x,foldedSetIterable iter X.env x=pure x:=by intro _;rfl):PS X (.For tg iter body [] pos) (tFor wi g tb):=by
 intro pins s σ H D I h;refine wpAny_For (thn (hi pins s σ H _ I h) fun v s1 h1=>thn h1 fun itv s2 h2=>?_) hs;obtain⟨it,fp,tn,J,H2,e,I2,T,st2,f2,W,⟨m0,w0⟩,turn⟩:=h2;subst e;have stat:∀{H':Hp},(∀b∈fp,H' b=none)->∀b∈fp,ID X pins H' b:=fun hn b hb=>⟨hn b hb,(f2 b hb).2⟩
 refine codeAny_forLoop_any (fun n s'=>∃i σ' H',Inv X pins σ' H' s'/\tn i s'.heap/\(∀b∈fp,H' b=none)/\W i n σ' H') ?_ m0 ⟨0,σ,H2,I2,st2,fun b hb=>(f2 b hb).1,w0⟩;rintro n s3 ⟨i,σ3,H3,I3,st3,fr3,w3⟩;rcases turn i n σ3 H3 w3 with ⟨stop,qn⟩|⟨go,N,hN,step⟩
 ·refine wpAny_passesOwn hp (thn (T.done X rfl rfl rfl hc i pins s3 σ3 H3 X.xe I3 (stat fr3) st3 stop) fun r s4 hq25=>?_);obtain⟨hr,I4⟩:=hq25;subst hr;exact wpAny_execs_nil ⟨σ3,H3,I4,qn⟩
 ·refine wpAny_passesOwn hp (thn (T.item X rfl rfl rfl hc i pins s3 σ3 H3 X.xe I3 (stat fr3) st3 go) fun r s4 hq26=>?_);obtain⟨u,hr,h4⟩:=hq26;subst hr;refine wpAny_passesOwn hp (thn h4 fun _ s5 hq27=>?_);obtain⟨x,H5,I5,r5,y5,st5,fr5⟩:=hq27;have I5':=I5.pinned (stat fr5) (T.obj _ _ st5);refine wpAny_passesOwn hp (thn (hg _ s5 σ3 H5 x u _ I5' r5 (step x H5 y5)) fun _ s6 hq28=>?_);obtain⟨σ6,H6,I6,q6⟩:=hq28;refine wpAny_passesOwn hp (thn (hb _ s6 σ6 H6 _ I6 q6) fun f s7 q7=>?_);have again:∀{σ7:St}{H7:Hp},Inv X (pins++dz fp s5.heap) σ7 H7 s7->N σ7 H7->∃m,m<n/\∃i σ' H',Inv X pins σ' H' s7/\tn i s7.heap/\(∀b∈fp,H' b=none)/\W i m σ' H':=fun {σ7 H7} I7 n7=>by
   obtain⟨m',hm,w7⟩:=hN σ7 H7 n7;refine⟨m',hm,i+1,σ7,H7,I7.Im,T.keep _ _ _ st5 fun b hb o e=>(I7.pin (b,o) (DV _ (DV _ (bq hb e)))).1,fun b hb=>?_,w7⟩;obtain⟨o,e,d⟩:=T.obj _ _ st5 b hb;exact(I7.pin (b,o) (DV _ (DV _ (bq hb e)))).2.1
  cases f with
  |next=>obtain⟨σ7,H7,I7,n7⟩:=q7;exact again I7 n7
  |cont=>obtain⟨σ7,H7,I7,n7⟩:=q7;exact again I7 n7
  |brk=>obtain⟨σ7,H7,I7,q7⟩:=q7;exact⟨σ7,H7,I7.Im,q7⟩
  |ret v=>obtain⟨x7,σ7,H7,I7,r7,q7⟩:=q7;exact⟨x7,σ7,H7,I7.Im,r7,q7⟩
end
theorem dP{K:PySem.W.Frag}{a:Addr}{xs:List V}{g:TG}{tb:TS}{D:Ends}{σ:St}{H:Hp}(Pv:Nat->St->Hp->Prop)(h0:Pv 0 σ H)(hl:∀i σ H,i<=xs.length->Pv i σ H->SqL K H a xs)
  (hs:∀i x σ H,xs[i]?=some x->Pv i σ H->g x σ H fun σ2 H2=>tb {D with nx:=Pv (i+1),ct:=Pv (i+1),bk:=D.nx} σ2 H2)(hd:∀σ H,Pv xs.length σ H->D.nx σ H) :
  ∃W:Nat->Nat->St->Hp->Prop,(∃m,W 0 m σ H)/\∀i m σ H,W i m σ H ->
   ((Itl K a).stop i H/\D.nx σ H)\/((Itl K a).go i H/\∃N:St->Hp->Prop,(∀σ' H',N σ' H'->∃m',m'<m/\W (i+1) m' σ' H')/\∀x H',(Itl K a).yld i H x H'->g x σ H' fun σ2 H2=>tb {D with nx:=N,ct:=N,bk:=D.nx} σ2 H2):=by
 refine⟨fun i m σ H=>m=xs.length-i/\i<=xs.length/\Pv i σ H,⟨xs.length,by simp,Ec _,h0⟩,?_⟩;rintro i m σ H ⟨rfl,hi,p⟩;have q:=hl i σ H hi p;by_cases hlt:i<xs.length
 ·refine .inr ⟨⟨xs,xs[i],q,by simp[hlt]⟩,Pv (i+1),fun σ' H' p'=>⟨xs.length-(i+1),by lia,rfl,hlt,p'⟩,fun x H' y=>?_⟩;obtain⟨e,y⟩:=y;subst e;exact hs i x σ _ (y xs q) p
 ·have e:i=xs.length:=by lia
  subst e;exact .inl ⟨⟨xs,q,DP _⟩,hd σ H p⟩
theorem oS{K:PySem.W.Frag}{a:Addr}{xs:List V}{g:TG}{tb:TS}{D:Ends}{σ:St}{H:Hp}(Pv:Nat->St->Hp->Prop)(h0:Pv 0 σ H)(hl:∀i σ H,i<=xs.length->Pv i σ H->SqT K H a xs)
  (hs:∀i x σ H,xs[i]?=some x->Pv i σ H->g x σ H fun σ2 H2=>tb {D with nx:=Pv (i+1),ct:=Pv (i+1),bk:=D.nx} σ2 H2)(hd:∀σ H,Pv xs.length σ H->D.nx σ H) :
  ∃W:Nat->Nat->St->Hp->Prop,(∃m,W 0 m σ H)/\∀i m σ H,W i m σ H ->
   ((Itt K a).stop i H/\D.nx σ H)\/((Itt K a).go i H/\∃N:St->Hp->Prop,(∀σ' H',N σ' H'->∃m',m'<m/\W (i+1) m' σ' H')/\∀x H',(Itt K a).yld i H x H'->g x σ H' fun σ2 H2=>tb {D with nx:=N,ct:=N,bk:=D.nx} σ2 H2):=by
 refine⟨fun i m σ H=>m=xs.length-i/\i<=xs.length/\Pv i σ H,⟨xs.length,by simp,Ec _,h0⟩,?_⟩;rintro i m σ H ⟨rfl,hi,p⟩;have q:=hl i σ H hi p;by_cases hlt:i<xs.length
 ·refine .inr ⟨⟨xs,xs[i],q,by simp[hlt]⟩,Pv (i+1),fun σ' H' p'=>⟨xs.length-(i+1),by lia,rfl,hlt,p'⟩,fun x H' y=>?_⟩;obtain⟨e,y⟩:=y;subst e;exact hs i x σ _ (y xs q) p
 ·have e:i=xs.length:=by lia
  subst e;exact .inl ⟨⟨xs,q,DP _⟩,hd σ H p⟩
theorem bH{lo:Int}{n:Nat}{g:TG}{tb:TS}{D:Ends}{σ:St}{H:Hp}(Pv:Nat->St->Hp->Prop)(h0:Pv 0 σ H)
  (hs:∀i σ H,i<n->Pv i σ H->g (.int (lo+i)) σ H fun σ2 H2=>tb {D with nx:=Pv (i+1),ct:=Pv (i+1),bk:=D.nx} σ2 H2)(hd:∀σ H,Pv n σ H->D.nx σ H) :
  ∃W:Nat->Nat->St->Hp->Prop,(∃m,W 0 m σ H)/\∀i m σ H,W i m σ H ->
   ((Itr lo n).stop i H/\D.nx σ H)\/((Itr lo n).go i H/\∃N:St->Hp->Prop,(∀σ' H',N σ' H'->∃m',m'<m/\W (i+1) m' σ' H')/\∀x H',(Itr lo n).yld i H x H'->g x σ H' fun σ2 H2=>tb {D with nx:=N,ct:=N,bk:=D.nx} σ2 H2):=by
 refine⟨fun i m σ H=>m=n-i/\i<=n/\Pv i σ H,⟨n,by simp,Ec _,h0⟩,?_⟩;rintro i m σ H ⟨rfl,hi,p⟩;by_cases hlt:i<n
 ·refine .inr ⟨hlt,Pv (i+1),fun σ' H' p'=>⟨n-(i+1),by lia,rfl,hlt,p'⟩,fun x H' y=>?_⟩;obtain⟨e,y⟩:=y;subst e y;exact hs i σ _ hlt p
 ·have e:i=n:=by lia
  subst e;exact .inl ⟨DP _,hd σ H p⟩
abbrev R2:=V->V->Hp->VK->Prop
def OpR (X:Cx)(f:Value->Value->Sem Value)(r:R2):Prop:=
 ∀(pins:List (Addr×Obj))(s:Shared)(σ:St)(H:Hp)(x y:V)(v u:Value)(Q:VK),Inv X pins σ H s->RelV x v->RelV y u->r x y H Q ->
  (wq X) (f v u) (EP X pins σ Q) X.xe s
def UnR (X:Cx)(f:Value->Sem Value)(r:V->Hp->VK->Prop):Prop:=
 ∀(pins:List (Addr×Obj))(s:Shared)(σ:St)(H:Hp)(x:V)(v:Value)(Q:VK),Inv X pins σ H s->RelV x v->r x H Q ->
  (wq X) (f v) (EP X pins σ Q) X.xe s
def cP (X:Cx)(f:Value)(r:List V->Hp->VK->Prop):Prop:=
 ∀(pins:List (Addr×Obj))(s:Shared)(σ:St)(H:Hp)(xs:List V)(us:List Value)(Q:VK),Inv X pins σ H s->Vals xs us->r xs H Q ->
  (wq X) (call f us) (EP X pins σ Q) X.xe s
def TruR (X:Cx)(r:V->Hp->(Bool->Hp->Prop)->Prop):Prop:=
 ∀(pins:List (Addr×Obj))(s:Shared)(σ:St)(H:Hp)(x:V)(v:Value)(Q:Bool->Hp->Prop),Inv X pins σ H s->RelV x v->r x H Q ->
  (wq X) (truthy v) (TP X pins σ Q) X.xe s
def tOp (r:R2)(ta tb:TE):TE:=fun σ H Q=>ta σ H fun x H1=>tb σ H1 fun y H2=>r x y H2 Q
def tUn (r:V->Hp->VK->Prop)(ta:TE):TE:=fun σ H Q=>ta σ H fun x H1=>r x H1 Q
def rI (C:Int->Int->Prop)(g:Int->Int->V):R2:=fun x y H Q=>∃i j,x=.int i/\y=.int j/\C i j/\Q (g i j) H
def rI0 (g:Int->Int->V):R2:=fun x y H Q=>∃i j,x=.int i/\y=.int j/\Q (g i j) H
def rU (g:Int->V):V->Hp->VK->Prop:=fun x H Q=>∃i,x=.int i/\Q (g i) H
section
variable {X:Cx}{a b c:Expr}{ta tb tc:TE}{pos:Pos}
theorem yK(ha:PE X a ta)(hb:PE X b tb){pins:List (Addr×Obj)}{s:Shared}{σ:St}{H:Hp}{R:V->V->Hp->Prop}(I:Inv X pins σ H s)
  (h:ta σ H fun x H1=>tb σ H1 fun y H2=>R x y H2){Q:Value->Shared->Prop}{f:Value->Value->Sem Value}
  (hf:∀v u s2 x y H2,Inv X pins σ H2 s2->RelV x v->RelV y u->R x y H2->(wq X) (f v u) Q X.xe s2) :
  (wq X) (eval a X.env) (fun v s₁=>(wq X) (eval b X.env) (fun u s₂=>(wq X) (f v u) Q X.xe s₂) X.xe s₁) X.xe s:=by
 refine thn (ha pins s σ H _ I h) fun v s1 hq29=>?_;obtain⟨x,H1,I1,r1,q1⟩:=hq29;refine thn (hb pins s1 σ H1 _ I1 q1) fun u s2 hq30=>?_;obtain⟨y,H2,I2,r2,q2⟩:=hq30;exact hf v u s2 x y H2 I2 r1 r2 q2
theorem ay{op:Operator}{r:R2}(ho:OpR X (binaryOp op) r)(ha:PE X a ta)(hb:PE X b tb):PE X (.BinOp a op b pos) (tOp r ta tb):=by
 intro pins s σ H Q I h;exact wpAny_BinOp (yK ha hb I h fun v u s2 x y H2 I2 rx ry q=>ho pins s2 σ H2 x y v u Q I2 rx ry q)
theorem hZ{op:UnaryOp}{r:V->Hp->VK->Prop}(ho:UnR X (unaryOp op) r)(ha:PE X a ta):PE X (.UnaryOp op a pos) (tUn r ta):=by
 intro pins s σ H Q I h;refine UnaryOp_ (thn (ha pins s σ H _ I h) fun v s1 hq31=>?_);obtain⟨x,H1,I1,r1,q1⟩:=hq31;exact ho pins s1 σ H1 x v Q I1 r1 q1
theorem opI{f:Value->Value->Sem Value}{C:Int->Int->Prop}{g:Int->Int->Int}
  (rule:∀(i j:Int)(t u:Tok)(s:Shared)(Q:Value->Shared->Prop)(E:Value->Shared->Prop),C i j->Q (.int (g i j) s.toks) {s with toks:=s.toks+1}->(wq X) (f (.int i t) (.int j u)) Q E s) :
  OpR X f (rI C fun i j=>.int (g i j)):=by
 intro pins s σ H x y v u Q I rx ry h;obtain⟨i,j,rfl,rfl,hc,q⟩:=h;obtain⟨t,rfl⟩:=rx;obtain⟨t',rfl⟩:=ry;exact rule i j t t' s _ _ hc ⟨.int (g i j),H,I.tok _,⟨_,rfl⟩,q⟩
theorem Ab{f:Value->Value->Sem Value}{g:Int->Int->Int}
  (rule:∀(i j:Int)(t u:Tok)(s:Shared)(Q:Value->Shared->Prop)(E:Value->Shared->Prop),Q (.int (g i j) s.toks) {s with toks:=s.toks+1}->(wq X) (f (.int i t) (.int j u)) Q E s) :
  OpR X f (rI0 fun i j=>.int (g i j)):=by
 intro pins s σ H x y v u Q I rx ry h;obtain⟨i,j,rfl,rfl,q⟩:=h;obtain⟨t,rfl⟩:=rx;obtain⟨t',rfl⟩:=ry;exact rule i j t t' s _ _ ⟨.int (g i j),H,I.tok _,⟨_,rfl⟩,q⟩
theorem yJ{f:Value->Value->Sem Value}{g:Int->Int->Bool}
  (rule:∀(i j:Int)(t u:Tok)(s:Shared)(Q:Value->Shared->Prop)(E:Value->Shared->Prop),Q (.bool (g i j)) s->(wq X) (f (.int i t) (.int j u)) Q E s) :
  OpR X f (rI0 fun i j=>.bl (g i j)):=by
 intro pins s σ H x y v u Q I rx ry h;obtain⟨i,j,rfl,rfl,q⟩:=h;obtain⟨t,rfl⟩:=rx;obtain⟨t',rfl⟩:=ry;exact rule i j t t' s _ _ ⟨.bl (g i j),H,I,rfl,q⟩
def CDiv (i j:Int):Prop:=0<j/\j<1073741824
def CPow (i j:Int):Prop:=0<=j/\j<=1000000/\i.natAbs<2^64
def Pp (i j:Int):Prop:=(-(2^64)<i/\i<2^64)\/(-(2^64)<j/\j<2^64)
theorem Pp.ok{i j:Int}(h:Pp i j):IntMulOk i j:=by
 rcases h with ⟨h1,h2⟩|⟨h1,h2⟩
 ·exact .of_left (intBits_le_64 h1 h2)
 ·exact .of_right (intBits_le_64 h1 h2)
theorem Ij:OpR X (binaryOp .Add) (rI0 fun i j=>.int (i+j)):=Ab fun _ _ _ _ _ _ _ q=>add_int q
theorem IC:OpR X (binaryOp .Sub) (rI0 fun i j=>.int (i-j)):=Ab fun _ _ _ _ _ _ _ q=>sub_int q
theorem II:OpR X (binaryOp .Mult) (rI Pp fun i j=>.int (i*j)):=opI fun _ _ _ _ _ _ _ hc q=>mul_int q hc.ok
theorem JF:OpR X (binaryOp .FloorDiv) (rI CDiv fun i j=>.int (i/j)):=opI fun i j _ _ _ _ _ hc q=>by
 have h1:(0:Int)<j:=hc.1;have h2:j<1073741824:=hc.2;exact floordiv_int (by lia) (by rw[Gc i (by lia)];exact q) (.inl (PyProof.noPylong_small (by lia)))
theorem Iz:OpR X (binaryOp .Mod) (rI (fun _ j=>0<j) fun i j=>.int (i % j)):=opI fun i j _ _ _ _ _ hc q=>by
 have h1:(0:Int)<j:=hc;exact mod_int' (by lia) (by rw[Int.fmod_eq_emod_of_nonneg i (by lia)];exact q)
theorem KS:OpR X (binaryOp .Pow) (rI CPow fun i j=>.int (i^j.toNat)):=opI fun _ _ _ _ _ _ _ hc q=>pow_int_small hc.1 hc.2.1 hc.2.2 q
theorem unI{f:Value->Sem Value}{g:Int->Int}
  (rule:∀(i:Int)(t:Tok)(s:Shared)(Q:Value->Shared->Prop)(E:Value->Shared->Prop),Q (.int (g i) s.toks) {s with toks:=s.toks+1}->(wq X) (f (.int i t)) Q E s) :
  UnR X f (rU fun i=>.int (g i)):=by
 intro pins s σ H x v Q I rx h;obtain⟨i,rfl,q⟩:=h;obtain⟨t,rfl⟩:=rx;exact rule i t s _ _ ⟨.int (g i),H,I.tok _,⟨_,rfl⟩,q⟩
theorem IZ:UnR X (unaryOp .USub) (rU fun i=>.int (-i)):=unI fun _ _ _ _ _ q=>neg_int q
end
def PL:V->V->Bool
 |.non,.non=>true|.non,.int _=>true|.int _,.non=>true|.non,.bl _=>true|.bl _,.non=>true|.non,.str _=>true|.str _,.non=>true
 |.int _,.int _=>true|.bl _,.bl _=>true|.str _,.str _=>true|.byt _,.byt _=>true
 |.int _,.str _=>true|.str _,.int _=>true|.bl _,.str _=>true|.str _,.bl _=>true
 |_,_=>false
def rEq:R2:=fun x y H Q=>PL x y=true/\Q (.bl (decide (x=y))) H
def rNe:R2:=fun x y H Q=>PL x y=true/\Q (.bl (!decide (x=y))) H
theorem pH{i j:Int}:decide (V.int i=V.int j)=(i==j):=by
 rw[HL];simp
theorem tw{i j:Bool}:decide (V.bl i=V.bl j)=(i==j):=by
 rw[HL];simp
theorem pT{i j:Str}:decide (V.str i=V.str j)=(i==j):=by
 rw[HL];simp
theorem nV{i j:Array UInt8}:decide (V.byt i=V.byt j)=(i.toList==j.toList):=by
 rw[HL];cases i;cases j;simp
section
variable {X:Cx}{a b c:Expr}{ta tb tc:TE}{pos:Pos}
theorem aZ{pins:List (Addr×Obj)}{σ:St}{H:Hp}{s:Shared}{Q:VK}{k k':Bool}(I:Inv X pins σ H s)(q:Q (.bl k) H)(e:k=k'):EP X pins σ Q (.bool k') s:=by
 subst e;exact⟨.bl k,H,I,rfl,q⟩
theorem IX:OpR X (compareOp .Eq) rEq:=by
 intro pins s σ H x y v u Q I rx ry h;obtain⟨hs,q⟩:=h;cases x with
 |non=>
  cases rx;cases y with
  |non=>cases ry;exact PySem.EqNone.eq_none_none (aZ I q (by simp))
  |bl j=>cases ry;exact PySem.EqNone.eq_none_bool (aZ I q (by simp))
  |int j=>obtain⟨t',rfl⟩:=ry;exact PySem.EqNone.eq_none_int (aZ I q (by simp))
  |str j=>obtain⟨t',rfl⟩:=ry;exact PySem.EqNone.eq_none_str (aZ I q (by simp))
  |_=>exact absurd (show false=true from hs) Ek
 |bl i=>
  cases rx;cases y with
  |non=>cases ry;exact PySem.EqNone.eq_bool_none (aZ I q (by simp))
  |bl j=>cases ry;exact eq_bool (aZ I q tw)
  |str j=>obtain⟨t',rfl⟩:=ry;exact PySem.EqMixed.eq_bool_str (aZ I q (by simp))
  |_=>exact absurd (show false=true from hs) Ek
 |int i=>
  obtain⟨t,rfl⟩:=rx;cases y with
  |non=>cases ry;exact PySem.EqNone.eq_int_none (aZ I q (by simp))
  |int j=>obtain⟨t',rfl⟩:=ry;exact eq_int (aZ I q pH)
  |str j=>obtain⟨t',rfl⟩:=ry;exact PySem.EqMixed.eq_int_str (aZ I q (by simp))
  |_=>exact absurd (show false=true from hs) Ek
 |str i=>
  obtain⟨t,rfl⟩:=rx;cases y with
  |non=>cases ry;exact PySem.EqNone.eq_str_none (aZ I q (by simp))
  |bl j=>cases ry;exact PySem.EqMixed.eq_str_bool (aZ I q (by simp))
  |int j=>obtain⟨t',rfl⟩:=ry;exact PySem.EqMixed.eq_str_int (aZ I q (by simp))
  |str j=>obtain⟨t',rfl⟩:=ry;exact eq_str (aZ I q pT)
  |_=>exact absurd (show false=true from hs) Ek
 |byt i=>
  obtain⟨t,rfl⟩:=rx;cases y with
  |byt j=>obtain⟨t',rfl⟩:=ry;exact W.eq_bytes (aZ I q nV)
  |_=>exact absurd (show false=true from hs) Ek
 |_=>cases y<;>exact absurd (show false=true from hs) Ek
theorem Jp:OpR X (compareOp .NotEq) rNe:=by
 intro pins s σ H x y v u Q I rx ry h;obtain⟨hs,q⟩:=h;cases x with
 |non=>
  cases rx;cases y with
  |non=>cases ry;exact PySem.EqNone.ne_none_none (aZ I q (by simp))
  |bl j=>cases ry;exact PySem.EqNone.ne_none_bool (aZ I q (by simp))
  |int j=>obtain⟨t',rfl⟩:=ry;exact PySem.EqNone.ne_none_int (aZ I q (by simp))
  |str j=>obtain⟨t',rfl⟩:=ry;exact PySem.EqNone.ne_none_str (aZ I q (by simp))
  |_=>exact absurd (show false=true from hs) Ek
 |bl i=>
  cases rx;cases y with
  |non=>cases ry;exact PySem.EqNone.ne_bool_none (aZ I q (by simp))
  |bl j=>cases ry;exact ne_bool (aZ I q (congrArg not tw))
  |str j=>obtain⟨t',rfl⟩:=ry;exact PySem.EqMixed.ne_bool_str (aZ I q (by simp))
  |_=>exact absurd (show false=true from hs) Ek
 |int i=>
  obtain⟨t,rfl⟩:=rx;cases y with
  |non=>cases ry;exact PySem.EqNone.ne_int_none (aZ I q (by simp))
  |int j=>obtain⟨t',rfl⟩:=ry;exact ne_int (aZ I q (congrArg not pH))
  |str j=>obtain⟨t',rfl⟩:=ry;exact PySem.EqMixed.ne_int_str (aZ I q (by simp))
  |_=>exact absurd (show false=true from hs) Ek
 |str i=>
  obtain⟨t,rfl⟩:=rx;cases y with
  |non=>cases ry;exact PySem.EqNone.ne_str_none (aZ I q (by simp))
  |bl j=>cases ry;exact PySem.EqMixed.ne_str_bool (aZ I q (by simp))
  |int j=>obtain⟨t',rfl⟩:=ry;exact PySem.EqMixed.ne_str_int (aZ I q (by simp))
  |str j=>obtain⟨t',rfl⟩:=ry;exact ne_str (aZ I q (congrArg not pT))
  |_=>exact absurd (show false=true from hs) Ek
 |byt i=>
  obtain⟨t,rfl⟩:=rx;cases y with
  |byt j=>obtain⟨t',rfl⟩:=ry;exact W.ne_bytes (aZ I q (congrArg not nV))
  |_=>exact absurd (show false=true from hs) Ek
 |_=>cases y<;>exact absurd (show false=true from hs) Ek
theorem Lh:OpR X (compareOp .Lt) (rI0 fun i j=>.bl (decide (i<j))):=yJ fun _ _ _ _ _ _ _ q=>lt_int q
theorem NM:OpR X (compareOp .LtE) (rI0 fun i j=>.bl (decide (i<=j))):=yJ fun _ _ _ _ _ _ _ q=>le_int q
theorem JW:OpR X (compareOp .Gt) (rI0 fun i j=>.bl (decide (j<i))):=yJ fun _ _ _ _ _ _ _ q=>gt_int q
theorem Pk:OpR X (compareOp .GtE) (rI0 fun i j=>.bl (decide (j<=i))):=yJ fun _ _ _ _ _ _ _ q=>ge_int q
theorem LD:OpR X (compareOp .In) (fun x y H Q=>∃i j,x=.str i/\y=.str j/\Q (.bl (!(Builtin.Str.occurrences j i 0 j.length 1).isEmpty)) H):=by
 intro pins s σ H x y v u Q I rx ry h;obtain⟨i,j,rfl,rfl,q⟩:=h;obtain⟨t,rfl⟩:=rx;obtain⟨t',rfl⟩:=ry;exact in_str (aZ I q rfl)
theorem Kd:OpR X (compareOp .Is) (fun x y H Q=>y=.non/\Q (.bl (decide (x=.non))) H):=by
 intro pins s σ H x y v u Q I rx ry h;obtain⟨rfl,q⟩:=h;cases ry;refine is_none_gen (aZ I q ?_);cases x<;>first
  |(cases rx;rfl)
  |(obtain⟨t,rfl⟩:=rx;rfl)
theorem Jj:OpR X (compareOp .IsNot) (fun x y H Q=>y=.non/\Q (.bl (!decide (x=.non))) H):=by
 intro pins s σ H x y v u Q I rx ry h;obtain⟨rfl,q⟩:=h;cases ry;refine isnot_none_gen (aZ I q ?_);cases x<;>first
  |(cases rx;rfl)
  |(obtain⟨t,rfl⟩:=rx;rfl)
theorem aD(b:Expr){op:CmpOp}(h:op≠.In:=by decide)(h2:op≠.NotIn:=by decide):behindInMarks op b=false:=by
 have e1:(op==CmpOp.In)=false:=by cases op<;>first|rfl|exact absurd rfl h
 have e2:(op==CmpOp.NotIn)=false:=by cases op<;>first|rfl|exact absurd rfl h2
 cases b<;>simp[behindInMarks,e1,e2]
theorem cu{op:CmpOp}{r:R2}(ho:OpR X (compareOp op) r)(ha:PE X a ta)(hb:PE X b tb)(hm:behindInMarks op b=false):PE X (.Compare a [op] [b] pos) (tOp r ta tb):=by
 intro pins s σ H Q I h;exact wpAny_Compare1 (yK ha hb I h fun v u s2 x y H2 I2 rx ry q=>ho pins s2 σ H2 x y v u Q I2 rx ry q) hm
def xu (t:TE):TT:=fun σ H Q=>t σ H fun x H'=>∃k,x=.bl k/\Q k H'
theorem aB{op:CmpOp}{r:R2}(ho:OpR X (compareOp op) r)(ha:PE X a ta)(hb:PE X b tb)(hm:behindInMarks op b=false):PT X (.Compare a [op] [b] pos) (xu (tOp r ta tb)):=by
 intro pins s σ H Q I h
 refine wpAny_isTrue_Compare1 (thn (ha pins s σ H _ I h) fun v s1 ⟨x,H1,I1,r1,q1⟩=>thn (hb pins s1 σ H1 _ I1 q1) fun u s2 ⟨y,H2,I2,r2,q2⟩ =>
  thn (ho pins s2 σ H2 x y v u _ I2 r1 r2 q2) fun c s3 ⟨z,H3,I3,r3,k,e,q3⟩=>?_) hm
 subst e;cases r3;exact wpAny_truthy_bool ⟨H3,I3,q3⟩
def yp (r r':R2)(ta tb tc:TE):TE:=fun σ H Q=>ta σ H fun x H1=>tb σ H1 fun y H2=>r x y H2 fun z H3=>∃k,z=.bl k /\
 (if k=true then tc σ H3 fun w' H4=>r' y w' H4 Q else Q (.bl false) H3)
theorem sD{op op':CmpOp}{r r':R2}(ho:OpR X (compareOp op) r)(ho':OpR X (compareOp op') r')(ha:PE X a ta)(hb:PE X b tb)(hc:PE X c tc)
  (hm:lastMarks [op,op'] [b,c]=false:=by with_unfolding_all rfl):PT X (.Compare a [op,op'] [b,c] pos) (xu (yp r r' ta tb tc)):=by
 intro pins s σ H Q I h
 refine isTrue_chain (thn (ha pins s σ H _ I h) fun v s1 ⟨x,H1,I1,r1,q1⟩=>test_link (thn (hb pins s1 σ H1 _ I1 q1) fun u s2 ⟨y,H2,I2,r2,q2⟩ =>
  thn (ho pins s2 σ H2 x y v u _ I2 r1 r2 q2) fun d s3 ⟨z,H3,I3,r3,k,e,q3⟩=>?_)) hm
 subst e;cases r3;refine wpAny_truthy_bool ?_;cases k with
 |false=>
  obtain⟨k',e',q'⟩:=q3;cases e';exact ite_ff ⟨H3,I3,q'⟩
 |true=>
  refine ite_tt (test_last (thn (hc pins s3 σ H3 _ I3 q3) fun w' s4 hq32=>?_));obtain⟨z',H4,I4,r4,q4⟩:=hq32;refine thn (ho' pins s4 σ H4 y z' u w' _ I4 r2 r4 q4) fun d' s5 ⟨z2,H5,I5,r5,k2,e2,q5⟩=>?_;subst e2;cases r5;exact wpAny_truthy_bool ⟨H5,I5,q5⟩
def Aa (K:W.Frag)(x:V)(H:Hp)(k:Bool):Prop:=
 match x with
 |.non=>k=false
 |.bl b=>k=b
 |.int i=>k=(i != 0)
 |.str y=>y.length<=sizeLine/\k=((y.length:Int) != 0)
 |.byt y=>y.size<=sizeLine/\k=((y.size:Int) != 0)
 |.ref p=>(∃xs,SqL K H p xs/\k=!xs.isEmpty)\/(∃xs,SqT K H p xs/\k=!xs.isEmpty)\/∃kvs,H p=some (.dK kvs)/\k=!kvs.isEmpty
 |_=>False
theorem mL{κ:Type}{kvs:List (κ×V)}{vs:List (κ×Value)}(r:KV kvs vs):(!vs.isEmpty)=!kvs.isEmpty:=by
 cases r<;>rfl
theorem iw{xs:List V}{its:List Value}(r:Vals xs its):(!its.toArray.isEmpty)=!xs.isEmpty:=by
 cases r<;>simp
theorem Jr:(sizeLine:Nat)<2^63:=by rw[sizeLine_eq];decide
theorem OK:TruR X (fun x H Q=>∃k,Aa X.K x H k/\Q k H):=by
 intro pins s σ H x v Q I rx h;obtain⟨k,e,q⟩:=h;have hl:=Jr;have hs:sizeLine=16777216:=sizeLine_eq;cases x with
 |non=>
  cases rx;have e':k=false:=e;subst e';exact truthy_none ⟨H,I,q⟩
 |bl b=>
  cases rx;have e':k=b:=e;subst e';exact wpAny_truthy_bool ⟨H,I,q⟩
 |int i=>
  obtain⟨t,rfl⟩:=rx;have e':k=(i != 0):=e;subst e';exact PySem.P.truthy_int ⟨H,I,q⟩
 |str y=>
  obtain⟨t,rfl⟩:=rx;obtain⟨hy,e'⟩:y.length<=sizeLine/\k=((y.length:Int) != 0):=e;subst e';exact PySem.P.truthy_str (by lia) ⟨H,I.tok _,q⟩
 |byt y=>
  obtain⟨t,rfl⟩:=rx;obtain⟨hy,e'⟩:y.size<=sizeLine/\k=((y.size:Int) != 0):=e;subst e';exact W.truthy_bytes (by lia) ⟨H,I.tok _,q⟩
 |ref p=>
  cases rx;have e':(∃xs,SqL X.K H p xs/\k=!xs.isEmpty)\/(∃xs,SqT X.K H p xs/\k=!xs.isEmpty)\/∃kvs,H p=some (.dK kvs)/\k=!kvs.isEmpty:=e;rcases e' with ⟨xs,hx,e'⟩|⟨xs,hx,e'⟩|⟨kvs,hx,e'⟩
  ·subst e';obtain⟨its,r,pl,hz⟩:=I.list hx;have hlen:=r.length;exact wpAny_truthy_list pl.isList (by simp only[Ed];lia) ⟨H,I.tok _,by rw[iw r];exact q⟩
  ·subst e';obtain⟨its,r,pl,hz⟩:=I.tuple hx;have hlen:=r.length;exact truthy_tuple pl (by simp only[Ed];lia) ⟨H,I.tok _,by rw[iw r];exact q⟩
  ·subst e';obtain⟨hz,hS,vs,r,m⟩:kvs.length<=sizeLine/\(p==sysModules)=false/\∃vs,KV kvs vs/\s.heap.DictOf (aM X.prog X.w) p vs:=I.hok p _ hx;have hlen:kvs.length=vs.length:=Paired.length r;exact wpAny_truthy_dict hS m (by lia) ⟨H,I.tok _,by rw[mL r];exact q⟩
 |_=>exact(show False from e).elim
theorem kO(ha:PE X a ta)(he:∀whole,isTrue a X.env whole=(do let v <- whole;standAt a.pos;holding [v] (truthy v))) :
  PT X a (fun σ H Q=>ta σ H fun x H'=>∃k,Aa X.K x H' k/\Q k H'):=by
 intro pins s σ H Q I h;refine isTrue_plain (thn (ha pins s σ H _ I h) fun v s1 hq33=>?_) (he _);obtain⟨x,H1,I1,r1,q1⟩:=hq33;exact OK pins s1 σ H1 x v Q I1 r1 q1
theorem Ig:OpR X (binaryOp .Add) (fun x y H Q=>∃i j,x=.str i/\y=.str j/\i.length+j.length<=sizeLine/\Q (.str (i++j)) H):=by
 intro pins s σ H x y v u Q I rx ry h;obtain⟨i,j,rfl,rfl,hz,q⟩:=h;obtain⟨t,rfl⟩:=rx;obtain⟨t',rfl⟩:=ry;exact add_str (fun t' tk=>⟨.str (i++j),H,I.tok _,⟨_,rfl⟩,q⟩) hz
def qZ (b:Expr):Prop:=∀o i,subscripted b false o i=operate [o,i] (getItem o i)
theorem dZ(ha:PE X a ta)(hb:PE X b tb)(hs:qZ b) :
  PE X (.Subscript a b pos) (tOp (fun x y H Q=>∃z i c,x=.str z/\y=.int i/\0<=i/\i<2^63/\i<z.length/\z.cps[i.toNat]?=some c/\Q (.str ⟨#[c]⟩) H) ta tb):=by
 intro pins s σ H Q I h;refine Subscript_ (yK ha hb I h fun v u s2 x y H2 I2 rx ry q=>?_);obtain⟨z,i,c,rfl,rfl,h0,h63,h1,hc,q⟩:=q;obtain⟨t,rfl⟩:=rx;obtain⟨t',rfl⟩:=ry;have e:seqIndex? i z.length=some i.toNat:=PySem.StrLaws.seqIndex_nonneg h0 h1
 exact tail_any (typeIs_str s2 z t) slot_str_getitem.lookup (getItem_str (c:=c) (by
  have e1:decide (i < -(2^63:Int))=false:=Hu (by lia);have e2:decide (i≥2^63)=false:=Hu (by lia)
  rw[e1,e2] <;> rfl) (by rw[e]; exact hc) ⟨.str ⟨#[c]⟩,H2,I2.tok _,⟨_,rfl⟩,q⟩) (hs _ _)
theorem fw{x:V}{us:List Value}(r:Vals [x] us):∃u,us=[u]/\RelV x u:=by
 cases r with
 |cons r1 r2=>cases r2;exact⟨_,rfl,r1⟩
theorem vg{x y:V}{us:List Value}(r:Vals [x,y] us):∃u w',us=[u,w']/\RelV x u/\RelV y w':=by
 cases r with
 |cons r1 r2=>
  cases r2 with
  |cons r3 r4=>cases r4;exact⟨_,_,rfl,r1,r3⟩
theorem JQ:cP X (.builtin "abs") (fun xs H Q=>∃i,xs=[.int i]/\Q (.int (if i<0 then -i else i)) H):=by
 intro pins s σ H xs us Q I r h;obtain⟨i,rfl,q⟩:=h;obtain⟨u,rfl,t,rfl⟩:=fw r;exact call_abs_int fun u tk=>⟨.int (if i<0 then -i else i),H,I.tok _,⟨_,rfl⟩,q⟩
theorem jh(hc:X.calm=true):cP X (.builtin "max") (fun xs H Q=>∃i j,xs=[.int i,.int j]/\Q (.int (if j>i then j else i)) H):=by
 intro pins s σ H xs us Q I r h;obtain⟨i,j,rfl,q⟩:=h;obtain⟨u,w',rfl,⟨t,rfl⟩,⟨t',rfl⟩⟩:=vg r;refine max_two_ints (I.ok.hd hc) fun h' tk k=>⟨_,H,I.kept k,?_,q⟩
 by_cases hj:j>i
 ·rw[Hq hj,Hq hj];exact⟨_,rfl⟩
 ·rw[Ho hj,Ho hj];exact⟨_,rfl⟩
theorem gi(hc:X.calm=true):cP X (.builtin "min") (fun xs H Q=>∃i j,xs=[.int i,.int j]/\Q (.int (if j<i then j else i)) H):=by
 intro pins s σ H xs us Q I r h;obtain⟨i,j,rfl,q⟩:=h;obtain⟨u,w',rfl,⟨t,rfl⟩,⟨t',rfl⟩⟩:=vg r;refine min_two_ints (I.ok.hd hc) fun h' tk k=>⟨_,H,I.kept k,?_,q⟩
 by_cases hj:j<i
 ·rw[Hq hj,Hq hj];exact⟨_,rfl⟩
 ·rw[Ho hj,Ho hj];exact⟨_,rfl⟩
theorem Kc:cP X (.type "int") (fun xs H Q=>(∃i,xs=[.int i]/\Q (.int i) H)\/∃k,xs=[.bl k]/\Q (.int (if k then 1 else 0)) H):=by
 intro pins s σ H xs us Q I r h;rcases h with ⟨i,rfl,q⟩|⟨k,rfl,q⟩
 ·obtain⟨u,rfl,t,rfl⟩:=fw r;exact call_int_int ⟨.int i,H,I,⟨_,rfl⟩,q⟩
 ·obtain⟨u,rfl,r1⟩:=fw r;cases r1;exact call_int_bool ⟨.int (if k then 1 else 0),H,I.tok _,⟨_,rfl⟩,q⟩
end
structure Pj(h:Heap)(x dx C:Addr)(mA:Str->Option Value):Prop where
 obj:h.get? x=some (W.instObj C dx)
 ns:h.Ns1 dx mA
 ne:dx≠x
theorem pM{h:Heap}{dx:Addr}{mA:Str->Option Value}(n:h.Ns1 dx mA):∃od,h.get? dx=some od/\∀name,W.lookIn name od=some (mA name):=by
 obtain⟨o,es,ep,ho,hd,hk,_,hm⟩:=n;refine⟨o,ho,fun name=>?_⟩;have e:=hm name;unfold nsFind findBy at e;rw[<- Array.find?_toList] at e;unfold W.lookIn;rw[hd];dsimp only;split
 ·rename_i y q;rw[q] at e;exact congrArg some e
 ·rename_i q;rw[q] at e;have a:es.toList.any (·.refKey)=false:=by
   rw[List.any_eq_false];intro y hy;obtain⟨z,t,hkey⟩:=hk y (Array.mem_toList_iff.mp hy);simp[DictEntry.refKey,hkey]
  have a':¬es.toList.any (·.refKey)=true:=by rw[a];exact Ek
  rw[Ho a'];exact congrArg some e
theorem Pj.look{h:Heap}{x dx C:Addr}{mA:Str->Option Value}(I:Pj h x dx C mA):∃od,W.InstAt h x (W.instObj C dx) C (some od)/\∀name,W.lookIn name od=some (mA name):=
 let ⟨od,ho,hl⟩:=pM I.ns
 ⟨od,⟨I.obj,rfl,rfl,ho⟩,hl⟩
theorem Ku.some_of{v:V}{o:Option Value}(r:Ku (some v) o):∃u,o=some u/\RelV v u:=by
 cases o with
 |none=>exact(show False from r).elim
 |some u=>exact⟨u,rfl,r⟩
section
variable {P:Program}{w:World}{H H':Hp}{h h':Heap}{a C dx:Addr}{fs fs':List (Str×V)}
theorem vH(hok:HOk P w H h)(e:H a=some (.ins C dx fs)):∃mA,Pj h a dx C mA/\(∀f,Ku (fs.lookup f) (mA f))/\PySem.Within mA (fs.map (·.1))/\fs.length<=1000/\H dx=some (.own a):=by
 obtain⟨d,z,ne,ob,mA,n,r,q⟩:=(show Iq P w H h a (.ins C dx fs) from hok a _ e)
 exact⟨mA,⟨ob,n,ne⟩,r,q,z,d⟩
end
structure Cls(K:W.Frag)(C:Addr):Prop where
 pg:W.plainGet K C Str.empty=true
 hd:W.hasDictIn K C=true
 po:W.plainOver K C=true
 sa:W.findIn K (.ref C) "__setattr__"=some (some (.builtin "object.__setattr__"))
theorem Cls.get{K:W.Frag}{C:Addr}(c:Cls K C)(f:Str):W.plainGet K C f=true:=c.pg
section
variable {X:Cx}{pins:List (Addr×Obj)}{σ:St}{H:Hp}{s:Shared}{A:Around}{E:Value->Shared->Prop}{Q:Value->Shared->Prop}{c:Value}{b:Bool}
inductive Ki(K:W.Frag)(H:Hp):V->Value->Prop where
 |non:Ki K H .non (.type "NoneType")
 |bl (x:Bool):Ki K H (.bl x) (.type "bool")
 |int (i:Int):Ki K H (.int i) (.type "int")
 |str (x:Str):Ki K H (.str x) (.type "str")
 |flt (x:UInt64):Ki K H (.flt x) (.type "float")
 |lst {a:Addr}{xs:List V} (e:H a=some (.lst xs)):Ki K H (.ref a) (.type "list")
 |frz {a:Addr}{o:Obj}{xs:List V} (e:H a=some (.frz o (.lst xs))):Ki K H (.ref a) (.type "list")
 |tup {a:Addr}{xs:List V} (e:H a=some (.tup xs)):Ki K H (.ref a) (.type "tuple")
 |dK {a:Addr}{kvs:List (Key×V)} (e:H a=some (.dK kvs)):Ki K H (.ref a) (.type "dict")
 |dT {a:Addr}{kvs:List (List Key×V)} (e:H a=some (.dT kvs)):Ki K H (.ref a) (.type "dict")
 |ins {a C dx:Addr}{fs:List (Str×V)} (e:H a=some (.ins C dx fs)) (cl:Cls K C) (ha:W.findIn K (.ref C) "__class__"=some (some (.builtin "object.__class__")))
   (hn:W.specialIn K (.builtin "object.__class__") "__get__"=some (some (.builtin "getset_descriptor.__get__"))) (htk:W.takesIn K (.builtin "object.__class__")=some true)
   (hm:W.mroIn K C (.type "object")=some true):Ki K H (.ref a) (.ref C)
theorem ou{x:V}{u t:Value}(I:Inv X pins σ H s)(rx:RelV x u)(ty:Ki X.K H x t)(e:W.kitOne X.K t c=some b)(h:∀tk,Q (.bool b) {s with toks:=tk}) :
  wpAny (model X.prog X.w) A (call (.builtin "isinstance") [u,c]) Q E s:=by
 cases ty with
 |non=>cases (show u=Value.none from rx);exact W.kia_one W.kitx_none I.kIn True.intro e (fun z=>nomatch z) h
 |bl y=>cases (show u=Value.bool y from rx);exact W.kia_one W.kitx_bool I.kIn True.intro e (fun z=>nomatch z) h
 |int i=>obtain⟨t,q⟩:=(show ∃t,u=Value.int i t from rx);cases q;exact W.kia_one W.kitx_int I.kIn True.intro e (fun z=>nomatch z) h
 |str y=>obtain⟨t,q⟩:=(show ∃t,u=Value.str y t from rx);cases q;exact W.kia_one W.kitx_str I.kIn True.intro e (fun z=>nomatch z) h
 |flt y=>obtain⟨t,q⟩:=(show ∃t,u=Value.float y t from rx);cases q;exact W.kia_one W.kitx_float I.kIn True.intro e (fun z=>nomatch z) h
 |@lst a xs ea=>
  cases (show u=Value.ref a from rx);obtain⟨_,_,n,_,h1⟩:=(show Iq X.prog X.w H s.heap a (.lst xs) from I.hok a _ ea)
  exact W.kia_one W.kitx_list I.kIn ⟨_,h1,rfl⟩ e (fun z=>nomatch z) h
 |@frz a ob xs ea=>
  cases (show u=Value.ref a from rx);obtain⟨_,_,_,n,_,h1⟩:=(show Iq X.prog X.w H s.heap a (.frz ob (.lst xs)) from I.hok a _ ea)
  exact W.kia_one W.kitx_list I.kIn ⟨_,h1,rfl⟩ e (fun z=>nomatch z) h
 |@tup a xs ea=>
  cases (show u=Value.ref a from rx);obtain⟨_,_,_,p⟩:=(show Iq X.prog X.w H s.heap a (.tup xs) from I.hok a _ ea)
  obtain⟨o,h1,h2,_⟩:=p;exact W.kia_one W.kitx_tuple I.kIn ⟨o,h1,h2⟩ e (fun z=>nomatch z) h
 |@dK a kvs ea=>
  cases (show u=Value.ref a from rx);obtain⟨_,_,vs,_,p⟩:=(show Iq X.prog X.w H s.heap a (.dK kvs) from I.hok a _ ea)
  obtain⟨o,es,ep,h1,h2,_⟩:=p;exact W.kia_one W.kitx_dict I.kIn ⟨o,h1,h2.1⟩ e (fun z=>nomatch z) h
 |@dT a kvs ea=>
  cases (show u=Value.ref a from rx);obtain⟨_,_,xs,_,o,es,ep,h1,h2,_⟩:=(show Iq X.prog X.w H s.heap a (.dT kvs) from I.hok a _ ea)
  exact W.kia_one W.kitx_dict I.kIn ⟨o,h1,h2.1⟩ e (fun z=>nomatch z) h
 |@ins a C dx fs ea cl ha hn htk hm=>
  cases (show u=Value.ref a from rx);obtain⟨mA,O,_⟩:=vH I.hok ea;obtain⟨od,J,_⟩:=O.look;exact W.kia_one (W.kitx_own (cl.get _) cl.hd ha hn htk hm) I.kIn J e (fun z=>nomatch z) h
end
structure Jm(k:Nat)(A:Around):Prop where
 hd:A.handled=none
 dp:A.depth+3*k+5<recursionLimit
 un:A.units+16*k+200<cLine
theorem Jm.mono{j k:Nat}{A:Around}(r:Jm k A)(h:j<=k):Jm j A:=⟨r.hd,by have:=r.dp;lia,by have:=r.un;lia⟩
theorem Jm.deeper{k:Nat}{A:Around}(r:Jm (k+1) A)(env:Env):Jm k (A.deeper env):=
 ⟨r.hd,by have:=r.dp;show A.depth+1+3*k+5<_;lia,by have:=r.un;show A.units+3+16*k+200<_;lia⟩
theorem Jm.in1{k:Nat}{A:Around}(r:Jm (k+1) A):Jm k A.in1:=
 ⟨r.hd,by have:=r.dp;show A.depth+3*k+5<_;lia,by have:=r.un;show A.units+1+16*k+200<_;lia⟩
theorem Jm.depth{k:Nat}{A:Around}(r:Jm k A):A.depth<recursionLimit:=by have:=r.dp;lia
theorem Jm.units{k:Nat}{A:Around}(r:Jm k A):A.units+64<cLine:=by have:=r.un;lia
def Nz:TA:=fun _ H Q=>Q [] H
def kj (ta:TE)(tr:TA):TA:=fun σ H Q=>ta σ H fun x H1=>tr σ H1 fun xs H2=>Q (x::xs) H2
section
variable {X:Cx}{e:Expr}{es:List Expr}{te:TE}{t:TA}{pos:Pos}
theorem Ii:PA X [] Nz:=fun _ _ _ _ H Q I h=>Calls.spliced_nil ⟨[],H,I,.nil,h⟩
theorem ag(ha:PE X e te)(hr:PA X es t)(hs:starEach (e::es) X.env=(false,eval e X.env)::starEach es X.env:=by rfl):PA X (e::es) (kj te t):=by
 intro pos pins s σ H Q I h;rw[hs];show wpAny _ _ (spliced ((false,eval e X.env)::backTo pos (starEach es X.env))) _ _ s;refine Calls.spliced_cons (thn (ha pins s σ H _ I h) fun u s1 hq34=>?_);obtain⟨x,H1,I1,r1,q1⟩:=hq34;refine thn (hr pos pins s1 σ H1 _ I1 q1) fun us s2 hq35=>?_;obtain⟨xs,H2,I2,r2,q2⟩:=hq35;exact⟨x::xs,H2,I2,.cons r1 r2,q2⟩
def tTup (t:TA):TE:=fun σ H Q=>t σ H fun xs H1=>xs.length<=sizeLine/\∀p,H1 p=none->Q (.ref p) (upd H1 p (.tup xs))
def tLst (t:TA):TE:=fun σ H Q=>t σ H fun xs H1=>xs.length<=sizeLine/\∀p,H1 p=none->Q (.ref p) (upd H1 p (.lst xs))
theorem bh{x1}(h:PA X es t):PE X (.Tuple es x1 pos) (tTup t):=by
 intro pins s σ H Q I hq;refine wpAny_Tuple_spliced (thn (h pos pins s σ H _ I hq) fun us s1 hq36=>?_);obtain⟨xs,H1,I1,r,z,q⟩:=hq36;refine⟨by rw[<- r.length];exact z,?_⟩;have hf:H1 s1.heap.objs.size=none:=I1.hok.fresh (DP _);refine⟨.ref s1.heap.objs.size,upd H1 s1.heap.objs.size (.tup xs),I1.laid (t':=s1.toks) (fun b u e=>HJ _ e) (DP _) ?_,rfl,q _ hf⟩;exact⟨z,us,r,⟨_,HK _ rfl,rfl,_,rfl⟩⟩
theorem aY(h:PA X es t):PE X (.List es pos) (tLst t):=by
 intro pins s σ H Q I hq;refine wpAny_List_spliced (thn (h pos pins s σ H _ I hq) fun us s1 hq37=>?_);obtain⟨xs,H1,I1,r,z,q⟩:=hq37;refine⟨by rw[<- r.length];exact z,?_⟩;have hf:H1 s1.heap.objs.size=none:=I1.hok.fresh (DP _);refine⟨.ref s1.heap.objs.size,upd H1 s1.heap.objs.size (.lst xs),I1.laid (t':=s1.toks) (fun b u e=>HJ _ e) (DP _) ?_,rfl,q _ hf⟩;exact⟨z,us,0,r,HK _ rfl⟩
end
abbrev Sp:=List V->Hp->VK->XK->Prop
abbrev CXT:=List Env->Hp->Shared->XK->Value->Shared->Prop
structure NN(P:Program)(w:World)(K:W.Frag)(mg:Str->Option Value)(base:Heap)(A:Around)(outer:List Env)(s:Shared)(H:Hp):Prop where
 frames:A.frames=some outer
 mod:Mod K mg base
 bs:∀b o,base.get? b=some o->s.heap.get? b=some o/\H b=none
 bsz:base.objs.size<=s.heap.objs.size
 Lk:s.heap.FunFrames base outer
 frf:∀b∈frs outer,H b=none
 hok:HOk P w H s.heap
 bare:AllBare s.gens
def CE (outer:List Env)(P:Program)(w:World)(H:Hp)(s:Shared)(Q:VK)(u:Value)(s':Shared):Prop:=
 ∃v H',s'.os=s.os/\AllBare s'.gens/\Un (frs outer) [] H H' s.heap s'.heap/\HOk P w H' s'.heap/\RelV v u/\Q v H'
def CR (CX:CXT)(outer:List Env)(P:Program)(w:World)(H:Hp)(s:Shared)(Q:VK)(E:XK)(r:Result)(s':Shared):Prop:=
 match r with
 |.ok (.ret u)=>CE outer P w H s Q u s'
 |.ok _=>False
 |.error e=>CX outer H s E e s'
structure Ic(P:Program)(w:World)(K:W.Frag)(mg:Str->Option Value)(base:Heap)(CX:CXT)(k:Nat)(f:Addr)(fd:FuncData)(ps:List Str)(sp:Sp):Prop where
 len:∀vs H Q E,sp vs H Q E->vs.length=ps.length
 run:∀(A:Around)(outer:List Env)(s:Shared)(H:Hp)(args:Args)(us:List Value)(vs:List V)(Q:VK)(E:XK),Jm k A->NN P w K mg base A outer s H->BindsTo s fd args (ps.zip us)->Vals vs us->sp vs H Q E ->
  codeAny (model P w) A (.call (.ref f) args) (CR CX outer P w H s Q E) s
theorem Ic.mono{P:Program}{w:World}{K:W.Frag}{mg:Str->Option Value}{base:Heap}{CX:CXT}{j k:Nat}{f:Addr}{fd:FuncData}{ps:List Str}{sp:Sp}(F:Ic P w K mg base CX j f fd ps sp)(h:j<=k) :
  Ic P w K mg base CX k f fd ps sp:=⟨F.len,fun A outer s H args us vs Q E hr=>F.run A outer s H args us vs Q E (hr.mono h)⟩
theorem NN.in1{P:Program}{w:World}{K:W.Frag}{mg:Str->Option Value}{base:Heap}{A:Around}{outer:List Env}{s:Shared}{H:Hp}(e:NN P w K mg base A outer s H) :
  NN P w K mg base A.in1 outer s H:=⟨e.frames,e.mod,e.bs,e.bsz,e.Lk,e.frf,e.hok,e.bare⟩
section
variable {X:Cx}{pins:List (Addr×Obj)}{σ:St}{H:Hp}{s s':Shared}
theorem Inv.PJ(I:Inv X pins σ H s):NN X.prog X.w X.K X.mg X.base X.A X.stack s H:=
 ⟨I.ok.frames,I.ok.mod,I.bs,Ee I.ok.bsz I.sz,I.stack,I.Kv,I.hok,I.bare⟩
theorem Inv.after{Q:VK}{u:Value}(I:Inv X pins σ H s)(h:CE X.stack X.prog X.w H s Q u s'):EP X pins σ Q u s':=by
 obtain⟨v,H',os,bare,un,hok,r,q⟩:=h;obtain⟨hh,g,d,t,os'⟩:=s';obtain rfl:os'=s.os:=os;exact⟨v,H',I.call (h':=hh) (g':=g) (d':=d) (t':=t) (ch:=[]) un hok bare (fun b z=>absurd z (by simp)),r,q⟩
end
def uU (sp:Sp)(dvs:List V)(E:XK)(t:TA):TE:=fun σ H Q=>t σ H fun vs H1=>sp (vs++dvs) H1 Q E
def Binds(K:W.Frag)(fd:FuncData)(ps:List Str)(ds:List Value):Prop:=
 ∀(s:Shared)(us:List Value),K.In s.heap->(us++ds).length=ps.length->BindsTo s fd ⟨us,[]⟩ (ps.zip (us++ds))
theorem Binds.all{K:W.Frag}{fd:FuncData}{ps:List Str}(h:∀us:List Value,us.length=ps.length->bindArgs fd ⟨us,[]⟩=pure (ps.zip us)):Binds K fd ps []:=fun s us _ hl=>by
 rw[Et] at hl ⊢;exact .of_eq (h us hl)
def nZ (CX:CXT)(X:Cx)(E:XK):Prop:=∀(pins:List (Addr×Obj))(σ:St)(H:Hp)(s:Shared)(e:Value)(s':Shared),Inv X pins σ H s->CX X.stack H s E e s'->X.xe e s'
section
variable {X:Cx}{CX:CXT}{k:Nat}{f C:Addr}{fd:FuncData}{ps:List Str}{sp:Sp}{dvs:List V}{ds:List Value}{E:XK}{x m:Str}{p pos apos:Pos}{e o:Expr}{es:List Expr}{ta:TE}{t:TA}
theorem xY{pins:List (Addr×Obj)}{σ:St}{H:Hp}{s:Shared}{Q:VK}{us:List Value}{vs:List V}(F:Ic X.prog X.w X.K X.mg X.base CX k f fd ps sp)(hr:Jm k X.A)(hb:Binds X.K fd ps ds)(hd:Vals dvs ds)(hx:nZ CX X E)
  (I:Inv X pins σ H s)(r:Vals vs us)(h:sp (vs++dvs) H Q E):(wq X) (call (.ref f) us) (EP X pins σ Q) X.xe s:=by
 have r2:Vals (vs++dvs) (us++ds):=r.append hd;have hl:(us++ds).length=ps.length:=by rw[<- r2.length];exact F.len _ _ _ _ h
 refine wpAny_call (codeAny_mono (F.run X.A X.stack s H ⟨us,[]⟩ (us++ds) (vs++dvs) Q E hr I.PJ (hb s us I.kIn hl) r2 h) fun r s' hq=>?_);cases r with
 |error e=>exact hx pins σ H s e s' I hq
 |ok fl=>
  cases fl with
  |ret u=>exact I.after hq
  |next=>exact False.elim hq
  |brk=>exact False.elim hq
  |cont=>exact False.elim hq
theorem nF(F:Ic X.prog X.w X.K X.mg X.base CX k f fd ps sp)(hr:Jm k X.A)(hg:Gl X x)(hm:X.mg x=some (.ref f))(hk:W.keepIn X.K (.ref f)=true)(hb:Binds X.K fd ps ds)(hd:Vals dvs ds)(hx:nZ CX X E)
  (ha:PA X (e::es) t)(hdb:(x==("__debug__":Str))=false:=by decide)(he:starEach (e::es) X.env=(false,eval e X.env)::starEach es X.env:=by rfl)(hpl:(backTo pos (starEach es X.env)).any (·.1)=false:=by rfl) :
  PE X (.Call (.Name x p) (e::es) [] pos) (uU sp dvs E t):=by
 intro pins s σ H Q I h;refine wpAny_Call_Name_kw (pZ I hg hm ?_ hdb);refine W.callWith_K (h₀:=X.base) I.ok.mod.kin hk (thn (ha pos pins s σ H _ I h) fun us s1 hq38=>?_) he hpl;obtain⟨vs,H1,I1,r,q⟩:=hq38;refine⟨I1.kIn,?_⟩;exact xY F hr hb hd hx I1 r q
end
def PK (X:Cx)(kws:List Keyword)(t:TA):Prop:=
 ∀(pos:Pos)(pins:List (Addr×Obj))(s:Shared)(σ:St)(H:Hp)(Q:List V->Hp->Prop),Inv X pins σ H s->t σ H Q->(wq X) (evalAll ((backToKw pos (keywordEach kws X.env)).map (·.2))) (AP X pins σ Q) X.xe s
section
variable {X:Cx}{CX:CXT}{k:Nat}{f C:Addr}{fd:FuncData}{ps ks:List Str}{sp:Sp}{E:XK}{x m:Str}{p pos apos kpos:Pos}{e o:Expr}{es:List Expr}{kws:List Keyword}{te ta:TE}{t tk:TA}{nm:Option Str}
theorem OE:PK X [] Nz:=fun _ _ _ _ H Q I h=>wpAny_evalAll_nil ⟨[],H,I,.nil,h⟩
theorem uS(ha:PE X e te)(hr:PK X kws t):PK X (⟨nm,e,kpos⟩::kws) (kj te t):=by
 intro pos pins s σ H Q I h;show wpAny _ _ (evalAll ((do let v <- eval e X.env;standAt pos;pure v)::(backToKw pos (keywordEach kws X.env)).map (·.2))) _ _ s;refine wpAny_evalAll_cons (Hm (thn (ha pins s σ H _ I h) fun u s1 hq39=>?_));obtain⟨x,H1,I1,r1,q1⟩:=hq39;refine Hm (wpAny_standAt (Hn ?_));refine thn (hr pos pins s1 σ H1 _ I1 q1) fun us s2 hq40=>?_;obtain⟨xs,H2,I2,r2,q2⟩:=hq40;exact⟨x::xs,H2,I2,.cons r1 r2,q2⟩
variable {g:List Value->List Value->List Value}{gV:List V->List V->List V}
end
structure HX(N P:List Str)(sc:Scope):Prop where
 kind:sc.kind=.function
 co:sc.isCoroutine=false
 gen:sc.isGenerator=false
 nd:N.Nodup
 pre:N.take P.length=P
 par:∀x∈P,sc.names.lookup x=some .local\/sc.names.lookup x=some .cell
 Oe:∀y∈sc.names,y.2≠.free
theorem jr{kindOf:Str->Option NameKind}{x:Str}:∀{binds:List (Str×Value)}{m:Str->Option Value},(∀v,(x,v)∉binds)->bindL kindOf binds m x=m x
 |[],_,_=>rfl
 |(n,v)::r,m,h=>by
  unfold bindL;rw[jr fun w hw=>h w (Eg _ hw)];split
  ·have:x≠n:=by rintro rfl;exact h v DS
   simp[this]
  ·rfl
theorem jN{kindOf:Str->Option NameKind}{x:Str}:∀{binds:List (Str×Value)}{m:Str->Option Value},(∀v,(x,v)∉binds)->bindC kindOf binds m x=m x
 |[],_,_=>rfl
 |(n,v)::r,m,h=>by
  unfold bindC;rw[jN fun w hw=>h w (Eg _ hw)];split
  ·rfl
  ·have:x≠n:=by rintro rfl;exact h v DS
   simp[this]
theorem jR{kindOf:Str->Option NameKind}{x:Str}{v:Value}:∀{P:List Str}{vs:List Value}{i:Nat}{m:Str->Option Value},P.Nodup->P[i]?=some x->vs[i]?=some v->kindOf x=some .local ->
  bindL kindOf (P.zip vs) m x=some v
 |[],_,_,_,_,h,_,_=>by simp at h
 |_::_,[],_,_,_,_,h,_=>by simp at h
 |p::P,w::vs,0,m,nd,h1,h2,hk=>by
  simp at h1 h2;subst h1;subst h2;show bindL kindOf ((p,w)::P.zip vs) m p=_;unfold bindL;rw[jr fun v hv=>(FM.mp nd).1 (GH hv).1,Hq hk];simp
 |p::P,w::vs,i+1,m,nd,h1,h2,hk=>by
  show bindL kindOf ((p,w)::P.zip vs) m x=_;unfold bindL;exact jR (i:=i) (FM.mp nd).2 (by simpa using h1) (by simpa using h2) hk
theorem jz{kindOf:Str->Option NameKind}{x:Str}{v:Value}:∀{P:List Str}{vs:List Value}{i:Nat}{m:Str->Option Value},P.Nodup->P[i]?=some x->vs[i]?=some v->kindOf x≠some .local ->
  bindC kindOf (P.zip vs) m x=some v
 |[],_,_,_,_,h,_,_=>by simp at h
 |_::_,[],_,_,_,_,h,_=>by simp at h
 |p::P,w::vs,0,m,nd,h1,h2,hk=>by
  simp at h1 h2;subst h1;subst h2;show bindC kindOf ((p,w)::P.zip vs) m p=_;unfold bindC;rw[jN fun v hv=>(FM.mp nd).1 (GH hv).1,Ho hk];simp
 |p::P,w::vs,i+1,m,nd,h1,h2,hk=>by
  show bindC kindOf ((p,w)::P.zip vs) m x=_;unfold bindC;exact jz (i:=i) (FM.mp nd).2 (by simpa using h1) (by simpa using h2) hk
def start(N:List Str)(vs:List V):St:=vs.map some++List.replicate (N.length-vs.length) none
def bW (CX:CXT)(P:Program)(w:World)(K:W.Frag)(mg:Str->Option Value)(base:Heap)(N:List Str)(qual:Str)(scope:Scope)(f:Addr)(cd:Value)(A:Around)(outer:List Env)(s:Shared)(H:Hp)(E:XK):Cx where
 prog:=P
 w:=w
 K:=K
 mg:=mg
 base:=base
 A:=A.deeper (envOfC qual scope s.heap.objs.size f cd)
 N:=N
 s₀:=s
 H₀:=H
 env:=envOfC qual scope s.heap.objs.size f cd
 outer:=outer
 stack:=envOfC qual scope s.heap.objs.size f cd::outer
 ex:=[]
 calm:=A.handled.isNone
 fn:=fun _=>true
 pn:=[]
 xe:=fun e s'=>wpAny (model P w) (A.deeper (envOfC qual scope s.heap.objs.size f cd)) (leaving (envOfC qual scope s.heap.objs.size f cd) e) (fun _ s''=>CX outer H s E e s'') (fun e' s''=>CX outer H s E e' s'') s'
theorem kT{sc:Scope}{n:Nat}{x:Str}(h:sc.names.lookup x=some .cell):∃c,(cellsFrom n sc.names []).lookup x=some c:=by
 have q:=W.cellsFrom_some sc.names n [] (.inl h);exact Fz.mp q
theorem oq{CX:CXT}{P:Program}{w:World}{K:W.Frag}{mg:Str->Option Value}{base:Heap}{N ps:List Str}{qual:Str}{scope:Scope}{f:Addr}{cd:Value}{A:Around}{outer:List Env}{s s1:Shared}{H:Hp}{E:XK}{us:List Value}{vs:List V}
  (S:HX N ps scope)(e0:NN P w K mg base A outer s H)(hl:vs.length=ps.length)(r:Vals vs us)
  (x:InCallC s s.heap.objs.size (bindL (envOfC qual scope s.heap.objs.size f cd).kindOf (ps.zip us) fun _=>none) (cellsFrom (s.heap.objs.size+1) scope.names []) (bindC (envOfC qual scope s.heap.objs.size f cd).kindOf (ps.zip us) fun _=>none) s1) :
  Inv (bW CX P w K mg base N qual scope f cd A outer s H E) [] (start N vs) H s1:=by
 have hpl:ps.length<=N.length:=by have:=congrArg List.length S.pre;rw[Eu] at this;lia
 obtain⟨h1,tk,rfl,hk⟩:=x.done;have noA:∀b:Addr,b∉(bW CX P w K mg base N qual scope f cd A outer s H E).ex:=fun b z=>absurd (show b∈([]:List Addr) from z) (by simp)
 refine⟨⟨e0.mod,S.kind,rfl,rfl,DP _,fun y z c h1 h2=>?_,fun y hy=>?_,fun y c _ h=>?_,fun h=>Option.isNone_iff_eq_none.mp h,Around.frames_deeper e0.frames,.inr ⟨rfl,rfl⟩,fun b z=>absurd z (noA b),e0.bs,e0.bsz,fun b _ _=>noA b,fun b z=>absurd z (noA b),e0.Lk,e0.frf⟩,
  rfl,e0.bare,Un.kept hk,⟨_,x.toInCall.ns,fun i y v h1 h2 h3=>?_⟩,fun y c h=>⟨_,x.cell y c h⟩,e0.hok.fresh (DP _),fun y c h=>?_,fun p hp=>absurd (show p∈([]:List (Addr×Obj)) from hp) (by simp),e0.hok.kept hk,?_⟩
 ·exact name_of_addr x.apart (PySem.mem_of_lookup h1) (PySem.mem_of_lookup h2)
 ·have hy:scope.names.lookup y=some .cell\/scope.names.lookup y=some .free:=hy;rcases hy with hy|hy
  ·exact kT hy
  ·exact absurd rfl (S.Oe _ (PySem.mem_of_lookup hy))
 ·exact EH (x.above y c (PySem.mem_of_lookup h))
 ·have hi:i<vs.length:=by
   unfold start at h2;by_cases hi:i<vs.length
   ·exact hi
   ·rw[Ff (by simpa using hi)] at h2;rw[GI] at h2;split at h2<;>cases h2
  have ha:vs[i]?=some v:=by
   unfold start at h2;rw[EZ (by simpa using hi),DY] at h2;cases e:vs[i]? with
   |none=>rw[e] at h2;cases h2
   |some a=>rw[e] at h2;cases h2;rfl
  obtain⟨u,hu,rv⟩:=r.get ha;have hp:ps[i]?=some y:=by
   rw[<- S.pre,List.getElem?_take_of_lt (by lia)];exact h1
  have ndP:ps.Nodup:=by rw[<- S.pre];exact S.nd.sublist (List.take_sublist _ _)
  refine⟨u,rv,?_⟩;rcases S.par y (Ea hp) with k|k
  ·exact .inl ⟨k,jR ndP hp hu k⟩
  ·obtain⟨c,e⟩:=kT (n:=s.heap.objs.size+1) k;refine .inr ⟨.inl k,c,e,?_⟩;have q:=x.cell y c e;rw[jz ndP hp hu (by show scope.names.lookup y≠_;rw[k];decide)] at q;exact q
 ·exact e0.hok.fresh (EH (x.above y c (PySem.mem_of_lookup h)))
 ·unfold start;show _=N.length;rw[DR,DQ,EU];lia
theorem yZ{CX:CXT}{P:Program}{w:World}{K:W.Frag}{mg:Str->Option Value}{base:Heap}{k:Nat}{f:Addr}{name qual:Str}{params:Arguments}{body:List Stmt}{scope:Scope}{dV kV doc pm cdv ct oc:Value}{an od:Option Addr}
  {osl:Array (Option Value)}{N ps:List Str}{sp:Sp}(lk:K.lookup f=some ⟨oc,od,.func (W.fnOf name qual params body scope dV kV doc pm an cdv ct),osl⟩)(hcd:W.codeIn K cdv qual=true)(S:HX N ps scope)
  (len:∀vs H Q E,sp vs H Q E->vs.length=ps.length)
  (hbody:∀(A:Around) (outer:List Env) (s:Shared) (H:Hp) (vs:List V) (Q:VK) (E:XK),Jm k (A.deeper (envOfC qual scope s.heap.objs.size f cdv))->sp vs H Q E ->
   ∃t,PSs (bW CX P w K mg base N qual scope f cdv A outer s H E) body t/\t { nx:=fun _ H'=>Q .non H',rt:=Q } (start N vs) H) :
  Ic P w K mg base CX (k+1) f (W.fnOf name qual params body scope dV kV doc pm an cdv ct) ps sp:=by
 refine⟨len,fun A outer s H args us vs Q E hr e0 hb r hsp=>?_⟩;have hl:=len _ _ _ _ hsp;have KX:K.In s.heap:=e0.mod.kin.keeps fun b o e=>(e0.bs b o e).1;have lim:s.heap.NoLimit:=e0.mod.nolimit.keeps fun b o e=>(e0.bs b o e).1;have hkind:∀y∈ps.zip us,scope.names.lookup y.1=some .local\/(scope.names.lookup y.1=some .cell/\((cellsFrom (s.heap.objs.size+1) scope.names []).lookup y.1).isSome=true):=fun⟨n,v⟩ hy=>by
  rcases S.par n (GH hy).1 with q|q
  ·exact .inl q
  ·exact .inr ⟨q,W.cellsFrom_some _ _ _ (.inl q)⟩
 refine codeAny_call_function hr.depth (KX _ _ lk) rfl S.co S.gen rfl (W.codeRec_of KX hcd) (hb _ _ _ _ ?_);refine wpAny_newFunctionEnv_cells S.kind hkind fun env he s1 x=>?_;subst he;refine⟨lim.keeps x.toInCall.keep,codeAny_func ?_⟩;obtain⟨t,ht,hq⟩:=hbody A outer s H vs Q E (hr.deeper _) hsp;have I:Inv (bW CX P w K mg base N qual scope f cdv A outer s H E) [] (start N vs) H s1:=oq S e0 hl r x;refine Hv (ht [] s1 (start N vs) H _ I hq) (fun fl s' hs=>?_) fun e s' hs=>hs;have fin:∀{σ':St}{H':Hp}{v:V}{u:Value},Inv (bW CX P w K mg base N qual scope f cdv A outer s H E) [] σ' H' s'->RelV v u->Q v H'->CE outer P w H s Q u s':=
  fun {σ' H' v u} J rv q=>⟨v,H',J.os,J.bare,J.base,J.hok,rv,q⟩
 cases fl with
 |ret u=>
  obtain⟨v,σ',H',J,rv,q⟩:=hs;exact fin J rv q
 |next=>
  obtain⟨σ',H',J,q⟩:=hs;exact fin (v:=V.non) (u:=Value.none) J rfl q
 |brk=>
  obtain⟨_,_,_,q⟩:=hs;exact False.elim q
 |cont=>
  obtain⟨_,_,_,q⟩:=hs;exact False.elim q
section
variable {X:Cx}{x:Str}{p pos:Pos}{e:Expr}{es:List Expr}{t:TA}{id T:String}{r:List V->Hp->VK->Prop}
def tCB (r:List V->Hp->VK->Prop)(t:TA):TE:=fun σ H Q=>t σ H fun vs H1=>r vs H1 Q
theorem aS(hc:cP X (.builtin id) r)(hg:Gl X x)(hm:X.mg x=none)(hv:bootBuiltins x=some (.builtin id))(ha:PA X (e::es) t)(hn:x≠"__name__":=by decide)(hdb:(x==("__debug__":Str))=false:=by decide)
  (he:starEach (e::es) X.env=(false,eval e X.env)::starEach es X.env:=by rfl)(hpl:(backTo pos (starEach es X.env)).any (·.1)=false:=by rfl):PE X (.Call (.Name x p) (e::es) [] pos) (tCB r t):=by
 intro pins s σ H Q I h;refine wpAny_Call_Name_kw (cX I hg hm hv ?_ hn hdb);refine PyProof.Rows.callWith_builtin1 (thn (ha pos pins s σ H _ I h) fun us s1 hq41=>?_) he hpl;obtain⟨vs,H1,I1,r1,q1⟩:=hq41;exact hc pins s1 σ H1 vs us Q I1 r1 q1
theorem bS(hc:cP X (.type T) r)(hg:Gl X x)(hm:X.mg x=none)(hv:bootBuiltins x=some (.type T))(ha:PA X (e::es) t)(hn:x≠"__name__":=by decide)(hdb:(x==("__debug__":Str))=false:=by decide)
  (he:starEach (e::es) X.env=(false,eval e X.env)::starEach es X.env:=by rfl)(hpl:(backTo pos (starEach es X.env)).any (·.1)=false:=by rfl):PE X (.Call (.Name x p) (e::es) [] pos) (tCB r t):=by
 intro pins s σ H Q I h;refine wpAny_Call_Name_kw (cX I hg hm hv ?_ hn hdb);refine PyProof.Rows.callWith_type1 (thn (ha pos pins s σ H _ I h) fun us s1 hq42=>?_) he hpl;obtain⟨vs,H1,I1,r1,q1⟩:=hq42;exact hc pins s1 σ H1 vs us Q I1 r1 q1
end
end L2
namespace HT
open PySem PyProof.Rows
theorem Mh(A:Around)(s:Shared)(a:Int)(t:Tok)(c:Int)(u:Tok)(prog:Program)(w:World)(E:Value->Shared->Prop)(Q:Value->Shared->Prop)(h:Q (.bool (decide (a<c))) s) :
  wpAny (model prog w) A (richCompare .Lt (.int a t) (.int c u)) Q E s:=
 (PyProof.Rows.lt_int h:wpAny (model prog w) A (compareOp .Lt (.int a t) (.int c u)) Q E s)
section
variable {prog:Program}{w:World}{A:Around}{E:Value->Shared->Prop}{s:Shared}
def sIx (n d:Nat):Option Int->Nat
 |none=>d
 |some v=>if v<0 then (v+(n:Int)).toNat else min v.toNat n
theorem KA(n d:Nat):sIx n d none=d:=rfl
theorem ND(n d k:Nat):sIx n d (some (k:Int))=min k n:=by
 show(if (k:Int)<0 then ((k:Int)+(n:Int)).toNat else min (k:Int).toNat n)=min k n;rw[Ho (by lia),EC]
theorem LP(n d:Nat)(hd:d<=n)(o:Option Int):sIx n d o<=n:=by
 cases o with
 |none=>exact hd
 |some v=>
  show(if v<0 then (v+(n:Int)).toNat else min v.toNat n)<=n;by_cases hv:v<0
  ·rw[Hq hv];lia
  ·rw[Ho hv];exact Gv _ _
theorem qa(v:Int)(n d:Nat):(if v<0 then max (v+(n:Int)) 0 else min v (n:Int))=((sIx n d (some v):Nat):Int):=by
 show(if v<0 then max (v+(n:Int)) 0 else min v (n:Int))=(((if v<0 then (v+(n:Int)).toNat else min v.toNat n):Nat):Int)
 by_cases hv:v<0
 ·simp only[Hq hv];lia
 ·simp only[Ho hv];lia
theorem mR(lo hi:Option Int)(n:Nat):Builtin.Slice.sliceAdjust lo hi 1 (n:Int)=(((sIx n 0 lo:Nat):Int),((sIx n n hi:Nat):Int)):=by
 have h1:¬((1:Int)<0):=by lia
 unfold Builtin.Slice.sliceAdjust;simp only[h1,if_false];refine Prod.ext ?_ ?_
 ·cases lo with
  |none=>rfl
  |some v=>exact qa v n 0
 ·cases hi with
  |none=>rfl
  |some v=>exact qa v n n
theorem mG(i j:Nat):Builtin.Slice.slicePlaces (i:Int) (j:Int) 1=j-i:=by
 unfold Builtin.Slice.slicePlaces;have h1:(1:Int)>0:=by lia
 simp only[h1,if_true,Int.ediv_one];split<;>lia
theorem iB{v:Value}{o:Option Int}{Q:Option Int->Shared->Prop}(p:IsPart v o)(h:Q o s):wpAny (model prog w) A (Builtin.Slice.slicePartIndex v) Q E s:=by
 cases p with
 |none=>exact slicePart_none h
 |int i t=>exact slicePart_int h
theorem fJ{sl:Addr}{vl vu:Value}{lo hi:Option Int}{n:Nat}{Q:Int×Int×Nat->Shared->Prop}(hs:s.heap.IsSliceOf sl vl vu .none)(pl:IsPart vl lo)(pu:IsPart vu hi)
  (h:Q (((sIx n 0 lo:Nat):Int),1,sIx n n hi-sIx n 0 lo) s):wpAny (model prog w) A (Builtin.Slice.sliceApplied (.ref sl) (pure (n:Int))) Q E s:=by
 obtain⟨os,hos,hcs,hds⟩:=id hs;unfold Builtin.Slice.sliceApplied Builtin.Slice.sliceFields;refine Hm (Hm (wpAny_field hos hds (x:=vl) rfl (Hm (wpAny_field hos hds (x:=vu) rfl (Hm (wpAny_field hos hds (x:=.none) rfl (Hn ?_)))))));refine Hm (slicePart_none ?_);show wpAny _ _ (if ((1:Int)==0)=true then _ else _) _ _ s;rw[Ho (by decide)];refine Hm (iB pl (Hm (iB pu (Hm (Hn ?_)))));show wpAny _ _ (match Builtin.Slice.sliceAdjust lo hi 1 (n:Int) with|(lo,hi)=>pure (lo,(1:Int),Builtin.Slice.slicePlaces lo hi 1)) _ _ s;rw[mR lo hi n];show wpAny _ _ (pure (((sIx n 0 lo:Nat):Int),(1:Int),Builtin.Slice.slicePlaces ((sIx n 0 lo:Nat):Int) ((sIx n n hi:Nat):Int) 1)) _ _ s;rw[mG];exact Hn h
theorem rh(xs:Array Value)(i k:Nat):((List.range k).filterMap fun(m:Nat)=>xs[((i:Int)+(m:Int)*1).toNat]?).toArray=((xs.toList.drop i).take k).toArray:=by
 have e:(fun(m:Nat)=>xs[((i:Int)+(m:Int)*1).toNat]?)=fun m=>xs[i+m]?:=by
  funext m
  have:((i:Int)+(m:Int)*1).toNat=i+m:=by lia
  rw[this]
 rw[e];have:=pick_run xs i k;rw[GJ] at this;have e2:((fun x=>xs[x]?) ∘ fun x=>i+x)=fun m=>xs[i+m]?:=rfl;rw[e2] at this;rw[this]
theorem Ji{t sl:Addr}{items:Array Value}{vl vu:Value}{lo hi:Option Int}{Q:Value->Shared->Prop}(ht:IsTup s.heap t items)(hs:s.heap.IsSliceOf sl vl vu .none)(pl:IsPart vl lo)(pu:IsPart vu hi)
  (hw:¬(sIx items.size 0 lo=0/\sIx items.size items.size hi=items.size))
  (h:Q (.ref s.heap.objs.size) {s with heap:=s.heap.push {cls:=.type "tuple",data:=.seq ((items.toList.drop (sIx items.size 0 lo)).take (sIx items.size items.size hi-sIx items.size 0 lo)).toArray}})
  (hsz:items.size<=sizeLine):wpAny (model prog w) A (getItem (.ref t) (.ref sl)) Q E s:=by
 have htake:sizeOk (.seq ((items.toList.drop (sIx items.size 0 lo)).take (sIx items.size items.size hi-sIx items.size 0 lo)).toArray):=by
  show((items.toList.drop (sIx items.size 0 lo)).take (sIx items.size items.size hi-sIx items.size 0 lo)).toArray.size<=sizeLine;rw[Ed,Eu,List.length_drop,EY];lia
 have hj:sIx items.size items.size hi<=items.size:=LP _ _ (DP _) hi;obtain⟨os,hos,hcs,hds⟩:=id hs;have hTs:s.TypeIs (.ref sl) "slice":=⟨os,hos,hcs⟩
 unfold getItem
 try with_reducible refine Hw ?_
 (first|refine Hm (Hn ?_)|skip)
 refine Hm (wpAny_sequenceKey ht.typeIs (by decide) ?_)
 refine Hm (wpAny_callSpecial?_slot (name:=Str.ofString "__getitem__") ht.typeIs PyProof.Rows.slot_tuple_getitem
  (HQ PyProof.Rows.slot_tuple_getitem ht.typeIs entry_tuple_getitem ?_ (args_tuple_getitem _ _)))
 show wpAny _ _ (Builtin.Tuple.tupleItemsOf (.ref t) >>= _) _ _ s;refine Hm (tupleItemsOf_ ht ?_);refine Hm (wpAny_typeOf hTs ?_);rw[Hq (by decide)];refine Hm (fJ hs pl pu ?_);have hno:¬((((sIx items.size 0 lo:Nat):Int)==0&&(1:Int)==1&&(sIx items.size items.size hi-sIx items.size 0 lo)==items.size)=true):=by
  intro q;rw[Ey,Ey] at q;have q1:((sIx items.size 0 lo:Nat):Int)=0:=eq_of_beq q.1.1;have q2:sIx items.size items.size hi-sIx items.size 0 lo=items.size:=eq_of_beq q.2;exact hw ⟨by lia,by lia⟩
 show wpAny _ _ (if (((sIx items.size 0 lo:Nat):Int)==0&&(1:Int)==1&&(sIx items.size items.size hi-sIx items.size 0 lo)==items.size)=true then _ else _) _ _ s;rw[Ho hno,rh]
 first
  |exact Hm (m:=Builtin.Tuple.tupleExact _) (wpAny_newObj_type (Hn ⟨_,rfl,Hn h⟩) htake)
  |exact Hm (m:=Builtin.Tuple.tupleExact _) (wpAny_newObj_type (Hm (Hn (Hn ⟨_,rfl,Hn h⟩))) htake)
  |exact Hm (Hm (m:=Builtin.Tuple.tupleExact _) (wpAny_newObj_type (Hn (Hn ⟨_,rfl,Hn h⟩)) htake))
  |exact Hm (Hm (m:=Builtin.Tuple.tupleExact _) (wpAny_newObj_type (Hn ⟨_,rfl,Hn h⟩) htake))
end
end HT
namespace L2
open PySem PySem.Spec PyProof.Rows
abbrev TO:=St->Hp->(Option Int->Hp->Prop)->Prop
def PO (X:Cx)(e:Option Expr)(t:TO):Prop:=
 ∀(pins:List (Addr×Obj))(s:Shared)(σ:St)(H:Hp)(Q:Option Int->Hp->Prop),Inv X pins σ H s->t σ H Q ->
  (wq X) (evalPart e X.env) (fun u s'=>∃o H',Inv X pins σ H' s'/\IsPart u o/\Q o H') X.xe s
def NG:TO:=fun _ H Q=>Q none H
def yw (t:TE):TO:=fun σ H Q=>t σ H fun x H1=>∃i,x=.int i/\Q (some i) H1
theorem ik{ns:List Int}:∀{us:List Value},Vals (ns.map V.int) us->IntsAre us ns:=by
 induction ns with
 |nil=>intro us r;rw[FB] at r;cases r;exact .nil
 |cons n ns ih=>
  intro us r;rw[Ex] at r;cases r with
  |cons r1 r2=>
   obtain⟨t,e⟩:=r1;subst e;exact .cons n t (ih r2)
section
variable {X:Cx}{e:Expr}{te:TE}{lo hi:Option Expr}{tl th:TO}{pos p2:Pos}
theorem Jh:PO X none NG:=by
 intro pins s σ H Q I h;rw[evalPart_none];exact Hn ⟨none,H,I,.none,h⟩
theorem eA(h:PE X e te):PO X (some e) (yw te):=by
 intro pins s σ H Q I hw;rw[evalPart_some];refine thn (h pins s σ H _ I hw) fun u s1 hq43=>?_;obtain⟨x,H1,I1,r1,q1⟩:=hq43;obtain⟨i,rfl,q⟩:=q1;obtain⟨t,rfl⟩:=r1;exact⟨some i,H1,I1,.int i t,q⟩
def SlR (X:Cx)(r:V->Option Int->Option Int->Hp->VK->Prop):Prop:=
 ∀(pins:List (Addr×Obj))(s:Shared)(σ:St)(H:Hp)(x:V)(v vl vu:Value)(lo hi:Option Int)(sl:Addr)(Q:VK),Inv X pins σ H s->RelV x v->s.heap.IsSliceOf sl vl vu .none->IsPart vl lo->IsPart vu hi->r x lo hi H Q ->
  ∃T id,typeLookup (.type T) "__getitem__"=pure (some (.builtin id))/\s.TypeIs v T/\(wq X) (getItem v (.ref sl)) (EP X pins σ Q) X.xe s
def tSl (r:V->Option Int->Option Int->Hp->VK->Prop)(te:TE)(tl th:TO):TE:=fun σ H Q=>te σ H fun x H1=>tl σ H1 fun l H2=>th σ H2 fun u H3=>r x l u H3 Q
theorem dG{r:V->Option Int->Option Int->Hp->VK->Prop}(hr:SlR X r)(he:PE X e te)(hl:PO X lo tl)(hu:PO X hi th):PE X (.Subscript e (.Slice lo hi none p2) pos) (tSl r te tl th):=by
 intro pins s σ H Q I h;refine Subscript_ (thn (he pins s σ H _ I h) fun v s1 hq44=>?_);obtain⟨x,H1,I1,r1,q1⟩:=hq44;refine wpAny_Slice (thn (hl pins s1 σ H1 _ I1 q1) fun vl s2 hq45=>?_);obtain⟨l,H2,I2,pl,q2⟩:=hq45;refine thn (hu pins s2 σ H2 _ I2 q2) fun vu s3 ⟨u,H3,I3,pu,q3⟩=>?_;rw[evalPart_none];refine Hn ?_;have I4:Inv X pins σ H3 {s3 with heap:=s3.heap.push {cls:=.type "slice",data:=.fields #[vl,vu,.none]}}:=I3.kept (t':=s3.toks) fun b ob q=>HJ _ q;obtain⟨T,id,hT,ht,hg⟩:=hr pins {s3 with heap:=s3.heap.push {cls:=.type "slice",data:=.fields #[vl,vu,.none]}} σ H3 x v vl vu l u s3.heap.objs.size Q I4 r1 (Heap.IsSliceOf.new ..) pl pu q3;show (wq X) (subscriptTail e (.Slice lo hi none p2) v (.ref s3.heap.objs.size)) (EP X pins σ Q) X.xe {s3 with heap:=s3.heap.push {cls:=.type "slice",data:=.fields #[vl,vu,.none]}};exact tail_any (ops:=[.ref s3.heap.objs.size,v]) ht hT hg (by with_unfolding_all rfl)
def qB (xs:List V)(lo hi:Option Int):List V:=(xs.drop (HT.sIx xs.length 0 lo)).take (HT.sIx xs.length xs.length hi-HT.sIx xs.length 0 lo)
theorem gF(xs:List V)(lo hi:Option Int):(qB xs lo hi).length<=xs.length:=by
 unfold qB;rw[Eu,List.length_drop];lia
def zU (K:W.Frag):V->Option Int->Option Int->Hp->VK->Prop:=fun x lo hi H Q=>∃a xs,x=.ref a/\SqT K H a xs /\
 ¬(HT.sIx xs.length 0 lo=0/\HT.sIx xs.length xs.length hi=xs.length)/\∀p,H p=none->Q (.ref p) (upd H p (.tup (qB xs lo hi)))
theorem OR:SlR X (zU X.K):=by
 intro pins s σ H x v vl vu lo hi sl Q I rx hs pl pu h;obtain⟨a,xs,rfl,hx,hw,q⟩:=h;cases rx;obtain⟨its,r,ht,hz⟩:=I.tuple hx;have hlen:its.toArray.size=xs.length:=by rw[Ed];exact r.length.symm
 refine⟨"tuple",_,PyProof.Rows.slot_tuple_getitem.lookup,ht.typeIs,?_⟩;refine HT.Ji ht hs pl pu (by rw[hlen];exact hw) ?_ (by rw[hlen];exact hz);rw[hlen];refine⟨.ref s.heap.objs.size,_,I.laid (t':=s.toks) (o:=.tup (qB xs lo hi)) (fun b ob q=>HJ _ q) (DP _) ?_,rfl,q _ (I.hok.fresh (DP _))⟩;exact⟨Ee (gF xs lo hi) hz,_,(r.drop (HT.sIx xs.length 0 lo)).take (HT.sIx xs.length xs.length hi-HT.sIx xs.length 0 lo),IsTup.new _ _⟩
end
def ixN (n:Nat)(i:Int):Option Nat:=if 0<=i then (if i<n then some i.toNat else none) else if -(n:Int)<=i then some (i+n).toNat else none
def atI {α:Type}(xs:List α)(i:Int):Option α:=(ixN xs.length i).bind fun j=>xs[j]?
theorem oG{n:Nat}{i:Int}{j:Nat}(h:ixN n i=some j):seqIndex? i n=some j/\j<n/\-(n:Int)<=i/\i<n:=by
 unfold ixN at h;by_cases h0:0<=i
 ·rw[Hq h0] at h;by_cases h1:i<n
  ·rw[Hq h1] at h;have e:i.toNat=j:=HC h;exact⟨by rw[seqIndex_of h0 h1,e],by lia,by lia,h1⟩
  ·rw[Ho h1] at h;cases h
 ·rw[Ho h0] at h;by_cases h1:-(n:Int)<=i
  ·rw[Hq h1] at h;have e:(i+n).toNat=j:=HC h;exact⟨by rw[seqIndex_neg (by lia) h1,e],by lia,h1,by lia⟩
  ·rw[Ho h1] at h;cases h
theorem ku{α:Type}{xs:List α}{i:Int}{v:α}(h:atI xs i=some v):∃j,seqIndex? i xs.length=some j/\xs[j]?=some v/\j<xs.length/\-(xs.length:Int)<=i/\i<xs.length:=by
 unfold atI at h;cases e:ixN xs.length i with
 |none=>rw[e] at h;cases h
 |some j=>
  rw[e] at h;obtain⟨h1,h2,h3,h4⟩:=oG e;exact⟨j,h1,h,h2,h3,h4⟩
theorem bG{α:Type}{xs:List α}{j:Nat}{v:α}(h:xs[j]?=some v):atI xs (j:Int)=some v:=by
 have hj:j<xs.length:=(DU.mp h).1;have e:ixN xs.length (j:Int)=some j:=by
  unfold ixN;rw[Hq (by lia),Hq (by lia)];simp
 unfold atI;rw[e];exact h
def uZ (b:Expr):Prop:=∀o i,subscripted b false o i=operate [o,i] (getItem o i)
def IxR (X:Cx)(r:R2):Prop:=
 ∀(value slice:Expr)(pins:List (Addr×Obj))(s:Shared)(σ:St)(H:Hp)(x y:V)(v u:Value)(Q:VK),Inv X pins σ H s->RelV x v->RelV y u->r x y H Q ->
  subscripted slice false v u=operate [v,u] (getItem v u)->(wq X) (subscriptTail value slice v u) (EP X pins σ Q) X.xe s
def MtR (X:Cx)(id:String)(r:V->List V->Hp->VK->Prop):Prop:=
 ∀(pins:List (Addr×Obj))(s:Shared)(σ:St)(H:Hp)(x:V)(xs:List V)(v:Value)(us:List Value)(Q:VK),Inv X pins σ H s->RelV x v->Vals xs us->r x xs H Q ->
  (wq X) (call (.builtin id) (v::us)) (EP X pins σ Q) X.xe s
section
variable {X:Cx}{a b:Expr}{ta tb:TE}{pos:Pos}
theorem aN{r:R2}(hr:IxR X r)(ha:PE X a ta)(hb:PE X b tb)(hs:uZ b):PE X (.Subscript a b pos) (tOp r ta tb):=by
 intro pins s σ H Q I h;exact Subscript_ (yK ha hb I h fun v u s2 x y H2 I2 rx ry q=>hr a b pins s2 σ H2 x y v u Q I2 rx ry q (hs _ _))
def yM (K:W.Frag):R2:=fun x y H Q=>∃p xs i v,x=.ref p/\y=.int i/\SqL K H p xs/\atI xs i=some v/\Q v H
def rE (K:W.Frag):R2:=fun x y H Q=>∃p xs i v,x=.ref p/\y=.int i/\SqT K H p xs/\atI xs i=some v/\Q v H
def rIxS:R2:=fun x y H Q=>∃z i c,x=.str z/\y=.int i/\z.length<=sizeLine/\atI z.cps.toList i=some c/\Q (.str ⟨#[c]⟩) H
theorem HY:IxR X (yM X.K):=by
 intro value slice pins s σ H x y v u Q I rx ry h hs;obtain⟨p,xs,i,z,rfl,rfl,hq,he,q⟩:=h;cases rx;obtain⟨t,rfl⟩:=ry;obtain⟨its,r,pl,hz⟩:=I.list hq;obtain⟨j,h1,h2,h3,h4,h5⟩:=ku he;obtain⟨w,ew,rw'⟩:=r.get h2;have hl:=r.length;have hn:=Jr;have fin:EP X pins σ Q w s:=⟨z,H,I,rw',q⟩
 by_cases h0:0<=i
 ·have hj:i.toNat=j:=by
   rw[seqIndex_of h0 h5] at h1;exact HC h1
  exact item_listR pl.isList h0 (by lia) (by rw[hj];simpa using ew) fin hs
 ·have hj:(i+(its.toArray.size:Int)).toNat=j:=by
   rw[seqIndex_neg (by lia) h4] at h1;rw[Ed,<- hl];exact HC h1
  exact subscriptTail_builtinR (x:=w) pl.isList.typeIs slot_list_getitem.lookup
   (wpAny_getItem_list_neg (Q:=fun r s'=>r=w/\EP X pins σ Q r s') pl.isList (by lia) (by rw[Ed]<;>lia) (by lia) (by rw[hj];simpa using ew) ⟨rfl,fin⟩) hs
theorem Il:IxR X (rE X.K):=by
 intro value slice pins s σ H x y v u Q I rx ry h hs;obtain⟨p,xs,i,z,rfl,rfl,hq,he,q⟩:=h;cases rx;obtain⟨t,rfl⟩:=ry;obtain⟨its,r,pl,hz⟩:=I.tuple hq;obtain⟨j,h1,h2,h3,h4,h5⟩:=ku he;obtain⟨w,ew,rw'⟩:=r.get h2;have hl:=r.length;have hn:=Jr;have fin:EP X pins σ Q w s:=⟨z,H,I,rw',q⟩
 exact subscriptTail_builtinR (x:=w) pl.typeIs slot_tuple_getitem.lookup
  (getItem_tuple (j:=j) (Q:=fun r s'=>r=w/\EP X pins σ Q r s') pl (by lia) (by lia) (by rw[Ed,<- hl];exact h1) (by simpa using ew) ⟨rfl,fin⟩) hs
theorem Lq:IxR X rIxS:=by
 intro value slice pins s σ H x y v u Q I rx ry h hs;obtain⟨z,i,c,rfl,rfl,hz,he,q⟩:=h;obtain⟨t,rfl⟩:=rx;obtain⟨t',rfl⟩:=ry;obtain⟨j,h1,h2,h3,h4,h5⟩:=ku he;have hl:z.cps.toList.length=z.length:=by simp[Str.length]
 rw[hl] at h1 h4 h5;have hn:=Jr
 exact tail_any (typeIs_str s z t) slot_str_getitem.lookup (getItem_str (c:=c) (by
  have e1:decide (i < -(2^63:Int))=false:=Hu (by lia);have e2:decide (i≥2^63)=false:=Hu (by lia)
  rw[e1,e2,Bool.or_false]) (by rw[h1]; simpa using h2) ⟨.str ⟨#[c]⟩,H,I.tok _,⟨_,rfl⟩,q⟩) hs
theorem mq(its:List Value)(n j:Nat)(u:Value):Obj.mapSeq (·.setIfInBounds j u) {cls:=.type "list",data:=.seq its.toArray n}={cls:=.type "list",data:=.seq (its.set j u).toArray n}:=by
 simp[Obj.mapSeq]
theorem Inv.lst{pins:List (Addr×Obj)}{σ:St}{H:Hp}{s:Shared}{p:Addr}{xs:List V}(I:Inv X pins σ H s)(h:H p=some (.lst xs)) :
  ∃(its:List Value)(n:Nat),Vals xs its/\s.heap.get? p=some {cls:=.type "list",data:=.seq its.toArray n}/\xs.length<=sizeLine:=by
 obtain⟨z,its,n,r,e⟩:=I.hok p _ h;exact⟨its,n,r,e,z⟩
theorem Inv.Mr{pins:List (Addr×Obj)}{σ:St}{H:Hp}{s:Shared}{p:Addr}{xs ys:List V}{its its':List Value}{n n':Nat}{f:Obj->Obj}(I:Inv X pins σ H s)(h:H p=some (.lst xs))
  (ho:s.heap.get? p=some {cls:=.type "list",data:=.seq its.toArray n})(hf:f {cls:=.type "list",data:=.seq its.toArray n}={cls:=.type "list",data:=.seq its'.toArray n'})(r:Vals ys its')(hz:ys.length<=sizeLine)(t:Nat) :
  Inv X pins σ (upd H p (.lst ys)) {s with heap:=s.heap.update p f,toks:=t}:=by
 have e:(s.heap.update p f).get? p=some {cls:=.type "list",data:=.seq its'.toArray n'}:=by
  rw[Heap.get?_update_self f ho (by rw[hf]<;>rfl),hf]
 refine I.write (x:=p) (e:=p) (by rw[h];trivial) (.inl rfl) (fun b u hb q=>(Heap.get?_update_other _ _ (HI hb)).trans q) ⟨_,e⟩ ?_;exact⟨hz,its',n',r,e⟩
def Px:V->V->V->Hp->(Hp->Prop)->Prop:=fun o i v H Q=>∃p xs k j,o=.ref p/\i=.int k/\H p=some (.lst xs)/\ixN xs.length k=some j/\Q (upd H p (.lst (xs.set j v)))
theorem set_list:Af X Px:=by
 intro pins s σ H o i v ov iv u Q I ro ri rv h;obtain⟨p,xs,k,j,rfl,rfl,hp,hj,q⟩:=h;cases ro;obtain⟨t,rfl⟩:=ri;obtain⟨its,n,r,ho,hz⟩:=I.lst hp;obtain⟨h1,h2,h3,h4⟩:=oG hj;have hl:=r.length;have hn:=Jr;have I':Inv X pins σ (upd H p (.lst (xs.set j v))) {s with heap:=s.heap.update p (Obj.mapSeq (·.setIfInBounds j u))}:=
  I.Mr hp ho (mq its n j u) (r.set rv j) (by rw[Ge];exact hz) s.toks
 by_cases h0:0<=k
 ·have hk:k.toNat=j:=by
   rw[seqIndex_of h0 h4] at h1;exact HC h1
  exact W.ki_setAt ho h0 (by lia) (by rw[Ed,<- hl];exact h4) (by rw[hk];exact⟨_,I',q⟩)
 ·have hk:(k+(its.toArray.size:Int)).toNat=j:=by
   rw[seqIndex_neg (by lia) h3] at h1;rw[Ed,<- hl];exact HC h1
  exact W.ki_setBack ho (by lia) (by rw[Ed,<- hl];exact h3) (by lia) (by rw[hk];exact⟨_,I',q⟩)
theorem jv(lo hi:Option Int)(n:Nat):(sliceBounds lo hi none n).1=((HT.sIx n 0 lo:Nat):Int)/\(sliceBounds lo hi none n).2.1=((HT.sIx n n hi:Nat):Int)/\(sliceBounds lo hi none n).2.2=1:=by
 refine⟨?_,?_,rfl⟩
 ·cases lo with
  |none=>simp[sliceBounds,HT.sIx]
  |some i=>
   simp only[sliceBounds,HT.sIx,Option.getD_none,show(1:Int)>0 by decide,if_true];by_cases h:i<0
   ·simp only[h,if_true]<;>lia
   ·simp only[h,if_false]<;>lia
 ·cases hi with
  |none=>simp[sliceBounds,HT.sIx]
  |some i=>
   simp only[sliceBounds,HT.sIx,Option.getD_none,show(1:Int)>0 by decide,if_true];by_cases h:i<0
   ·simp only[h,if_true]<;>lia
   ·simp only[h,if_false]<;>lia
theorem iZ(its:List Value)(lo hi:Option Int):slicePick its.toArray lo hi none=((its.drop (HT.sIx its.length 0 lo)).take (HT.sIx its.length its.length hi-HT.sIx its.length 0 lo)).toArray:=by
 obtain⟨h1,h2,h3⟩:=jv lo hi its.toArray.size;unfold slicePick;rw[h1,h2,h3];simp only[sliceRange_one,pick_run,Ed]<;>rfl
def rSlL (K:W.Frag):V->Option Int->Option Int->Hp->VK->Prop:=fun x lo hi H Q=>∃a xs,x=.ref a/\SqL K H a xs/\∀p,H p=none->Q (.ref p) (upd H p (.lst (qB xs lo hi)))
theorem Nv:SlR X (rSlL X.K):=by
 intro pins s σ H x v vl vu lo hi sl Q I rx hs pl pu h;obtain⟨a,xs,rfl,hx,q⟩:=h;cases rx;obtain⟨its,r,ht,hz⟩:=I.list hx;have hlen:=r.length;refine⟨"list",_,slot_list_getitem.lookup,ht.isList.typeIs,?_⟩;refine wpAny_getItem_list_slice ht.isList hs pl pu .none (by simp) ?_ (by rw[Ed]<;>lia);rw[iZ,<- hlen];refine⟨.ref s.heap.objs.size,_,I.laid (t':=s.toks) (o:=.lst (qB xs lo hi)) (fun b ob q=>HJ _ q) (DP _) ?_,rfl,q _ (I.hok.fresh (DP _))⟩;exact⟨Ee (gF xs lo hi) hz,_,0,(r.drop (HT.sIx xs.length 0 lo)).take (HT.sIx xs.length xs.length hi-HT.sIx xs.length 0 lo),HK _ rfl⟩
def Jy:V->Bool
 |.non=>true
 |.bl _=>true
 |.int _=>true
 |.str _=>true
 |_=>false
def eqV:V->V->Bool
 |.non,.non=>true
 |.bl a,.bl b=>a==b
 |.bl a,.int b=>(if a then 1 else 0)==b
 |.int a,.bl b=>a==(if b then 1 else 0)
 |.int a,.int b=>a==b
 |.str a,.str b=>a==b
 |_,_=>false
theorem xZ{A:Around}{s:Shared}{y x:V}{u v:Value}(ry:RelV y u)(rx:RelV x v)(fy:Jy y=true)(fx:Jy x=true):SeqAt.EqAt A s u v (eqV y x):=by
 cases y with
 |non=>
  cases ry;cases x with
  |non=>cases rx;exact SeqAt.EqAt.same _
  |bl b=>cases rx;exact SeqAt.EqAt.none_bool b
  |int b=>obtain⟨t,rfl⟩:=rx;exact SeqAt.EqAt.none_int b t
  |str b=>obtain⟨t,rfl⟩:=rx;exact SeqAt.EqAt.none_str b t
  |_=>exact absurd (show false=true from fx) Ek
 |bl a=>
  cases ry;cases x with
  |non=>cases rx;exact SeqAt.EqAt.bool_none a
  |bl b=>cases rx;exact SeqAt.EqAt.bool_bool a b
  |int b=>obtain⟨t,rfl⟩:=rx;exact SeqAt.EqAt.bool_int a b t
  |str b=>obtain⟨t,rfl⟩:=rx;exact SeqAt.EqAt.bool_str a b t
  |_=>exact absurd (show false=true from fx) Ek
 |int a=>
  obtain⟨t',rfl⟩:=ry;cases x with
  |non=>cases rx;exact SeqAt.EqAt.int_none a t'
  |bl b=>cases rx;exact SeqAt.EqAt.int_bool a t' b
  |int b=>obtain⟨t,rfl⟩:=rx;exact SeqAt.EqAt.int_int a t' b t
  |str b=>obtain⟨t,rfl⟩:=rx;exact SeqAt.EqAt.int_str a t' b t
  |_=>exact absurd (show false=true from fx) Ek
 |str a=>
  obtain⟨t',rfl⟩:=ry;cases x with
  |non=>cases rx;exact SeqAt.EqAt.str_none a t'
  |bl b=>cases rx;exact SeqAt.EqAt.str_bool a t' b
  |int b=>obtain⟨t,rfl⟩:=rx;exact SeqAt.EqAt.str_int a t' b t
  |str b=>obtain⟨t,rfl⟩:=rx;exact SeqAt.EqAt.str_str a t' b t
  |_=>exact absurd (show false=true from fx) Ek
 |_=>exact absurd (show false=true from fy) Ek
def eqU (x:V)(u:Value):Bool:=match u with
 |.none=>eqV .non x
 |.bool b=>eqV (.bl b) x
 |.int i _=>eqV (.int i) x
 |.str z _=>eqV (.str z) x
 |_=>false
theorem tQ{x y:V}{u:Value}(r:RelV y u)(f:Jy y=true):eqU x u=eqV y x:=by
 cases y with
 |non=>cases r;rfl
 |bl b=>cases r;rfl
 |int i=>obtain⟨t,rfl⟩:=r;rfl
 |str z=>obtain⟨t,rfl⟩:=r;rfl
 |_=>exact absurd (show false=true from f) Ek
theorem gC{x:V}:∀{xs:List V}{us:List Value},Vals xs us->xs.all Jy=true->us.any (eqU x)=xs.any fun y=>eqV y x
 |_,_,.nil,_=>rfl
 |y::xs,u::us,.cons r t,f=>by
  rw[Gx,Ey] at f;rw[FC,FC,tQ r f.1,gC t f.2]
theorem fc{A:Around}{s:Shared}{x:V}{v:Value}(rx:RelV x v)(fx:Jy x=true):∀{xs:List V}{us:List Value},Vals xs us->xs.all Jy=true->∀u∈us,SeqAt.EqAt A s u v (eqU x u)
 |_,_,.nil,_=>fun u hu=>by cases hu
 |y::xs,u::us,.cons r t,f=>fun u' hu=>by
  rw[Gx,Ey] at f;rcases Eb.mp hu with rfl|hu
  ·rw[tQ r f.1];exact xZ r rx f.1 fx
  ·exact fc rx fx t f.2 u' hu
def inV (x:V)(xs:List V):Bool:=xs.any fun y=>eqV y x
def rIn (K:W.Frag)(neg:Bool):R2:=fun x y H Q=>∃p xs,y=.ref p/\(SqL K H p xs\/SqT K H p xs)/\Jy x=true/\xs.all Jy=true/\Q (.bl (if neg then !inV x xs else inV x xs)) H
theorem Kg:OpR X (compareOp .In) (rIn X.K false):=by
 intro pins s σ H x y v u Q I rx ry h;obtain⟨p,xs,rfl,hq,fx,fs,q⟩:=h;cases ry;rcases hq with hq|hq
 ·obtain⟨its,r,pl,hz⟩:=I.list hq;refine SeqAt.in_listAt (eqU x) pl.isList (fun w hw=>fc rx fx r fs w (by simpa using hw)) ⟨.bl _,H,I,rfl,?_⟩;rw[show its.toArray.any (eqU x)=its.any (eqU x) by simp,gC r fs];exact q
 ·obtain⟨its,r,pl,hz⟩:=I.tuple hq;refine SeqAt.in_tupleAt (eqU x) pl (fun w hw=>fc rx fx r fs w (by simpa using hw)) ⟨.bl _,H,I,rfl,?_⟩;rw[show its.toArray.any (eqU x)=its.any (eqU x) by simp,gC r fs];exact q
theorem JU:OpR X (compareOp .NotIn) (rIn X.K true):=by
 intro pins s σ H x y v u Q I rx ry h;obtain⟨p,xs,rfl,hq,fx,fs,q⟩:=h;cases ry;rcases hq with hq|hq
 ·obtain⟨its,r,pl,hz⟩:=I.list hq;refine SeqAt.notIn_listAt (eqU x) pl.isList (fun w hw=>fc rx fx r fs w (by simpa using hw)) ⟨.bl _,H,I,rfl,?_⟩;rw[show its.toArray.any (eqU x)=its.any (eqU x) by simp,gC r fs];exact q
 ·obtain⟨its,r,pl,hz⟩:=I.tuple hq;refine SeqAt.notIn_tupleAt (eqU x) pl (fun w hw=>fc rx fx r fs w (by simpa using hw)) ⟨.bl _,H,I,rfl,?_⟩;rw[show its.toArray.any (eqU x)=its.any (eqU x) by simp,gC r fs];exact q
theorem HW:cP X (.builtin "len") (fun xs H Q=>∃p ys,xs=[.ref p]/\(SqL X.K H p ys\/SqT X.K H p ys)/\Q (.int ys.length) H):=by
 intro pins s σ H xs us Q I r h;obtain⟨p,ys,rfl,hq,q⟩:=h;obtain⟨u,rfl,rx⟩:=fw r;cases rx;have hn:=Jr;rcases hq with hq|hq
 ·obtain⟨its,r',pl,hz⟩:=I.list hq;have hlen:=r'.length;exact Calls.call_len_list pl.isList (by simp only[Ed]<;>lia) ⟨.int ys.length,H,I.tok _,⟨s.toks+1,by rw[Ed,hlen]⟩,q⟩
 ·obtain⟨its,r',pl,hz⟩:=I.tuple hq;have hlen:=r'.length;exact len_tuple pl (by simp only[Ed]<;>lia) ⟨.int ys.length,H,I.tok _,⟨s.toks+1,by rw[Ed,hlen]⟩,q⟩
theorem Ir:cP X (.builtin "len") (fun xs H Q=>∃z,xs=[.str z]/\z.length<=sizeLine/\Q (.int z.length) H):=by
 intro pins s σ H xs us Q I r h;obtain⟨z,rfl,hz,q⟩:=h;obtain⟨u,rfl,t,rfl⟩:=fw r;have hn:=Jr;exact len_str (by lia) ⟨.int z.length,H,I.tok _,⟨_,rfl⟩,q⟩
theorem IM:cP X (.type "list") (fun xs H Q=>∃p ys,xs=[.ref p]/\(SqL X.K H p ys\/SqT X.K H p ys)/\∀l,H l=none->Q (.ref l) (upd H l (.lst ys))):=by
 intro pins s σ H xs us Q I r h;obtain⟨p,ys,rfl,hq,q⟩:=h;obtain⟨u,rfl,rx⟩:=fw r;cases rx;have fin:∀(its:List Value),Vals ys its->ys.length<=sizeLine->∀(h':Heap)(c':Nat),(∀b o',s.heap.get? b=some o'->h'.get? b=some o') ->
   h'.get? s.heap.objs.size=some {cls:=.type "list",dict:=none,data:=.seq its.toArray c',slots:=#[]}->EP X pins σ Q (.ref s.heap.objs.size) {s with heap:=h'}:=fun its r' hz h' c' kp e=>
  ⟨.ref s.heap.objs.size,_,I.laid (t':=s.toks) kp (DP _) (show Iq X.prog X.w _ h' _ (.lst ys) from⟨hz,its,c',r',e⟩),rfl,q _ (I.hok.fresh (DP _))⟩
 rcases hq with hq|hq
 ·obtain⟨its,r',pl,hz⟩:=I.list hq;have hlen:=r'.length;obtain⟨o,ho,hc,n,hd⟩:=pl.isList;exact call_list_seq p (.inl rfl) ho hc hd (fun h' c' kp e=>fin its r' hz h' c' kp e) (by simp only[Ed]<;>lia)
 ·obtain⟨its,r',pl,hz⟩:=I.tuple hq;have hlen:=r'.length;obtain⟨o,ho,hc,n,hd⟩:=pl;exact call_list_seq p (.inr rfl) ho hc hd (fun h' c' kp e=>fin its r' hz h' c' kp e) (by simp only[Ed]<;>lia)
theorem IG:cP X (.type "tuple") (fun xs H Q=>∃p ys,xs=[.ref p]/\((SqL X.K H p ys/\∀l,H l=none->Q (.ref l) (upd H l (.tup ys)))\/(SqT X.K H p ys/\Q (.ref p) H))):=by
 intro pins s σ H xs us Q I r h;obtain⟨p,ys,rfl,h⟩:=h;obtain⟨u,rfl,rx⟩:=fw r;cases rx;rcases h with ⟨hq,q⟩|⟨hq,q⟩
 ·obtain⟨its,r',pl,hz⟩:=I.list hq;have hlen:=r'.length;refine call_tuple_list pl.isList (fun h' kp=>?_) (by simp only[Ed]<;>lia);have I1:Inv X pins σ H {s with heap:=h'}:=I.kept (t':=s.toks) kp;have I2:Inv X pins σ (upd H h'.objs.size (.tup ys)) {s with heap:=h'.push {cls:=.type "tuple",data:=.seq its.toArray}}:=
   I1.laid (t':=s.toks) (fun b o e=>HJ _ e) (DP _) (show Iq X.prog X.w _ _ _ (.tup ys) from⟨hz,its,r',IsTup.new _ _⟩)
  exact⟨.ref h'.objs.size,_,I2,rfl,q _ (I1.hok.fresh (DP _))⟩
 ·obtain⟨its,r',pl,hz⟩:=I.tuple hq;exact call_tuple_same pl ⟨.ref p,H,I,rfl,q⟩
def tyV (K:W.Frag)(T:String)(x:V)(H:Hp):Prop:=match x with
 |.str _=>T="str"
 |.int _=>T="int"
 |.ref p=>(T="list"/\∃xs,SqL K H p xs)\/(T="tuple"/\∃o,K.lookup p=some o/\o.cls=.type "tuple"/\o.dict=none) \/
   (T="dict"/\((∃kvs,H p=some (.dK kvs))\/∃kvs,H p=some (.dT kvs)))\/(T="set"/\∃S n,H p=some (.set S n))
 |_=>False
theorem tK{pins:List (Addr×Obj)}{σ:St}{H:Hp}{s:Shared}{T:String}{x:V}{v:Value}(I:Inv X pins σ H s)(r:RelV x v)(ty:tyV X.K T x H) :
  s.TypeIs v T/\∀a,v=.ref a->∃ob,s.heap.get? a=some ob/\ob.dict=none:=by
 cases x with
 |str z=>
  obtain⟨t,rfl⟩:=r;cases (show T="str" from ty);exact⟨typeIs_str s z t,fun _ e=>nomatch e⟩
 |int i=>
  obtain⟨t,rfl⟩:=r;cases (show T="int" from ty);exact⟨typeIs_int s i t,fun _ e=>nomatch e⟩
 |ref p=>
  cases r;rcases ty with ⟨rfl,xs,hq⟩|⟨rfl,o,hk,hc,hd⟩|⟨rfl,hk⟩|⟨rfl,S,n,hk⟩
  ·obtain⟨its,_,pl,_⟩:=I.list hq;refine⟨pl.isList.typeIs,fun a e=>?_⟩;cases e;obtain⟨o,n,e,c,hd,_⟩:=pl;exact⟨o,e,hd⟩
  ·refine⟨⟨o,I.kIn p o hk,hc⟩,fun a e=>?_⟩;cases e;exact⟨o,I.kIn _ o hk,hd⟩
  ·have z:∃o,s.heap.get? p=some o/\o.ExactDict:=by
    rcases hk with ⟨kvs,hk⟩|⟨kvs,hk⟩
    ·obtain⟨_,_,_,_,o,_,_,e,ex,_⟩:=I.hok p _ hk;exact⟨o,e,ex⟩
    ·obtain⟨_,_,_,_,o,_,_,e,ex,_⟩:=I.hok p _ hk;exact⟨o,e,ex⟩
   obtain⟨o,e,ex⟩:=z;refine⟨⟨o,e,ex.1⟩,fun a e2=>?_⟩;cases e2;exact⟨o,e,ex.2.1⟩
  ·obtain⟨o,_,_,_,e,ex,_⟩:=I.hok p _ hk;refine⟨⟨o,e,ex.1⟩,fun a e2=>?_⟩;cases e2;exact⟨o,e,ex.2.1⟩
 |_=>exact False.elim ty
def tBM0 (K:W.Frag)(T:String)(r:V->List V->Hp->VK->Prop)(to:TE):TE:=fun σ H Q=>to σ H fun x H1=>tyV K T x H1/\r x [] H1 Q
def tBM (K:W.Frag)(T:String)(r:V->List V->Hp->VK->Prop)(to:TE)(t:TA):TE:=fun σ H Q=>to σ H fun x H1=>tyV K T x H1/\t σ H1 fun xs H2=>r x xs H2 Q
variable {o e:Expr}{es:List Expr}{to:TE}{t:TA}{name:Str}{apos cpos:Pos}{T id:String}{r:V->List V->Hp->VK->Prop}
theorem wY(pa:PlainAttrs T)(slot:Slot T name id)(hty:typeOf (.builtin id)=pure (.type "method_descriptor"))(hm:MtR X id r)(ho:PE X o to)
  (hbase:attributeBase o name X.env (eval o X.env)=eval o X.env:=by rfl)(hline:(apos.endLine==cpos.line)=true:=by rfl):PE X (.Call (.Attribute o name apos) [] [] cpos) (tBM0 X.K T r to):=by
 intro pins s σ H Q I h;refine wpAny_Call_method0_late hbase hline (thn (ho pins s σ H _ I h) fun v s1 hq46=>?_);obtain⟨x,H1,I1,r1,ty,q1⟩:=hq46;obtain⟨h1,h2⟩:=tK I1 r1 ty;exact⟨T,id,pa,slot,hty,h1,h2,Calls.callWith_builtin rfl (PySem.evalArgs_none (hm pins s1 σ H1 x [] v [] Q I1 r1 .nil q1))⟩
theorem fG(pa:PlainAttrs T)(slot:Slot T name id)(hty:typeOf (.builtin id)=pure (.type "method_descriptor"))(hm:MtR X id r)(ho:PE X o to)(ha:PA X (e::es) t)
  (hbase:attributeBase o name X.env (eval o X.env)=eval o X.env:=by rfl)
  (hfew:((backTo cpos (starEach (e::es) X.env)).all (fun x=>!x.1) && (backToKw cpos (keywordEach [] X.env)).all (fun x=>x.1.isSome)
   && decide ((e::es).length+([]:List Keyword).length+(if ([]:List Keyword).isEmpty then 0 else 1) < 30))=true:=by rfl)
  (hline:(apos.endLine==cpos.line)=true:=by rfl) (hs:starEach (e::es) X.env=(false,eval e X.env)::starEach es X.env:=by rfl) (hplain:(backTo cpos (starEach es X.env)).any (·.1)=false:=by rfl) :
  PE X (.Call (.Attribute o name apos) (e::es) [] cpos) (tBM X.K T r to t):=by
 intro pins s σ H Q I h;refine wpAny_Call_method_late hbase hfew hline rfl (thn (ho pins s σ H _ I h) fun v s1 hq47=>?_);obtain⟨x,H1,I1,r1,ty,q1⟩:=hq47;obtain⟨h1,h2⟩:=tK I1 r1 ty;refine⟨T,id,pa,slot,hty,h1,h2,?_⟩;have hA:=ha cpos pins s1 σ H1 _ I1 q1;rw[hs] at hA ⊢;refine Calls.callWith_builtin (by show(false||(backTo cpos (starEach es X.env)).any (·.1))=false;rw[hplain]<;>rfl) (Calls.evalArgs_plain ?_);refine thn hA fun us s2 hq48=>?_;obtain⟨vs,H2,I2,r2,q2⟩:=hq48;exact hm pins s2 σ H2 x vs v us Q I2 r1 r2 q2
end
def MtM (X:Cx)(id:String)(r:V->List V->Hp->VK->Prop):Prop:=
 ∀(pins:List (Addr×Obj))(s:Shared)(σ:St)(H:Hp)(x:V)(xs:List V)(v:Value)(us:List Value)(Q:VK),Inv X pins σ H s->RelV x v->Vals xs us->r x xs H Q ->
  (wq X) (call (.builtin id) (v::us)) (EP X pins σ Q) X.xe s
theorem Vals.one:∀{x:V}{us:List Value},Vals [x] us->∃u,us=[u]/\RelV x u
 |_,_,.cons r .nil=>⟨_,rfl,r⟩
theorem Vals.zero:∀{us:List Value},Vals [] us->us=[]
 |_,.nil=>rfl
theorem Vals.dropLast{xs:List V}{us:List Value}(h:Vals xs us):Vals xs.dropLast us.dropLast:=by
 induction h with
 |nil=>exact .nil
 |cons r t ih=>
  cases t with
  |nil=>exact .nil
  |cons q t'=>exact .cons r ih
theorem Vals.eraseIdx:∀{xs:List V}{us:List Value}(i:Nat),Vals xs us->Vals (xs.eraseIdx i) (us.eraseIdx i)
 |_,_,_,.nil=>.nil
 |_,_,0,.cons _ t=>t
 |_,_,i+1,.cons r t=>.cons r (Vals.eraseIdx i t)
theorem Vals.reverse{xs:List V}{us:List Value}(h:Vals xs us):Vals xs.reverse us.reverse:=by
 induction h with
 |nil=>exact .nil
 |cons r t ih=>rw[Fg,Fg];exact Vals.append ih (.cons r .nil)
theorem Vals.rep{xs:List V}{us:List Value}(h:Vals xs us):∀k:Nat,Vals (List.replicate k xs).flatten (List.replicate k us).flatten
 |0=>.nil
 |k+1=>by
  rw[EJ,EJ,ER,ER];exact Vals.append h (Vals.rep h k)
theorem mN{α:Type}(l:List α):l.eraseIdx (l.length-1)=l.dropLast:=by
 induction l with
 |nil=>rfl
 |cons a r ih=>
  cases r with
  |nil=>rfl
  |cons b r=>
   have e:(a::b::r).length-1=((b::r).length-1)+1:=by
    have h1:(a::b::r).length=r.length+2:=rfl;have h2:(b::r).length=r.length+1:=rfl;lia
   rw[e,List.eraseIdx_cons_succ,ih]
   all_goals rfl
theorem jg{α:Type}:∀(l:List α)(i:Nat),(l.eraseIdx i).length<=l.length
 |[],_=>DP _
 |_::_,0=>EO _
 |_::r,i+1=>HM (jg r i)
theorem jQ(its:List Value):∀(k:Nat)(acc:List Value),
  List.foldl (fun x1 x2=>x1++x2) acc.toArray (List.replicate k its.toArray)=(acc++(List.replicate k its).flatten).toArray
 |0,acc=>by simp
 |k+1,acc=>by
  have e:acc.toArray++its.toArray=(acc++its).toArray:=by simp
  have e2:(acc++its)++(List.replicate k its).flatten=acc++(List.replicate (k+1) its).flatten:=by
   rw[EJ,ER,Ej]
  rw[<- e2,<- jQ its k (acc++its),<- e,EJ,Fh]
section
variable {X:Cx}{pins:List (Addr×Obj)}{σ:St}{H:Hp}{s:Shared}{l b:Addr}{xs ys zs:List V}
theorem Inv.OV{its its':List Value}{n:Nat}{f:Array Value->Array Value}{t':Nat}(I:Inv X pins σ H s)(hH:H l=some (.lst xs))
  (e:s.heap.get? l=some {cls:=.type "list",data:=.seq its.toArray n})(hf:f its.toArray=its'.toArray)(hv:Vals ys its')(hz:ys.length<=sizeLine) :
  Inv X pins σ (upd H l (.lst ys)) {s with heap:=s.heap.update l (Obj.mapSeq f),toks:=t'}:=by
 have q:=PySem.IsL.update e f;rw[hf] at q;refine I.write (x:=l) (e:=l) (by rw[hH];exact trivial) (.inl rfl) (fun b' u hb hu=>(Heap.get?_update_other s.heap (Obj.mapSeq f) (HI hb)).trans hu) ⟨_,q⟩ ?_;exact⟨hz,its',_,hv,q⟩
theorem Inv.PN{its:List Value}{t':Nat}(I:Inv X pins σ H s)(hv:Vals ys its)(hz:ys.length<=sizeLine) :
  Inv X pins σ (upd H s.heap.objs.size (.lst ys)) {s with heap:=s.heap.push {cls:=.type "list",data:=.seq its.toArray},toks:=t'}:=
 I.laid (fun _ _ q=>HJ _ q) (DP _) ⟨hz,its,0,hv,HK _ rfl⟩
theorem Inv.fresh(I:Inv X pins σ H s):H s.heap.objs.size=none:=I.hok.fresh (DP _)
theorem Inv.Ll(I:Inv X pins σ H s)(hH:H l=some (.lst xs)):xs.length<=sizeLine/\∃(its:List Value)(n:Nat),Vals xs its/\xs.length=its.length/\s.heap.get? l=some {cls:=.type "list",data:=.seq its.toArray n}:=by
 obtain⟨z,its,n,r,e⟩:=I.hok l _ hH;exact⟨z,its,n,r,r.length,e⟩
theorem lV{n:Nat}(h:n<=sizeLine):Builtin.List.listTooLong n=false:=by
 unfold Builtin.List.listTooLong;exact Hu (by lia)
end
section
variable {X:Cx}
def LC:V->List V->Hp->VK->Prop:=fun x vs H Q=>∃l xs y,x=.ref l/\vs=[y]/\H l=some (.lst xs)/\xs.length<sizeLine/\Q .non (upd H l (.lst (xs++[y])))
theorem Kf:MtM X "list.append" LC:=by
 intro pins s σ H x vs v us Q I rx rv h;obtain⟨l,xs,y,rfl,rfl,hH,hz,q⟩:=h;cases rx;obtain⟨u,rfl,ru⟩:=rv.one;obtain⟨z,its,n,r,hl,e⟩:=I.Ll hH;refine call_meets F.slot_list_append ⟨_,e,rfl⟩ F.entry_list_append (F.args_list_append_2 _ _) (PySem.list_append l its.toArray n u (by rw[Ed];lia)) ⟨e,?_⟩;refine⟨.non,_,I.OV (its':=its++[u]) hH e (by simp) (r.append (.cons ru .nil)) ?_,rfl,q⟩;rw[DR,GK];lia
def NI:V->List V->Hp->VK->Prop:=fun x vs H Q=>∃l b xs zs,x=.ref l/\vs=[.ref b]/\H l=some (.lst xs)/\H b=some (.lst zs)/\xs.length+zs.length<=sizeLine/\Q .non (upd H l (.lst (xs++zs)))
theorem Jw:MtM X "list.extend" NI:=by
 intro pins s σ H x vs v us Q I rx rv h;obtain⟨l,b,xs,zs,rfl,rfl,hH,hB,hz,q⟩:=h;cases rx;obtain⟨u,rfl,ru⟩:=rv.one;cases ru;obtain⟨z,its,n,r,hl,e⟩:=I.Ll hH;obtain⟨z2,its2,n2,r2,hl2,e2⟩:=I.Ll hB;have hsz:its.toArray.size+its2.toArray.size<=sizeLine:=by rw[Ed,Ed];lia
 have hlong:¬(!its.toArray.isEmpty&&Builtin.List.listTooLong (its.toArray.size+its2.toArray.size))=true:=by
  rw[lV hsz,GL];exact Ek
 refine call_meets F.slot_list_extend ⟨_,e,rfl⟩ F.entry_list_extend (F.args_list_extend_2 _ _)
  (AutoSeq1.list_extend_list_list_0 l its.toArray n b its2.toArray n2 hlong (by rw[Ed];lia) (by lia)) ⟨e,e2,?_⟩
 refine⟨.non,_,I.OV (its':=its++its2) hH e (by simp) (r.append r2) ?_,rfl,q⟩;rw[DR];lia
def rPop:V->List V->Hp->VK->Prop:=fun x vs H Q=>∃l xs y,x=.ref l/\vs=[]/\H l=some (.lst xs)/\xs[xs.length-1]?=some y/\Q y (upd H l (.lst xs.dropLast))
theorem NS:MtM X "list.pop" rPop:=by
 intro pins s σ H x vs v us Q I rx rv h;obtain⟨l,xs,y,rfl,rfl,hH,hy,q⟩:=h;cases rx;have hus:=rv.zero;subst hus;obtain⟨z,its,n,r,hl,e⟩:=I.Ll hH;obtain⟨u,hu,ru⟩:=r.get hy;have hy':its.toArray[its.toArray.size-1]?=some u:=by
  show its.toArray[its.length-1]?=some u;rw[<- Fk,<- hl];exact hu
 refine call_meets F.slot_list_pop ⟨_,e,rfl⟩ F.entry_list_pop (F.args_list_pop_1 _) (MeetsSeq.list_pop_last l its.toArray n u hy' (by rw[Ed];lia)) ⟨e,?_⟩;refine⟨y,_,I.OV (its':=its.dropLast) hH e ?_ r.dropLast ?_,ru,q⟩
 ·show its.toArray.eraseIdxIfInBounds (its.toArray.size-1)=its.dropLast.toArray;rw[Ed,Hg,mN]
 ·rw[List.length_dropLast];lia
def NW:V->List V->Hp->VK->Prop:=fun x vs H Q=>∃l xs i k y,x=.ref l/\vs=[.int i]/\H l=some (.lst xs)/\-(2^63)<=i/\i<2^63/\seqIndex? i xs.length=some k/\xs[k]?=some y/\Q y (upd H l (.lst (xs.eraseIdx k)))
theorem Mn:MtM X "list.pop" NW:=by
 intro pins s σ H x vs v us Q I rx rv h;obtain⟨l,xs,i,k,y,rfl,rfl,hH,h1,h2,hk,hy,q⟩:=h;cases rx;obtain⟨u,rfl,ru⟩:=rv.one;obtain⟨t,rfl⟩:=ru;obtain⟨z,its,n,r,hl,e⟩:=I.Ll hH;obtain⟨w,hw,rw'⟩:=r.get hy;refine call_meets F.slot_list_pop ⟨_,e,rfl⟩ F.entry_list_pop (F.args_list_pop_2 _ _)
  (MeetsSeq.list_pop_at l its.toArray n i t k w (fitsIndex_both h1 h2) (by rw[Ed,<- hl];exact hk) (by rw[<- Fk];exact hw) (by rw[Ed];lia)) ⟨e,?_⟩
 refine⟨y,_,I.OV (its':=its.eraseIdx k) hH e ?_ (r.eraseIdx k) ?_,rw',q⟩
 ·show its.toArray.eraseIdxIfInBounds k=(its.eraseIdx k).toArray;rw[Hg]
 ·have:=jg xs k;lia
def rCat:R2:=fun x y H Q=>∃l b xs zs,x=.ref l/\y=.ref b/\H l=some (.lst xs)/\H b=some (.lst zs)/\xs.length+zs.length<=sizeLine/\∀p,H p=none->Q (.ref p) (upd H p (.lst (xs++zs)))
theorem JY:OpR X (binaryOp .Add) rCat:=by
 intro pins s σ H x y v u Q I rx ry h;obtain⟨l,b,xs,zs,rfl,rfl,hH,hB,hz,q⟩:=h;cases rx;cases ry;obtain⟨z,its,n,r,hl,e⟩:=I.Ll hH;obtain⟨z2,its2,n2,r2,hl2,e2⟩:=I.Ll hB;refine PySem.P.add_list e e2 ?_ (by rw[Ed,Ed];lia);have ea:its.toArray++its2.toArray=(its++its2).toArray:=by simp
 rw[ea];exact⟨.ref _,_,I.PN (t':=s.toks) (r.append r2) (by rw[DR];lia),rfl,q _ I.fresh⟩
def rRep:R2:=fun x y H Q=>∃l k xs,x=.ref l/\y=.int k/\H l=some (.lst xs)/\-(2^63)<=k/\k<2^63/\xs.length*k.toNat<=sizeLine /\
 ∀p,H p=none->Q (.ref p) (upd H p (.lst (List.replicate k.toNat xs).flatten))
theorem vF{α:Type}(xs:List α)(k:Nat):(List.replicate k xs).flatten.length=k*xs.length:=by
 induction k with
 |zero=>simp
 |succ k ih=>rw[EJ,ER,DR,ih,Nat.succ_mul,Nat.add_comm]
theorem OT:OpR X (binaryOp .Mult) rRep:=by
 intro pins s σ H x y v u Q I rx ry h;obtain⟨l,k,xs,rfl,rfl,hH,h1,h2,hz,q⟩:=h;cases rx;obtain⟨t,rfl⟩:=ry;obtain⟨z,its,n,r,hl,e⟩:=I.Ll hH;have hlen:its.toArray.size*k.toNat<=sizeLine:=by rw[Ed,<- hl];exact hz
 have hcap:¬its.toArray.size*k.toNat>(2^63-1)/8:=by
  have:(sizeLine:Nat)<=(2^63-1)/8:=by decide
  lia
 have hfit:¬(!Builtin.List.listFitsIndex k)=true:=by
  rw[fitsIndex_both h1 h2];exact Ek
 have hlong:¬Builtin.List.listTooLong (its.toArray.size*k.toNat)=true:=by
  rw[lV hlen];exact Ek
 have hnew:List.foldl (fun x1 x2=>x1++x2) #[] (List.replicate (if its.toArray.isEmpty=true then 0 else k.toNat) its.toArray)=(List.replicate k.toNat its).flatten.toArray:=by
  have f0:∀m:Nat,List.foldl (fun x1 x2=>x1++x2) #[] (List.replicate m its.toArray)=(List.replicate m its).flatten.toArray:=fun m=>by
   have:=jQ its m [];rw[Gg] at this;exact this
  rw[f0];cases its with
  |nil=>simp
  |cons a r'=>rw[Ho (by simp)]
 refine wpAny_binaryOp_repeat_ref (T:="list") (U:="int") (by decide) ⟨_,e,rfl⟩ (fun s'=>typeIs_int s' k t) noFill_list_mul F.fills_int_mul F.slot_int_rmul repeat_list F.slot_int_index.lookup
  (call_meets F.slot_int_rmul (typeIs_int s k t) F.entry_int_rmul (F.args_int_rmul_2 _ _) (int___rmul___int_list k t l its.toArray n)
   ⟨e,rfl,⟨_,e,rfl⟩,call_meets F.slot_list_mul ⟨_,e,rfl⟩ F.entry_list_mul (F.args_list_mul_2 _ _) (AutoListH.list___mul___list_int_3 l its.toArray n k t hfit hcap hlong) ⟨e,?_⟩⟩)
 rw[hnew];exact⟨.ref _,_,I.PN (t':=s.toks) (r.rep k.toNat) (by rw[vF,Nat.mul_comm];exact hz),rfl,q _ I.fresh⟩
end
end L2
namespace Att
open PySem PySem.W PySem.Calls PyProof.Rows
theorem gZ{P:Params}{h:Heap}:∀(ns:List Int)(vs:List Value),WellAll P h vs (ns.map WData.int)->IntsAre vs ns:=by
 intro ns;induction ns with
 |nil=>
  intro vs w;rw[FB] at w;cases w;exact .nil
 |cons n ns ih=>
  intro vs w;rw[Ex] at w;cases w with
  |cons a b=>
   cases a;exact .cons _ _ (ih _ b)
theorem oa{l:OpenLaw}{n:Nat}(hn:l.most=some n){P:Params}{h:Heap}{args:List WData}{vals:List Value}
  (hpre:l.row.toRowW.claim.pre args=true)(hwl:WellAll P h vals args) :
  ∃a vs ns,vals=[Value.ref a]/\args=[WData.list (ns.map WData.int)]/\h.get? a=some {cls:=.type "list",data:=.seq vs.toArray}/\IntsAre vs ns/\ns.length<=n:=by
 have hsh:WShape.hasAll [] args [.list .int]=true:=(pre_splitW hpre).1;have hc:l.pre.holds [] {args:=args}=true:=(pre_splitW hpre).2;obtain⟨d,r,rfl,h1,h2⟩:=hasAllW_cons hsh;obtain rfl:=hasAllW_nil h2;obtain⟨xs,rfl,h3⟩:=hasW_list h1;obtain⟨ns,rfl⟩:=items_int h3;have hlen:ns.length<=n:=by
  unfold OpenLaw.pre at hc;have h4:(WTm.not (.lt (.lit (.int (n:Int))) (.len (.arg 0)))).holds [] {args:=[.list (ns.map .int)]}=true:=by
   have h4:=(holds_andW hc).1;rw[hn] at h4;exact h4
  have h5:=condW_of h4 (w_not (w_lt w_lit (w_len_list (w_arg rfl))));rw[DQ] at h5;refine Nat.le_of_not_lt fun q=>?_;have q':(n:Int)<((ns.length:Nat):Int):=by lia
  first
   |(rw[Ht q'] at h5;exact absurd h5 (by decide))
   |(simp at h5;lia)
 cases hwl with
 |cons w1 w2=>
  cases w2;cases w1 with
  |list ho hall=>exact⟨_,_,ns,rfl,rfl,ho,gZ ns _ hall,hlen⟩
theorem qb(l:OpenLaw)(args:List WData):l.row.toRowW.claim.post args (.bool true) args=true:=
 postW_of (r:=l.row.toRowW) (X:=(true==true))
  (show WShape.has [] (.bool true) .bool=true by first|rfl|decide|simp[WShape.has,WShape.arms,WShape.armsAll])
  (show(WTm.eq .res (.lit (.bool true))).value [] {args:=args,res:=some (.bool true),after:=args}=some (.bool (true==true)) from w_eq_bool (w_res rfl) w_lit) rfl
theorem Kk{l:OpenLaw}{n:Nat}{q:Program}{loose:List Str}{XP:(Str->Option Value)->Heap->Prop}{YP:World->Heap->Prop}{d:DefRec}
  (hn:l.most=some n)(hdf:d.params.defaults=[])
  (call:∀(w:World) (s₀ s₁:Shared) (mg mb:Str->Option Value) (fa:Addr) (o:Obj) (pm cd doc:Value) (a:Addr) (vs:List Value) (ns:List Int),
   Ground q loose [] XP w s₀ mg mb s₁.heap->YP w s₁.heap ->
   s₁.heap.get? fa=some o->o.data=.func (docDef d.name d.params d.body d.scope pm cd doc)->s₁.heap.CodeRec cd d.name->mg d.name=some (.ref fa) ->
   s₁.heap.get? a=some {cls:=.type "list",data:=.seq vs.toArray}->IntsAre vs ns->ns.length<=n->s₁.gens=#[] ->
   codeAny (model l.prog w) callerA (.call (.ref fa) ⟨[.ref a],[]⟩) (fun r s'=>r=.ok (.ret (.bool true))/\OldK s₁.heap s'.heap/\s'.os=s₁.os/\AllBare s'.gens) s₁) :
  WalkO q loose XP YP l.row.toRowW d [] (fun f vs=>PySem.call f vs):=by
 intro w s₀ s₁ mg mb G Y fa o pm cd doc dV kV ho hd hcd hD hmg hg args vals as hpre hlay hrd hwl hlo;obtain rfl:dV=.none:=Dflts.none hD hdf;obtain rfl:kV=.none:=Dflts.noKw hD;obtain⟨a,vs,ns,rfl,rfl,hobj,hints,hlen⟩:=oa hn hpre hwl;refine enter_call (codeAny_mono (call w s₀ s₁ mg mb fa o pm cd doc a vs ns G Y ho (fd_plain hd) hcd hmg hobj hints hlen hg) fun r s' hq=>?_);obtain⟨rfl,h2,h3,h4⟩:=hq;exact⟨.inl ⟨.bool true,.bool true,[],rfl,fun _=>rfl,.bool true,qb l _,fun _=>⟨List.Pairwise.nil,fun _ hm=>(nomatch hm)⟩⟩,h2,h3,h4⟩
end Att
namespace L2
open PySem PySem.Spec PyProof.Rows
theorem Ke:∀{vs:List Value}{ns:List Int},IntsAre vs ns->Vals (ns.map V.int) vs
 |_,_,.nil=>.nil
 |_,_,.cons n t h=>.cons ⟨t,rfl⟩ (Ke h)
def zE (H:Hp):Prop:=∀b,H b=none\/∃o xs,H b=some (.frz o (.lst xs))
theorem rZ{P:Program}{w:World}{K:W.Frag}{mg mb:Str->Option Value}{CX:CXT}{k:Nat}{fa a:Addr}{fd:FuncData}{x:Str}{sp:Sp}{s₁:Shared}{vs:List Value}{ns:List Int}
  (KX:K.In s₁.heap)(hns:s₁.heap.Ns mainGlobals mg)(hb:s₁.heap.Ns builtinsNs mb)(hbb:∀x:Str,x≠"__name__"->mb x=bootBuiltins x)(hlim:s₁.heap.NoLimit)(hg:s₁.gens=#[])
  (ha:s₁.heap.get? a=some {cls:=.type "list",data:=.seq vs.toArray})(hi:IntsAre vs ns)(hl:ns.length<=sizeLine)(hr:Jm k callerA)
  (F:∀base:Heap,K.In base->base.Ns mainGlobals mg->Ic P w K mg base CX k fa fd [x] sp)(hbind:∀(s:Shared)(u:Value),BindsTo s fd ⟨[u],[]⟩ [(x,u)])
  (hsp:∀H:Hp,zE H->SqL K H a (ns.map V.int)->sp [.ref a] H (fun v _=>v=.bl true) fun _ _ _=>False)
  (hCX:∀H e s',CX [] H s₁ (fun _ _ _=>False) e s'->False) :
  codeAny (model P w) callerA (.call (.ref fa) ⟨[.ref a],[]⟩) (fun r s'=>r=.ok (.ret (.bool true))/\OldK s₁.heap s'.heap/\s'.os=s₁.os/\AllBare s'.gens) s₁:=by
 have rv:=Ke hi;have lenV:=hi.length;have core:∀H:Hp,zE H->SqL K H a (ns.map V.int)->HOk P w H s₁.heap->(∀b,H b≠none->b=a)->(H a≠none->K.lookup a=none) ->
   codeAny (model P w) callerA (.call (.ref fa) ⟨[.ref a],[]⟩) (fun r s'=>r=.ok (.ret (.bool true))/\OldK s₁.heap s'.heap/\s'.os=s₁.os/\AllBare s'.gens) s₁:=by
  intro H hO hS hok hA hK;have base_of:∀{b:Addr}{o:Obj},s₁.heap.get? b=some o->H b=none->(rO s₁.heap H).get? b=some o:=fun e n=>sq e n;have noA:∀{b:Addr}{o:Obj}{es:Array DictEntry}{ep:Nat},s₁.heap.get? b=some o->o.data=.dict es ep->H b=none:=fun {b o es ep} e d=>by
   cases q:H b with
   |none=>rfl
   |some u=>
    have e':b=a:=hA b (by rw[q];simp);subst e';rw[ha] at e;cases e;have d':Data.seq vs.toArray _=Data.dict es ep:=d;cases d'
  have nsK:∀{b:Addr}{m:Str->Option Value},s₁.heap.Ns b m->(rO s₁.heap H).Ns b m:=fun {b m} ⟨o,es,ep,e,d,r⟩=>⟨o,es,ep,base_of e (noA e d),d,r⟩
  have hKb:K.In (rO s₁.heap H):=fun b o e=>base_of (KX b o e) (by
   cases q:H b with
   |none=>rfl
   |some u=>
    have e':b=a:=hA b (by rw[q];simp);subst e'
    rw[hK (by rw[q]; simp)] at e; cases e)
  have hM:Mod K mg (rO s₁.heap H):=⟨hKb,nsK hns,⟨mb,nsK hb,hbb⟩,let ⟨mc,h1,h2⟩:=hlim;⟨mc,nsK h1,h2⟩⟩
  have e0:NN P w K mg (rO s₁.heap H) callerA [] s₁ H:=⟨rfl,hM,fun b o e=>uX e,FN (pE _ _),trivial,fun b hb=>absurd (show b∈([]:List Addr) from hb) (by simp),hok,.of_eq hg⟩
  refine codeAny_mono ((F _ hKb (nsK hns)).run callerA [] s₁ H ⟨[.ref a],[]⟩ [.ref a] [.ref a] _ _ hr e0 (hbind s₁ (.ref a)) (.cons rfl .nil) (hsp H hO hS)) fun r s' h=>?_;cases r with
  |error e=>exact(hCX H e s' h).elim
  |ok fl=>
   cases fl with
   |next=>exact False.elim h
   |brk=>exact False.elim h
   |cont=>exact False.elim h
   |ret u=>
    obtain⟨v,H',os,bare,un,hok',r',q⟩:=h;have q':v=.bl true:=q;subst q';obtain rfl:u=Value.bool true:=r';refine⟨rfl,OldK.of_keep fun b o e=>?_,os,bare⟩;cases q:H b with
    |none=>exact un.keep b o e q (by intro z;exact absurd (show b∈([]:List Addr) from z) (by simp)) (by simp)
    |some u=>
     rcases hO b with z|⟨ob,xs,z⟩
     ·rw[q] at z;cases z
     ·have z2:=un.Ln b ob _ z;obtain⟨e1,_⟩:=hok b _ z;obtain⟨e2,_⟩:=hok' b _ z2;rw[e] at e1;cases e1;exact e2
 cases hk:K.lookup a with
 |some o=>
  have e:=KX a o hk;rw[ha] at e;cases e;refine core (fun _=>none) (fun _=>.inl rfl) (.inr ⟨_,vs.toArray,_,hk,rfl,rfl,rfl,by rw[Ed,lenV];exact hl,by simpa using rv⟩) (fun b u z=>by have z':(none:Option HO)=some u:=z;cases z') (fun b z=>absurd rfl z) fun z=>absurd rfl z
 |none=>
  refine core (fun b=>if b=a then some (.frz {cls:=.type "list",data:=.seq vs.toArray} (.lst (ns.map V.int))) else none) (fun b=>?_) (.inl (.inr ⟨{cls:=.type "list",data:=.seq vs.toArray},Hq rfl⟩)) (fun b u z=>?_) (fun b z=>?_) fun _=>hk
  ·by_cases hb:b=a
   ·exact .inr ⟨_,_,Hq hb⟩
   ·exact .inl (Ho hb)
  ·by_cases hb:b=a
   ·have z':=(Hq hb).symm.trans z;cases z';subst hb;exact⟨ha,by rw[DQ];exact hl,vs,_,rv,ha⟩
   ·have z':=(Ho hb).symm.trans z;cases z'
  ·by_cases hb:b=a
   ·exact hb
   ·exact absurd (Ho hb) z
theorem Nt{l:W.OpenLaw}{n k:Nat}{q:Program}{loose:List Str}{XP:(Str->Option Value)->Heap->Prop}{YP:World->Heap->Prop}{d:DefRec}{K:Params->W.Frag}{CX:World->CXT}{sp:World->Sp}{x:Str}
  (hn:l.most=some n)(hn2:n<=sizeLine)(hdf:d.params.defaults=[])(hr:Jm k callerA)
  (hY:∀(w:World)(h:Heap),YP w h->(K w.params).In h)
  (F:∀(w:World) (mg:Str->Option Value) (fa:Addr) (h:Heap),(K w.params).In h->h.Ns mainGlobals mg->mg d.name=some (.ref fa) ->
   ∃fd:FuncData,(∀(s:Shared)(u:Value),BindsTo s fd ⟨[u],[]⟩ [(x,u)]) /\
    ∀base:Heap,(K w.params).In base->base.Ns mainGlobals mg->Ic l.prog w (K w.params) mg base (CX w) k fa fd [x] (sp w))
  (hsp:∀(w:World)(H:Hp)(a:Addr)(ns:List Int),ns.length<=n->zE H->SqL (K w.params) H a (ns.map V.int)->sp w [.ref a] H (fun v _=>v=.bl true) fun _ _ _=>False)
  (hCX:∀(w:World)(H:Hp)(s:Shared)(e:Value)(s':Shared),CX w [] H s (fun _ _ _=>False) e s'->False) :
  W.WalkO q loose XP YP l.row.toRowW d [] (fun f vs=>PySem.call f vs):=by
 refine Att.Kk hn hdf fun w s₀ s₁ mg mb fa o pm cd doc a vs ns G Y ho hd hcd hmg hobj hints hlen hg=>?_;have KX:=hY w _ Y;obtain⟨fd,hb,hF⟩:=F w mg fa _ KX G.T.g hmg;exact rZ KX G.T.g G.T.b G.T.builtins G.T.nolimit hg hobj hints (Ee hlen hn2) hr hF hb (fun H hO hS=>hsp w H a ns hlen hO hS) fun H e s'=>hCX w H s₁ e s'
def cH (s:Stmt):Arguments:=match s with
 |.FunctionDef _ a _ _ _ _ _ _ _ _=>a
 |_=>{posonlyargs:=[],args:=[],vararg:=none,kwonlyargs:=[],kw_defaults:=[],kwarg:=none,defaults:=[]}
def bV (s:Stmt):List Stmt:=match s with
 |.FunctionDef _ _ b _ _ _ _ _ _ _=>b
 |_=>[]
def av (s:Stmt):Scope:=match s with
 |.FunctionDef _ _ _ _ _ _ sc _ _ _=>sc
 |_=>{kind:=.function,names:=[],isGenerator:=false,isCoroutine:=false}
abbrev CX0:CXT:=fun _ _ _ _ _ _=>False
abbrev E0:XK:=fun _ _ _=>False
theorem wI{X:Cx}:nZ CX0 X E0:=fun _ _ _ _ _ _ _ h=>h.elim
structure Fun(K:W.Frag)(x qual:Str)(st:Stmt)(f:Addr)(fd:FuncData):Prop where
 ex:∃(oc:Value)(od:Option Addr)(kV doc pm:Value)(an:Option Addr)(cdv ct:Value)(osl:Array (Option Value)),
  fd=W.fnOf x qual (cH st) (bV st) (av st) .none kV doc pm an cdv ct/\K.lookup f=some ⟨oc,od,.func fd,osl⟩/\W.codeIn K cdv qual=true
 kp:W.keepIn K (.ref f)=true
section
variable {P:Program}{w:World}{K:PySem.W.Frag}{mg:Str->Option Value}{base:Heap}
theorem Fun.ok{x qual:Str}{st:Stmt}{f:Addr}{fd:FuncData}{N ps:List Str}{k:Nat}{sp:Sp}(F:Fun K x qual st f fd)(S:HX N ps (av st))(len:∀vs H Q E,sp vs H Q E->vs.length=ps.length)
  (hbody:∀(cdv:Value) (A:Around) (outer:List Env) (s:Shared) (H:Hp) (vs:List V) (Q:VK) (E:XK),Jm k (A.deeper (envOfC qual (av st) s.heap.objs.size f cdv))->sp vs H Q E ->
   ∃t,PSs (bW CX0 P w K mg base N qual (av st) f cdv A outer s H E).nox (bV st) t/\t { nx:=fun _ H'=>Q .non H',rt:=Q } (start N vs) H):Ic P w K mg base CX0 (k+1) f fd ps sp:=by
 obtain⟨oc,od,kV,doc,pm,an,cdv,ct,osl,rfl,lk,hcd⟩:=F.ex;refine yZ lk hcd S len fun A outer s H vs Q E hr hsp=>?_;obtain⟨t,h,q⟩:=hbody cdv A outer s H vs Q E hr hsp;exact⟨t,h.nox,q⟩
theorem Fun.binds{x qual:Str}{st:Stmt}{f:Addr}{fd:FuncData}{ps:List Str}(F:Fun K x qual st f fd)
  (h:∀(kV doc pm:Value)(an:Option Addr)(cdv ct:Value)(us:List Value),us.length=ps.length->bindArgs (W.fnOf x qual (cH st) (bV st) (av st) .none kV doc pm an cdv ct) ⟨us,[]⟩=pure (ps.zip us)):Binds K fd ps []:=by
 obtain⟨oc,od,kV,doc,pm,an,cdv,ct,osl,rfl,lk,hcd⟩:=F.ex;exact .all (h kV doc pm an cdv ct)
theorem sJ{x qual:Str}{st:Stmt}{f:Addr}{oc:Value}{od an:Option Addr}{osl:Array (Option Value)}{kV doc pm cdv ct:Value}(l:K.lookup f=some ⟨oc,od,.func (W.fnOf x qual (cH st) (bV st) (av st) .none kV doc pm an cdv ct),osl⟩)
  (c:W.codeIn K cdv qual=true)(k:W.keepIn K (.ref f)=true):Fun K x qual st f (W.fnOf x qual (cH st) (bV st) (av st) .none kV doc pm an cdv ct):=⟨⟨oc,od,kV,doc,pm,an,cdv,ct,osl,rfl,l,c⟩,k⟩
end
theorem bK{A:Around}{k:Nat}(hr:Jm k A):A.units+1<cLine:=Fi (Nat.add_le_add_left (by decide:1<=64) _) hr.units
section
variable {X:Cx}
theorem pv(i:Nat){x:Str}{pos:Pos}(hN:X.N[i]?=some x:=by rfl)(hv:Vis X.env.scope x:=by first|exact Or.inl rfl|exact Or.inr (Or.inl rfl)|exact Or.inr (Or.inr rfl))(hd:(x==("__debug__":Str))=false:=by decide)
  (hcd:(x==("__classdict__":Str))=false:=by decide):PE X (.Name x pos) (yR i):=wk hN hv hd hcd
end
theorem Ac{A B:Prop}(h:B):if false=true then A else B:=by
 rw[Ho Ek];exact h
theorem zZ{A B:Prop}(h:A):if true=true then A else B:=by
 rw[Hq rfl];exact h
theorem yI{c A B:Prop} [Decidable c](h1:c->A)(h2:¬c->B):if c then A else B:=by
 by_cases h:c
 ·rw[Hq h];exact h1 h
 ·rw[Ho h];exact h2 h
def Ia (H H':Hp):Prop:=∀b o,H b=some o->H' b=some o
theorem Ia.refl(H:Hp):Ia H H:=fun _ _ h=>h
theorem Ia.trans{H H1 H2:Hp}(a:Ia H H1)(b:Ia H1 H2):Ia H H2:=fun c o h=>b c o (a c o h)
theorem Ia.free{H H':Hp}(e:Ia H H'){l:Addr}(h:H' l=Option.none):H l=Option.none:=by
 cases q:H l with
 |none=>rfl
 |some o=>
  rw[e l o q] at h;cases h
theorem Ia.seq{K:W.Frag}{H H':Hp}{a:Addr}{xs:List V}(e:Ia H H')(h:SqL K H a xs):SqL K H' a xs:=by
 rcases h with (h|⟨o,h⟩)|h
 ·exact .inl (.inl (e _ _ h))
 ·exact .inl (.inr ⟨o,e _ _ h⟩)
 ·exact .inr h
theorem zX{a b:TS}{D:Ends}{σ:St}{H:Hp}(g:∀D',D'=D->∀R,R=b->yo a R D' σ H):yo a b D σ H:=g _ rfl _ rfl
theorem yc{R a b:TS}{D:Ends}{σ:St}{H:Hp}(h:R=yo a b)(g:∀R,R=b->yo a R D σ H):R D σ H:=by subst h;exact g _ rfl
theorem xR{R b:TS}{D:Ends}{σ:St}{H:Hp}(h:R=b)(g:b D σ H):R D σ H:=by subst h;exact g
theorem xf{D D':Ends}{σ:St}{H:Hp}(h:D'=D)(g:D.nx σ H):D'.nx σ H:=by subst h;exact g
theorem yr{D D':Ends}{v:V}{H:Hp}(h:D'=D)(g:D.rt v H):D'.rt v H:=by subst h;exact g
def eE (cells:List (Str×Addr)):List (Str×NameKind)->List (Str×Addr)->List (Str×Addr)
 |[],acc=>acc
 |(n,k)::r,acc=>eE cells r (if k==.free then (n,(cells.lookup n).getD 0)::acc else acc)
theorem bJ{scope:Scope}{env:Env}(h:∀y∈scope.names,y.2=.free->∃c,env.cells.lookup y.1=some c):closureFor scope env=pure (eE env.cells scope.names []):=by
 unfold closureFor;have key:∀(l:List (Str×NameKind))(acc:List (Str×Addr)),(∀y∈l,y.2=.free->∃c,env.cells.lookup y.1=some c) ->
   (forIn l acc (fun x r=>match x with
    | (name,kind)=>if (kind == NameKind.free)=true then do let a <- cellOf env name; pure (ForInStep.yield ((name,a)::r)) else pure (ForInStep.yield r)):Sem (List (Str×Addr)))=pure (eE env.cells l acc):=by
  intro l;induction l with
  |nil=>intro acc _;rfl
  |cons y r ih=>
   intro acc hl;obtain⟨n,k⟩:=y;rw[Fl];have ih':=fun acc=>ih acc fun y hy=>hl y (Eg _ hy);by_cases hk:(k==NameKind.free)=true
   ·obtain⟨c,hc⟩:=hl (n,k) DS (by simpa using hk);have e1:cellOf env n=pure c:=by unfold cellOf;have hc':env.cells.lookup n=some c:=hc;rw[hc']
    dsimp only;rw[Hq hk,e1];simp only[pure_bind];rw[ih'];unfold eE;rw[Hq hk];have hc':env.cells.lookup n=some c:=hc;rw[hc']
    conv=>rhs;unfold eE
    rfl
   ·dsimp only;rw[Ho hk];simp only[pure_bind];rw[ih']
    conv=>rhs;unfold eE
    rw[Ho hk]
 have:=key scope.names [] h;simp only[bind_pure] at *;exact this
theorem eR{cells:List (Str×Addr)}:∀{l:List (Str×NameKind)}{acc:List (Str×Addr)}{x:Str}{c:Addr},(∀y∈l,y.2=.free->∃c,cells.lookup y.1=some c)->(∀x c,acc.lookup x=some c->cells.lookup x=some c) ->
  (eE cells l acc).lookup x=some c->cells.lookup x=some c
 |[],_,_,_,_,ha,e=>ha _ _ e
 |(n,k)::r,acc,x,c,h,ha,e=>by
  unfold eE at e;refine eR (fun y hy=>h y (Eg _ hy)) ?_ e;intro x c e;by_cases hk:(k==NameKind.free)=true
  ·rw[Hq hk] at e;obtain⟨c',hc⟩:=h (n,k) DS (by simpa using hk);have hc':cells.lookup n=some c':=hc;rw[Fd] at e;by_cases hx:(x==n)=true
   ·rw[hx] at e;have hxn:x=n:=by simpa using hx
    subst hxn;simp only[hc',GM] at e;rw[hc'];exact e
   ·have hx':(x==n)=false:=by simpa using hx
    rw[hx'] at e;exact ha _ _ e
  ·rw[Ho hk] at e;exact ha _ _ e
theorem lC{cells:List (Str×Addr)}:∀{l:List (Str×NameKind)}{acc:List (Str×Addr)}{x:Str},((x,NameKind.free)∈l\/(acc.lookup x).isSome=true)->((eE cells l acc).lookup x).isSome=true
 |[],_,_,h=>by
  rcases h with h|h
  ·cases h
  ·exact h
 |(n,k)::r,acc,x,h=>by
  unfold eE;refine lC ?_;rcases h with h|h
  ·rcases Eb.mp h with e|h
   ·right
    cases e;simp[Fd]
   ·exact .inl h
  ·right
   split
   ·rw[Fd];split
    ·rfl
    ·exact h
   ·exact h
theorem eC{env:Env}{x:Str}:∀{names:List (Str×NameKind)},names.lookup x=some .free ->
  (names.map fun(n,k)=>if (k==NameKind.free&&env.scope.kind==.function&&env.kindOf n==some .cell) then (n,NameKind.cell) else (n,k)).lookup x=some .cell \/
  (names.map fun(n,k)=>if (k==NameKind.free&&env.scope.kind==.function&&env.kindOf n==some .cell) then (n,NameKind.cell) else (n,k)).lookup x=some .free
 |[],h=>by simp at h
 |(n,k')::r,h=>by
  have ih:=@eC env x r;rw[Fd] at h;rw[Ex,Fd];by_cases hx:(x==n)=true
  ·simp only[hx] at h;have hk:k'=.free:=HC h;by_cases c:(k'==NameKind.free&&env.scope.kind==.function&&env.kindOf n==some .cell)=true
   ·rw[Hq c];simp only[hx];exact .inl trivial
   ·rw[Ho c];simp only[hx,hk];exact .inr trivial
  ·have hx':(x==n)=false:=by simpa using hx
   simp only[hx'] at h;by_cases c:(k'==NameKind.free&&env.scope.kind==.function&&env.kindOf n==some .cell)=true
   ·rw[Hq c];simp only[hx'];exact ih h
   ·rw[Ho c];simp only[hx'];exact ih h
def cS (js:List Nat)(σ:St):St:=js.map fun j=>(σ[j]?).join
theorem sj{l:List (Str×NameKind)}{acc:List (Str×Addr)}(h:∀y∈l,y.2≠.cell) :
  (forIn l acc (fun x r=>match x with
   | (name,kind)=>if (kind == NameKind.cell)=true then do let a <- alloc { cls:=.type "cell",data:=.cell none }; pure (ForInStep.yield ((name,a)::r)) else pure (ForInStep.yield r)):Sem (List (Str×Addr)))=pure acc:=by
 induction l generalizing acc with
 |nil=>rfl
 |cons y r ih=>
  obtain⟨n,k⟩:=y;rw[Fl];have hk:¬(k==NameKind.cell)=true:=fun z=>h (n,k) DS (by simpa using z);dsimp only;rw[Ho hk];simp only[pure_bind];exact ih fun y hy=>h y (Eg _ hy)
theorem vh{t:Str}{a b:List (Str×NameKind)}{acc:List (Str×Addr)}(ha:∀y∈a,y.2≠.cell)(hb:∀y∈b,y.2≠.cell) :
  (forIn (a++(t,NameKind.cell)::b) acc (fun x r=>match x with
   | (name,kind)=>if (kind == NameKind.cell)=true then do let a <- alloc { cls:=.type "cell",data:=.cell none }; pure (ForInStep.yield ((name,a)::r)) else pure (ForInStep.yield r)):Sem (List (Str×Addr)))=(do let c <- alloc { cls:=.type "cell",data:=.cell none }; pure ((t,c)::acc)):=by
 induction a generalizing acc with
 |nil=>
  rw[Gg,Fl];dsimp only;rw[Hq (show(NameKind.cell==NameKind.cell)=true from rfl)];simp only[bind_assoc,pure_bind]
  congr 1
  funext c
  exact sj hb
 |cons y r ih=>
  obtain⟨n,k⟩:=y;rw[EV,Fl];have hk:¬(k==NameKind.cell)=true:=fun z=>ha (n,k) DS (by simpa using z);dsimp only;rw[Ho hk];simp only[pure_bind];exact ih fun y hy=>ha y (Eg _ hy)
def KG(names:List (Str×NameKind)):Option Str->Prop
 |none=>∀y∈names,y.2≠.cell
 |some t=>∃a b,names=a++(t,NameKind.cell)::b/\(∀y∈a,y.2≠.cell)/\∀y∈b,y.2≠.cell
def vO (t:Option Str)(C:Addr)(cl:List (Str×Addr)):List (Str×Addr):=match t with
 |none=>cl
 |some t=>(t,C+1)::cl
theorem oZ{M:Model}{A:Around}{E:Value->Shared->Prop}{s:Shared}{scope:Scope}{globals:Addr}{cl:List (Str×Addr)}{qual:Str}{func:Option Addr}{code:Value}{around:Option Env}{builtins:Addr}{Q:Env->Shared->Prop}{t:Option Str}(h1:KG scope.names t)(hk:scope.kind=.function)
  (h:∀h',h'.Ns s.heap.objs.size (fun _=>none)->(∀x,t=some x->h'.IsCell (s.heap.objs.size+1) none)->(∀b o,s.heap.get? b=some o->h'.get? b=some o)->Q (newEnv scope s.heap.objs.size globals (vO t s.heap.objs.size cl) qual func code around builtins) {s with heap:=h'}) :
  wpAny M A (newFunctionEnv scope globals cl [] qual func code around builtins) Q E s:=by
 cases t with
 |none=>
  refine wpAny_newFunctionEnv h1 (by intro y hy;simp at hy) (fun h' n b=>h h' n (fun _ z=>by cases z) fun a o e=>?_) hk;exact b.extBut a o (DZ (Hz e)) (HJ _ e)
 |some t=>
 obtain⟨a,b,e,ha,hb⟩:=h1;unfold newFunctionEnv;refine Hm (wpAny_alloc ?_);dsimp only;rw[e,vh ha hb];refine Hm (Hm (wpAny_alloc (Hn ?_)));refine Hm (Hn (Hn ?_));have z:(s.heap.push {cls:=.type (if around.isSome=true then "dict" else "frame"),data:=.dict #[]}).objs.size=s.heap.objs.size+1:=HR _ _;have q:=h ((s.heap.push {cls:=.type (if around.isSome=true then "dict" else "frame"),data:=.dict #[]}).push {cls:=.type "cell",data:=.cell none}) ⟨_,#[],_,HJ _ (HK _ rfl),rfl,(by intro e he;simp at he),fun _=>rfl⟩ (fun _ _=>⟨_,by rw[<- z];exact HK _ rfl,rfl⟩) (fun b o e=>HJ _ (HJ _ e));dsimp only;rw[z];cases around<;>exact q
def aG (X:Cx)(scope:Scope)(t:Option Str)(C:Addr)(fp:List Addr)(N:List Str)(s:Shared)(H:Hp):Cx:=
 {X with N:=N,s₀:=s,H₀:=H,env:=compEnvC scope (vO t C (eE X.env.cells scope.names [])) C X.env,outer:=X.stack,stack:=X.stack,ex:=fp,fn:=fun y=>match t with|some t=>y==t|none=>false,xe:=fun _ _=>False}
structure Ib(X:Cx)(scope:Scope)(t:Option Str)(ts:List Str)(cap:List Str)(js:List Nat):Prop where
 kind:scope.kind=.function
 one:KG scope.names t
 names:∀y∈scope.names,y.2=.local->scope.names.lookup y.1=some .local
 free:∀y∈scope.names,y.2=.free->X.env.kindOf y.1=some .cell\/X.env.kindOf y.1=some .free
 NQ:cap.map some=js.map fun j=>X.N[j]?
 Pf:∀y∈cap,scope.names.lookup y=some .free
 Ph:∀x∈cap,t≠some x
 nd:(ts++cap).Nodup
abbrev aI(X:Cx)(scope:Scope)(C:Addr)(fp:List Addr)(N:List Str)(s:Shared)(H:Hp):Cx:=aG X scope none C fp N s H
abbrev bM(X:Cx)(scope:Scope)(ts:List Str)(cap:List Str)(js:List Nat):Prop:=Ib X scope none ts cap js
theorem cV{env:Env}{t:Option Str}{x:Str}{k:NameKind}:∀{names:List (Str×NameKind)},(∀y∈names,y.2=.cell->t=some y.1) ->
  (names.map fun(n,k)=>if (k==NameKind.free&&env.scope.kind==.function&&env.kindOf n==some .cell) then (n,NameKind.cell) else (n,k)).lookup x=some k->(k=.cell\/k=.free)->t=some x\/(x,NameKind.free)∈names
 |[],_,h,_=>by simp at h
 |(n,k')::r,hc,h,hk=>by
  rw[Ex,Fd] at h;have ih:=@cV env t x k r (fun y hy=>hc y (Eg _ hy));by_cases c:(k'==NameKind.free&&env.scope.kind==.function&&env.kindOf n==some .cell)=true
  ·rw[Hq c] at h;have hf:k'=.free:=by
    have:=(Ey _ _▸(Ey _ _▸c).1).1;simpa using this
   by_cases hx:(x==n)=true
   ·have:x=n:=by simpa using hx
    subst this;subst hf;exact .inr DS
   ·have hx':(x==n)=false:=by simpa using hx
    simp only[hx'] at h;exact(ih h hk).imp id (Eg _)
  ·rw[Ho c] at h;by_cases hx:(x==n)=true
   ·simp only[hx] at h;have:x=n:=by simpa using hx
    subst this;have hkk:k'=k:=HC h;subst hkk;rcases hk with hk|hk
    ·exact .inl (hc (x,k') DS hk)
    ·subst hk;exact .inr DS
   ·have hx':(x==n)=false:=by simpa using hx
    simp only[hx'] at h;exact(ih h hk).imp id (Eg _)
theorem KG.is{names:List (Str×NameKind)}:∀{t:Option Str},KG names t->∀y∈names,y.2=.cell->t=some y.1
 |none,h,y,hy,e=>absurd e (h y hy)
 |some t,h,y,hy,e=>by
  obtain⟨a,b,rfl,ha,hb⟩:=h;rcases DX.mp hy with z|z
  ·exact absurd e (ha y z)
  ·rcases Eb.mp z with z|z
   ·rw[z]
   ·exact absurd e (hb y z)
theorem cR{names:List (Str×NameKind)}{y:Str}{k:NameKind}(h:names.lookup y=some k):(y,k)∈names:=PySem.mem_of_lookup h
section
variable {X:Cx}{pins:List (Addr×Obj)}{σ:St}{H:Hp}{s:Shared}{scope:Scope}{t:Option Str}{ts cap:List Str}{js:List Nat}{fp:List Addr}{C D:Addr}
theorem Ib.cells(CS:Ib X scope t ts cap js)(ok:X.Ok):∀y∈scope.names,y.2=.free->∃c,X.env.cells.lookup y.1=some c:=fun y hy hf=>ok.has _ (CS.free y hy hf)
theorem Ib.Of(CS:bM X scope ts cap js):∀y∈scope.names,y.2≠.cell:=CS.one
theorem Ib.look(CS:bM X scope ts cap js)(ok:X.Ok){x:Str}{c:Addr}(e:(eE X.env.cells scope.names []).lookup x=some c):X.env.cells.lookup x=some c:=
 eR (CS.cells ok) (fun _ _ z=>by simp at z) e
theorem Ib.Jx(CS:Ib X scope t ts cap js)(ok:X.Ok){x:Str}{c:Addr}(e:(vO t C (eE X.env.cells scope.names [])).lookup x=some c):(t=some x/\c=C+1)\/X.env.cells.lookup x=some c:=by
 have old:(eE X.env.cells scope.names []).lookup x=some c->X.env.cells.lookup x=some c:=fun e=>eR (CS.cells ok) (fun _ _ z=>by simp at z) e;cases t with
 |none=>exact .inr (old e)
 |some t=>
  replace e:((t,C+1)::eE X.env.cells scope.names []).lookup x=some c:=e
  rw[Fd] at e;by_cases hx:(x==t)=true
  ·rw[hx] at e;injection e with e;exact .inl ⟨by rw[show x=t by simpa using hx],e.symm⟩
  ·rw[show(x==t)=false by simpa using hx] at e;exact .inr (old e)
theorem Ib.NC(CS:Ib X scope t ts cap js){x:Str}(hx:t≠some x)(hm:(x,NameKind.free)∈scope.names)(ok:X.Ok):∃c,(vO t C (eE X.env.cells scope.names [])).lookup x=some c/\X.env.cells.lookup x=some c:=by
 obtain⟨c,e⟩:=Fz.mp (lC (cells:=X.env.cells) (acc:=[]) (.inl hm));refine⟨c,?_,eR (CS.cells ok) (fun _ _ z=>by simp at z) e⟩;cases t with
 |none=>exact e
 |some t=>
  show((t,C+1)::eE X.env.cells scope.names []).lookup x=_;rw[Fd,beq_false_of_ne (fun z=>hx (by rw[z]))];exact e
theorem iL(I:Inv X pins σ H s)(CS:Ib X scope t ts cap js)(hf:∀b∈fp,ID X pins H b)(hfl:∀b∈fp,b<s.heap.objs.size)(hC:s.heap.objs.size<=C):(aG X scope t C fp (ts++cap) s H).Ok where
 mod:=I.ok.mod
 kind:=CS.kind
 glob:=I.ok.glob
 blt:=I.ok.blt
 above:=hC
 inj:=fun x y c h1 h2=>by
  have big:∀{x},X.env.cells.lookup x=some (C+1)->False:=fun {x} e=>by
   obtain⟨v,o,ho,_⟩:=I.cell x _ e;exact absurd (Hz ho) (Nat.not_lt.mpr (Fe hC))
  rcases CS.Jx I.ok h1 with ⟨a,b⟩|a
  ·rcases CS.Jx I.ok h2 with ⟨a',b'⟩|a'
   ·exact HC (a.symm.trans a')
   ·rw[b] at a';exact(big a').elim
  ·rcases CS.Jx I.ok h2 with ⟨a',b'⟩|a'
   ·rw[b'] at a;exact(big a).elim
   ·exact I.ok.inj x y c a a'
 has:=fun x hx=>by
  have:t=some x\/(x,NameKind.free)∈scope.names:=by
   rcases hx with hx|hx
   ·exact cV (env:=X.env) CS.one.is hx (.inl rfl)
   ·exact cV (env:=X.env) CS.one.is hx (.inr rfl)
  by_cases hxt:t=some x
  ·subst hxt;exact⟨C+1,by show((x,C+1)::eE X.env.cells scope.names []).lookup x=_;rw[Fd,beq_self_eq_true]⟩
  ·obtain⟨c,e,_⟩:=CS.NC hxt (this.resolve_left hxt) I.ok;exact⟨c,e⟩
 cab:=fun x c h e=>by
  cases t with
  |none=>cases (show false=true from h)
  |some t=>
   have hx:x=t:=by simpa using(show(x==t)=true from h)
   have e':((t,C+1)::eE X.env.cells scope.names []).lookup x=some c:=e;rw[hx,Fd,beq_self_eq_true] at e';injection e' with e';rw[<- e'];exact Fe hC
 hd:=I.ok.hd
 frames:=I.ok.frames
 stk:=.inl rfl
 exf:=fun b hb=>⟨DZ (DT (hfl b hb) hC),fun x c e=>by
  rcases CS.Jx I.ok e with ⟨_,q⟩|q
  ·rw[q];exact HI (DZ (DT (hfl b hb) (Fe hC)))
  ·exact(hf b hb).2.2.2.2.1 x c q⟩
 bs:=I.bs
 bsz:=Ee I.ok.bsz I.sz
 NP:=fun b o e hb=>by
  rcases (hf b hb).2.2.2.1 with z|z
  ·exact I.ok.NP b o e z
  ·have q:=(I.ok.bs b o e).1;rw[z] at q;cases q
 MI:=fun b hb z=>by
  rcases Eb.mp (I.Kb b z) with q|q
  ·exact(hf b hb).2.1 q
  ·exact(hf b hb).2.2.1 q
 Lk:=I.stack
 frf:=I.Kv
theorem fX{s₄:Shared}{m:Str->Option Value}{pins':List (Addr×Obj)}(I:Inv X pins σ H s)(CS:Ib X scope t ts cap js)(hf:∀b∈fp,ID X pins H b)(hfl:∀b∈fp,b<s.heap.objs.size)(hC:s.heap.objs.size<=C)
  (old:∀b o,s.heap.get? b=some o->s₄.heap.get? b=some o)(hn:s₄.heap.Ns C m)(hcl:∀x,t=some x->s₄.heap.IsCell (C+1) none)(hos:s₄.os=s.os)(hb:AllBare s₄.gens)
  (hp:∀p∈pins',s₄.heap.get? p.1=some p.2/\H p.1=none/\p.1≠C/\p.1∉frs X.stack/\∀v,p.2.data≠.cell v) :
  Inv (aG X scope t C fp (ts++cap) s H) pins' (List.replicate ts.length none++cS js σ) H s₄ where
 ok:=iL I CS hf hfl hC
 os:=hos
 bare:=hb
 base:=Un.kept old
 loc:=⟨m,hn,fun i x v h1 h2 h3=>by
  by_cases hi:i<ts.length
  ·rw[EZ (by simpa using hi)] at h2;rw[GI] at h2;split at h2<;>cases h2
  ·have h1':cap[i-ts.length]?=some x:=by
    have:=h1;show cap[i-ts.length]?=some x;rw[show(aG X scope t C fp (ts++cap) s H).N=ts++cap from rfl,Ff (by lia)] at this;exact this
   rw[Ff (by simpa using hi),EU] at h2;unfold cS at h2;rw[DY] at h2;cases hj:js[i-ts.length]? with
   |none=>rw[hj] at h2;cases h2
   |some j=>
    rw[hj] at h2;have h2':(σ[j]?).join=some v:=HC h2;have hσ:σ[j]?=some (some v):=by
     cases e:σ[j]? with
     |none=>rw[e] at h2';cases h2'
     |some o=>rw[e] at h2';rw[show o=some v from h2']
    have hN:X.N[j]?=some x:=by
     have:=congrArg (fun l=>l[i-ts.length]?) CS.NQ;simp only[DY,h1',hj] at this;exact(HC this).symm
    have hfr:=CS.Pf x (Ea h1');have hk:=CS.free _ (cR hfr) rfl;obtain⟨m0,hn0,hl⟩:=I.loc;obtain⟨u,r,l⟩:=hl j x v hN hσ (.inr hk);refine⟨u,r,?_⟩;rcases l with ⟨k,_⟩|⟨k,c,e,z⟩
    ·rcases hk with q|q<;>(rw[q] at k;cases k)
    ·have hxt:t≠some x:=CS.Ph x (Ea h1');obtain⟨c',e',e2⟩:=CS.NC (C:=C) hxt (cR hfr) I.ok;have e3:X.env.cells.lookup x=some c:=e;rw[e3] at e2;cases e2;obtain⟨o,ho,hd⟩:=z
     exact .inr ⟨eC hfr,c,e',⟨o,old _ _ ho,hd⟩⟩⟩
 cell:=fun x c e=>by
  rcases CS.Jx I.ok e with ⟨p,q⟩|q
  ·rw[q];exact⟨none,hcl x p⟩
  ·obtain⟨v,o,ho,hd⟩:=I.cell x c q;exact⟨v,o,old _ _ ho,hd⟩
 free:=I.hok.fresh hC
 Jc:=fun x c e=>by
  rcases CS.Jx I.ok e with ⟨_,q⟩|q
  ·rw[q];exact I.hok.fresh (Fe hC)
  ·exact I.Jc x c q
 pin:=fun p hp'=>by
  rcases DX.mp hp' with z|z
  ·obtain⟨e,n,ne,nf,d⟩:=I.pin p (Eh _ z);refine⟨old _ _ e,n,DZ (DT (Hz e) hC),fun q=>?_,d⟩;rcases Eb.mp (I.Kb _ q) with q|q
   ·exact ne q
   ·exact nf q
  ·exact hp p z
 hok:=I.hok.kept old
 len:=by
  show(List.replicate ts.length none++cS js σ).length=(ts++cap).length;have:=congrArg List.length CS.NQ;simp only[DQ] at this;rw[DR,DR,EU,cS,DQ,this]
theorem rJ{s₄:Shared}{m:Str->Option Value}{pins':List (Addr×Obj)}(I:Inv X pins σ H s)(CS:bM X scope ts cap js)(hf:∀b∈fp,ID X pins H b)(hfl:∀b∈fp,b<s.heap.objs.size)(hC:s.heap.objs.size<=C)
  (old:∀b o,s.heap.get? b=some o->s₄.heap.get? b=some o)(hn:s₄.heap.Ns C m)(hos:s₄.os=s.os)(hb:AllBare s₄.gens)
  (hp:∀p∈pins',s₄.heap.get? p.1=some p.2/\H p.1=none/\p.1≠C/\p.1∉frs X.stack/\∀v,p.2.data≠.cell v) :
  Inv (aI X scope C fp (ts++cap) s H) pins' (List.replicate ts.length none++cS js σ) H s₄:=fX I CS hf hfl hC old hn (fun _ z=>by cases z) hos hb hp
end
def Pe:TT:=fun _ H Q=>Q true H
def ib (J:It)(k:Nat)(js:List Nat)(g:TG)(tc:TT)(te:TE)(σ:St)(H1:Hp)(Q:VK):Prop:=
 ∃W:Nat->Nat->List V->Hp->Prop,(∃m,W 0 m [] H1)/\∀i m ys H,W i m ys H ->
  (J.stop i H/\ys.length<=sizeLine/\∀p,H p=none->Q (.ref p) (upd H p (.lst ys))) \/
  (J.go i H/\ys.length<sizeLine/\∀x H',J.yld i H x H'->g x (List.replicate k none++cS js σ) H' fun σ2 H2=>tc σ2 H2 fun b H3=>if b=true then te σ2 H3 fun y H4=>∃m',m'<m/\W (i+1) m' (ys++[y]) H4 else ∃m',m'<m/\W (i+1) m' ys H3)
def vf (wi:TI)(k:Nat)(js:List Nat)(g:TG)(tc:TT)(te:TE):TE:=fun σ H Q=>wi σ H fun J H1=>ib J k js g tc te σ H1 Q
def PTs (X:Cx)(ifs:List Expr)(t:TT):Prop:=
 ∀(pins:List (Addr×Obj))(s:Shared)(σ:St)(H:Hp)(Q:Bool->Hp->Prop),Inv X pins σ H s->t σ H Q ->
  (wq X) (forIn ifs true fun c r=>if r=true then do let ok <- isTrue c X.env (eval c X.env);pure (ForInStep.yield ok) else pure (ForInStep.yield r)) (TP X pins σ Q) X.xe s
theorem aX{X:Cx}:PTs X [] Pe:=fun _ _ _ H _ I h=>wpAny_tests_nil ⟨H,I,h⟩
theorem kn{X:Cx}{c:Expr}{t:TT}(h:PT X c t):PTs X [c] t:=fun pins s σ H Q I hw=>wpAny_tests_one (h pins s σ H Q I hw)
theorem mD{prog:Program}{w:World}{A:Around}{R:Result->Shared->Prop}{s:Shared}{elt target iter:Expr}{ifs:List Expr}{scope:Scope}{pos:Pos}{it acc:Value}{env:Env}(I:Nat->Shared->Prop)
  (turn:∀n s,I n s->wpAny (model prog w) A (pyNext it) (fun r s₁=>match r with
   |none=>R (.ok .next) s₁
   | some v=>wpAny (model prog w) A (letOwnedTupleGo target it v) (fun _ s₁'=>wpAny (model prog w) A (assign target env v) (fun _ s₂ =>
     wpAny (model prog w) A (forIn ifs true fun c r=>if r=true then do let ok <- isTrue c env (eval c env); pure (ForInStep.yield ok) else pure (ForInStep.yield r)) (fun ok s₃ =>
      if ok=true then wpAny (model prog w) A (eval elt env) (fun x s₄ =>
       wpAny (model prog w) A (call (.builtin "list.append") [acc,x]) (fun _ s₅=>∃m,m < n/\I m s₅) (fun _ _=>False) s₄) (fun _ _=>False) s₃
      else ∃m,m < n/\I m s₃) (fun _ _=>False) s₂) (fun _ _=>False) s₁') (fun _ _=>False) s₁) (fun _ _=>False) s)
  (n:Nat) (h:I n s):codeAny (model prog w) A (.compLoop (.ListComp elt [⟨target,iter,ifs,0⟩] scope pos) 0 it acc env) R s:=by
 refine codeAny_loop rfl I (fun n s hI=>?_) n h;show wpAny _ A ((compTurn (.ListComp elt [⟨target,iter,ifs,0⟩] scope pos) 0 it acc env).onRaise (fun x=>do noteFrame x env;theTreesLotGoes x)) _ _ s;refine wpAny_noted ?_;rw[compTurn_list];refine Hm (wpAny_standAt (Hm (Hv (turn n s hI) (fun r s₁ h₁=>?_) fun _ _ h'=>h'.elim)));cases r with
 |none=>exact Hn h₁
 |some v=>
  refine Hm (Hv h₁ (fun _ s₁' h₁'=>?_) fun _ _ h'=>h'.elim);refine Hm (Hv h₁' (fun _ s₂ h₂=>Hm (Hv h₂ (fun ok s₃ h₃=>?_) fun _ _ h'=>h'.elim)) fun _ _ h'=>h'.elim);cases ok with
  |false=>exact Hn ⟨rfl,h₃⟩
  |true=>
   exact Hm (Hm (Hv h₃ (fun x s₄ h₄=>Hm (Hv h₄ (fun _ s₅ h₅=>Hn (Hn ⟨rfl,h₅⟩)) fun _ _ h'=>h'.elim)) fun _ _ h'=>h'.elim))
abbrev dC(its:List Value)(n:Nat):Obj:={cls:=.type "list",data:=.seq its.toArray n}
section
variable {X:Cx}{pins:List (Addr×Obj)}{σ:St}{H:Hp}{s:Shared}{scope:Scope}{t:Option Str}{ts cap:List Str}{js:List Nat}{fp:List Addr}{C D:Addr}
theorem jE{s':Shared}{σ':St}{H':Hp}{ys:List V}{its:List Value}{n:Nat}(I:Inv X pins σ H s)(hf:∀b∈fp,ID X pins H b)
  (hC:s.heap.objs.size<=C)(hD:s.heap.objs.size<=D)(I':Inv (aG X scope t C fp (ts++cap) s H) [(D,dC its n)] σ' H' s')(hv:Vals ys its)(hz:ys.length<=sizeLine):Inv X pins σ (upd H' D (.lst ys)) s':=by
 obtain⟨hDg,hDn,hDC,hDs,hDd⟩:=I'.pin (D,dC its n) (DV _ DS);have nD:∀b o,s.heap.get? b=some o->b≠D:=fun b o e=>DZ (DT (Hz e) hD);have nDt:∀b o,H b=some o->b≠D:=fun b o e=>DZ (DT (I.hok.lt e) hD);have u:=I'.base;refine I.OC (ch:=fp) I'.os ⟨fun b o e n hb hx=>u.keep b o e n hb hx,fun b o e n hb hx=>u.slot b o e n hb hx,fun b o e n hx=>?_,fun b o e hx=>u.there b o e hx,fun b xs e=>?_,fun b o xs e=>?_,fun b ps e=>?_⟩ ?_ I'.bare fun b hb=>?_
 ·rw[au (nD b o e)];exact u.free b o e n hx
 ·rw[au (nDt b _ e)];exact u.LI b xs e
 ·rw[au (nDt b _ e)];exact u.Ln b o xs e
 ·rw[au (nDt b _ e)];exact u.Ly b ps e
 ·intro b o e;by_cases hb:b=D
  ·subst hb;rw[af] at e;cases e;exact⟨hz,its,n,hv,hDg⟩
  ·rw[au hb] at e;refine(I'.hok b o e).Lf (fun _ _ _ q=>q) (fun c q=>?_) fun c xs q=>?_
   ·by_cases hc:c=D
    ·subst hc;rw[hDn] at q;cases q
    ·rw[au hc];exact q
   ·by_cases hc:c=D
    ·subst hc;rw[hDn] at q;cases q
    ·rw[au hc];exact q
 ·obtain⟨f0,f1,f2,f3,f4,f5⟩:=hf b hb;exact⟨f3,f1,f4,f5⟩
theorem cq{pins':List (Addr×Obj)}{σ':St}{H':Hp}{s':Shared}(I:Inv X pins σ H s)(CS:Ib X scope t ts cap js)(hf:∀b∈fp,ID X pins H b)(I':Inv (aG X scope t C fp (ts++cap) s H) pins' σ' H' s') :
  Inv (aG X scope t C fp (ts++cap) s H) pins' (List.replicate ts.length none++cS js σ) H' s':=by
 refine⟨I'.ok,I'.os,I'.bare,I'.base,?_,I'.cell,I'.free,I'.Jc,I'.pin,I'.hok,?_⟩
 ·obtain⟨m,hn,_⟩:=I'.loc;refine⟨m,hn,fun i x v h1 h2 h3=>?_⟩;by_cases hi:i<ts.length
  ·rw[EZ (by simpa using hi)] at h2;rw[GI] at h2;split at h2<;>cases h2
  ·have h1':cap[i-ts.length]?=some x:=by
    have:=h1;rw[show(aG X scope t C fp (ts++cap) s H).N=ts++cap from rfl,Ff (by lia)] at this;exact this
   rw[Ff (by simpa using hi),EU] at h2;unfold cS at h2;rw[DY] at h2;cases hj:js[i-ts.length]? with
   |none=>rw[hj] at h2;cases h2
   |some j=>
    rw[hj] at h2;have h2':(σ[j]?).join=some v:=HC h2;have hσ:σ[j]?=some (some v):=by
     cases e:σ[j]? with
     |none=>rw[e] at h2';cases h2'
     |some o=>rw[e] at h2';rw[show o=some v from h2']
    have hN:X.N[j]?=some x:=by
     have:=congrArg (fun l=>l[i-ts.length]?) CS.NQ;simp only[DY,h1',hj] at this;exact(HC this).symm
    have hfr:=CS.Pf x (Ea h1');have hk:=CS.free _ (cR hfr) rfl;obtain⟨m0,hn0,hl⟩:=I.loc;obtain⟨u,r,l⟩:=hl j x v hN hσ (.inr hk);refine⟨u,r,?_⟩;rcases l with ⟨k,_⟩|⟨k,c,e,z⟩
    ·rcases hk with q|q<;>(rw[q] at k;cases k)
    ·have hxt:t≠some x:=CS.Ph x (Ea h1');obtain⟨c',e',e2⟩:=CS.NC (C:=C) hxt (cR hfr) I.ok;have e3:X.env.cells.lookup x=some c:=e;rw[e3] at e2;cases e2;obtain⟨o,ho,hd⟩:=z;have nfp:c∉fp:=fun q=>(hf c q).2.2.2.2.1 x c e rfl;obtain⟨sl,hg⟩:=I'.base.any ho (I.Jc x c e) nfp;exact .inr ⟨eC hfr,c,e',⟨_,hg,hd⟩⟩
 ·show(List.replicate ts.length none++cS js σ).length=(ts++cap).length;have:=congrArg List.length CS.NQ;simp only[DQ] at this;rw[DR,DR,EU,cS,DQ,this]
structure LH(X:Cx)(tg:Expr)(J:It)(fp:List Addr)(it:Addr)(tn:Nat->Heap->Prop):Prop where
 item:∀(i:Nat)(pins:List (Addr×Obj))(s:Shared)(σ:St)(H:Hp)(E:Value->Shared->Prop),Inv X pins σ H s->(∀b∈fp,ID X pins H b)->tn i s.heap->J.go i H ->
  (wq X) (pyNext (.ref it)) (fun r s1=>∃u,r=some u /\
   (wq X) (letOwnedTupleGo tg (.ref it) u) (fun _ s2=>∃x H',Inv X pins σ H' s2/\RelV x u/\J.yld i H x H'/\tn (i+1) s2.heap/\∀b∈fp,H' b=none) E s1) E s
 done:∀(i:Nat)(pins:List (Addr×Obj))(s:Shared)(σ:St)(H:Hp)(E:Value->Shared->Prop),Inv X pins σ H s->(∀b∈fp,ID X pins H b)->tn i s.heap->J.stop i H ->
  (wq X) (pyNext (.ref it)) (fun r s1=>r=none/\Inv X pins σ H s1) E s
structure TurnOk(P:Program)(w:World)(fp:List Addr)(it:Addr)(tn:Nat->Heap->Prop):Prop where
 obj:∀i h,tn i h->∀b∈fp,∃o,h.get? b=some o/\∀v,o.data≠.cell v
 keep:∀i h h',tn i h->(∀b∈fp,∀o,h.get? b=some o->h'.get? b=some o)->tn i h'
 self:∀(A:Around)(i:Nat)(s:Shared)(Q:Value->Shared->Prop)(E:Value->Shared->Prop),tn i s.heap->Q (.ref it) s->wpAny (model P w) A (pyIter (.ref it)) Q E s
theorem gq{tg elt iter:Expr}{ifs:List Expr}{pos:Pos}{g:TG}{tc:TT}{te:TE}{J:It}{it:Addr}{tn:Nat->Heap->Prop}{W:Nat->Nat->List V->Hp->Prop}{m0:Nat}{E:Value->Shared->Prop}
  {RR:Value->Addr->Result->Shared->Prop}{Fin:List V->Hp->Prop}
  (I:Inv X pins σ H s)(T:TurnOk X.prog X.w fp it tn)(TA:∀C,LH (aG X scope t C fp (ts++cap) s H) tg J fp it tn)(st:tn 0 s.heap)(hf:∀b∈fp,ID X pins H b)(CS:Ib X scope t ts cap js)
  (hg:∀C fp s H,PG (aG X scope t C fp (ts++cap) s H) tg g)(ht:∀C fp s H,PTs (aG X scope t C fp (ts++cap) s H) ifs tc)(he:∀C fp s H,PE (aG X scope t C fp (ts++cap) s H) elt te)
  (w0:W 0 m0 [] H)
  (turn:∀i m ys H,W i m ys H->(J.stop i H/\ys.length<=sizeLine/\Fin ys H)\/(J.go i H/\ys.length < sizeLine/\∀x H',J.yld i H x H'->g x (List.replicate ts.length none++cS js σ) H' fun σ2 H2=>tc σ2 H2 fun b H3 =>
   if b=true then te σ2 H3 fun y H4=>∃m',m' < m/\W (i+1) m' (ys++[y]) H4 else ∃m',m' < m/\W (i+1) m' ys H3))
  (hRR:∀D C s' H' ys m,Inv X pins σ (upd H' D (.lst ys)) s'->s'.heap.Ns C m->s.heap.objs.size<=C->s.heap.objs.size<=D->C≠D->H' C=none->H' D=none->Fin ys H'->RR (.ref D) C (.ok .next) s') :
  (wq X) (newList []) (fun acc s₃=>(wq X) (newFunctionEnv scope X.env.globals (eE X.env.cells scope.names []) [] X.env.qual none .none (some X.env)) (fun cenv s₄ =>
   codeAny (model X.prog X.w) X.A (.compStart (.ListComp elt [⟨tg,iter,ifs,0⟩] scope pos) 0 (.ref it) acc { cenv with scope:=relabel scope X.env }) (RR acc cenv.locals) s₄) E s₃) E s:=by
 refine wpAny_newObj_type (oZ CS.one CS.kind (fun h₁ hns₁ hcl₁ hold₁=>?_));dsimp only at hns₁ hcl₁ hold₁ ⊢;generalize hH2:s.heap.push {cls:=.type "list",dict:=none,data:=.seq ([]:List Value).toArray}=H2 at hns₁ hcl₁ hold₁ ⊢;have hCs:H2.objs.size=s.heap.objs.size+1:=by rw[<- hH2,HR]
 have hDC:s.heap.objs.size≠H2.objs.size:=by rw[hCs];exact DZ (Fm _)
 have hCle:s.heap.objs.size<=H2.objs.size:=by rw[hCs];exact EO _
 have below:∀b,b<s.heap.objs.size->b≠H2.objs.size:=fun b hb=>by rw[hCs];exact DZ (Fn hb)
 have old:∀b o,s.heap.get? b=some o->h₁.get? b=some o:=fun b o e=>hold₁ b o (hH2▸HJ _ e);have hacc:h₁.get? s.heap.objs.size=some (dC [] 0):=hold₁ _ _ (hH2▸HK _ rfl);have hfl:∀b∈fp,b<s.heap.objs.size:=fun b hb=>by obtain⟨o,e,_⟩:=T.obj _ _ st b hb;exact Hz e
 have st₁:tn 0 h₁:=T.keep _ _ _ st fun b _ o e=>old b o e;have hDstk:s.heap.objs.size∉frs X.stack:=fun z=>by
  obtain⟨_,o,ho,_⟩:=I.stack.mem z;exact absurd (Hz ho) (Er _)
 have I0:Inv (aG X scope t H2.objs.size fp (ts++cap) s H) [(s.heap.objs.size,dC [] 0)] (List.replicate ts.length none++cS js σ) H {s with heap:=h₁,toks:=s.toks}:=
  fX I CS hf hfl hCle old hns₁ hcl₁ rfl I.bare fun p hp=>by
   have e:p=(s.heap.objs.size,dC [] 0):=by simpa using hp
   subst e;exact⟨hacc,I.hok.fresh (DP _),hDC,hDstk,fun v z=>by cases z⟩
 have stat:∀{H':Hp}{ys:List Value}{n:Nat},(∀b∈fp,H' b=none)->∀b∈fp,ID (aG X scope t H2.objs.size fp (ts++cap) s H) [(s.heap.objs.size,dC ys n)] H' b:=fun {H' ys n} hn b hb=>by
  obtain⟨f0,f1,f2,f3,f4,f5⟩:=hf b hb;refine⟨hn b hb,below b (hfl b hb),?_,.inl hb,fun x c e=>?_,fun p hp=>?_⟩
  ·exact(iL I CS hf hfl hCle).MI b hb
  ·rcases CS.Jx I.ok e with ⟨_,q⟩|q
   ·rw[q];exact HI (DZ (DT (hfl b hb) (Fe hCle)))
   ·exact f4 x c q
  ·rcases DX.mp hp with z|z
   ·exact f5 p (Eh _ z)
   ·have e:p=(s.heap.objs.size,dC ys n):=by simpa using z
    subst e;intro q;have q':s.heap.objs.size=b:=q;exact absurd (hfl b hb) (by rw[<- q'];exact Er _)
 have loop:∀s₃:Shared,s₃={s with heap:=h₁,toks:=s.toks} ->
   codeAny (model X.prog X.w) X.A (.compLoop (.ListComp elt [⟨tg,iter,ifs,0⟩] scope pos) 0 (.ref it) (.ref s.heap.objs.size) (compEnvC scope (vO t H2.objs.size (eE X.env.cells scope.names [])) H2.objs.size X.env))
    (RR (.ref s.heap.objs.size) H2.objs.size) s₃:=by
  rintro s₃ rfl;refine mD (fun k s'=>∃i H' ys its n,Inv (aG X scope t H2.objs.size fp (ts++cap) s H) [(s.heap.objs.size,dC its n)] (List.replicate ts.length none++cS js σ) H' s'/\Vals ys its/\tn i s'.heap/\(∀b∈fp,H' b=none)/\W i k ys H') ?_ m0
   ⟨0,H,[],[],0,I0,.nil,st₁,fun b hb=>(hf b hb).1,w0⟩
  rintro k s3 ⟨i,H3,ys,its,n,I3,v3,st3,fr3,w3⟩;rcases turn i k ys H3 w3 with ⟨stop,hz,fin⟩|⟨go,hz,step⟩
  ·refine thn ((TA _).done i _ s3 _ H3 _ I3 (stat fr3) st3 stop) fun r s4 hq49=>?_;obtain⟨hr,I4⟩:=hq49;subst hr;obtain⟨m4,hn4,_⟩:=I4.loc;exact hRR _ _ s4 H3 ys m4 (jE I hf hCle (DP _) I4 v3 hz) hn4 hCle (DP _) (HI hDC) I4.free (I4.pin (s.heap.objs.size,dC its n) (DV _ DS)).2.1 fin
  ·refine thn ((TA _).item i _ s3 _ H3 _ I3 (stat fr3) st3 go) fun r s4 hq50=>?_;obtain⟨u,hr,h4⟩:=hq50;subst hr;refine thn h4 fun _ s5 hq51=>?_;obtain⟨x,H5,I5,r5,y5,st5,fr5⟩:=hq51;have I5':=I5.pinned (stat fr5) (T.obj _ _ st5);refine thn (hg _ _ _ _ _ s5 _ H5 x u _ I5' r5 (step x H5 y5)) fun _ s6 hq52=>?_;obtain⟨σ6,H6,I6,q6⟩:=hq52;refine thn (ht _ _ _ _ _ s6 σ6 H6 _ I6 q6) fun ok s7 hq53=>?_;obtain⟨H7,I7,q7⟩:=hq53;have pinned:∀{σ':St}{H':Hp}{s':Shared},Inv (aG X scope t H2.objs.size fp (ts++cap) s H) ([(s.heap.objs.size,dC its n)]++dz fp s5.heap) σ' H' s'->tn (i+1) s'.heap/\∀b∈fp,H' b=none:=fun {σ' H' s'} J=>by
    refine⟨T.keep _ _ _ st5 fun b hb o e=>(J.pin (b,o) (DV _ (DV _ (bq hb e)))).1,fun b hb=>?_⟩;obtain⟨o,e,d⟩:=T.obj _ _ st5 b hb;exact(J.pin (b,o) (DV _ (DV _ (bq hb e)))).2.1
   cases ok with
   |false=>
    rw[Ho Ek] at q7 ⊢;obtain⟨m',hm,w7⟩:=q7;obtain⟨st7,fr7⟩:=pinned I7;exact⟨m',hm,i+1,H7,ys,its,n,cq I CS hf I7.Im,v3,st7,fr7,w7⟩
   |true=>
    rw[Hq rfl] at q7 ⊢;refine thn (he _ _ _ _ _ s7 σ6 H7 _ I7 q7) fun yv s8 hq54=>?_;obtain⟨y,H8,I8,r8,m',hm,w8⟩:=hq54;obtain⟨st8,fr8⟩:=pinned I8;have I8':=cq I CS hf I8.Im;obtain⟨hDg,hDn,hDC',hDs,hDd⟩:=I8'.pin (s.heap.objs.size,dC its n) (DV _ DS);have hl:=v3.length;refine append_at (hsz:=by rw[Ed];lia) hDg fun h9 hs9 hD9=>?_;have tracked:∀b o,b≠s.heap.objs.size->s8.heap.get? b=some o->h9.get? b=some o:=fun b o hb e=>hs9.extBut b o hb e;have I9:Inv (aG X scope t H2.objs.size fp (ts++cap) s H) [(s.heap.objs.size,dC (its++[yv]) (n+1))] (List.replicate ts.length none++cS js σ) H8 {s8 with heap:=h9}:=by
     have J0:Inv (aG X scope t H2.objs.size fp (ts++cap) s H) [] (List.replicate ts.length none++cS js σ) H8 s8:=I8'.IU (fun p hp=>absurd hp (by simp))
     have J:Inv (aG X scope t H2.objs.size fp (ts++cap) s H) [] (List.replicate ts.length none++cS js σ) H8 { s8 with heap:=h9,toks:=s8.toks }:=J0.turned (it:=s.heap.objs.size) tracked hDn hDC' (.inr (Heap.get?_none_of_le (DP _))) (fun x c e q=>by
      rcases CS.Jx I.ok e with ⟨_,z⟩|z
      ·rw[z,hCs] at q;exact absurd q (HI (DZ (Fn (Fm _))))
      ·obtain⟨v,o,ho,_⟩:=I.cell x c z;rw[q] at ho;exact absurd (Hz ho) (Er _)) (fun p hp q=>by
       rw[Et] at hp;obtain⟨e,_⟩:=I.pin p (Eh _ hp);rw[q] at e
       exact absurd (Hz e) (Er _))
     refine J.IU fun p hp=>?_;have e:p=(s.heap.objs.size,dC (its++[yv]) (n+1)):=by simpa using hp
     subst e;refine⟨?_,hDn,hDC',hDs,fun v z=>by cases z⟩;show h9.get? s.heap.objs.size=_;rw[hD9];simp[dC,List.push_toArray]
    have st9:tn (i+1) h9:=T.keep _ _ _ st8 fun b hb o e=>tracked b o (DZ (hfl b hb)) e;exact⟨m',hm,i+1,H8,ys++[y],its++[yv],n+1,I9,v3.append (.cons r8 .nil),st9,fr8,w8⟩
 exact codeAny_compStart_list (loop _ rfl) (T.self _ _ _ _ _ st₁ (loop _ rfl))
theorem iC{tg elt iter:Expr}{ifs:List Expr}{pos:Pos}{g:TG}{tc:TT}{te:TE}{J:It}{it:Addr}{tn:Nat->Heap->Prop}{W:Nat->Nat->List V->Hp->Prop}{m0:Nat}{E:Value->Shared->Prop}
  {RR:Value->Addr->Result->Shared->Prop}{Fin:List V->Hp->Prop}
  (I:Inv X pins σ H s)(hc:X.calm=true)(T:Turn X.prog X.w X.K tg J fp it tn)(st:tn 0 s.heap)(hf:∀b∈fp,ID X pins H b)(CS:bM X scope ts cap js)
  (hg:∀C fp s H,PG (aI X scope C fp (ts++cap) s H) tg g)(ht:∀C fp s H,PTs (aI X scope C fp (ts++cap) s H) ifs tc)(he:∀C fp s H,PE (aI X scope C fp (ts++cap) s H) elt te)
  (w0:W 0 m0 [] H)
  (turn:∀i m ys H,W i m ys H->(J.stop i H/\ys.length<=sizeLine/\Fin ys H)\/(J.go i H/\ys.length < sizeLine/\∀x H',J.yld i H x H'->g x (List.replicate ts.length none++cS js σ) H' fun σ2 H2=>tc σ2 H2 fun b H3 =>
   if b=true then te σ2 H3 fun y H4=>∃m',m' < m/\W (i+1) m' (ys++[y]) H4 else ∃m',m' < m/\W (i+1) m' ys H3))
  (hRR:∀D C s' H' ys m,Inv X pins σ (upd H' D (.lst ys)) s'->s'.heap.Ns C m->s.heap.objs.size<=C->s.heap.objs.size<=D->C≠D->H' C=none->H' D=none->Fin ys H'->RR (.ref D) C (.ok .next) s') :
  (wq X) (newList []) (fun acc s₃=>(wq X) (newFunctionEnv scope X.env.globals (eE X.env.cells scope.names []) [] X.env.qual none .none (some X.env)) (fun cenv s₄ =>
   codeAny (model X.prog X.w) X.A (.compStart (.ListComp elt [⟨tg,iter,ifs,0⟩] scope pos) 0 (.ref it) acc { cenv with scope:=relabel scope X.env }) (RR acc cenv.locals) s₄) E s₃) E s :=
 gq I ⟨T.obj,T.keep,T.self⟩ (fun C=>⟨T.item (aI X scope C fp (ts++cap) s H) rfl rfl rfl hc,T.done (aI X scope C fp (ts++cap) s H) rfl rfl rfl hc⟩) st hf CS hg ht he w0 turn hRR
end
section
variable {X:Cx}{scope:Scope}{ts cap:List Str}{js:List Nat}{tg elt iter:Expr}{ifs:List Expr}{pos:Pos}{wi:TI}{g:TG}{tc:TT}{te:TE}
theorem cL{pins:List (Addr×Obj)}{σ:St}{H:Hp}{s:Shared}{C:Addr}{h':Heap}{n0:Nat}(I:Inv X pins σ H s)(hC0:X.s₀.heap.get? C=none)(hCL:X.env.locals≠C)(hcell:∀x c,X.env.cells.lookup x=some c->c≠C)(hpin:∀p∈X.pn++pins,p.1≠C)(hn:H C=none)(hs:Heap.SameBut C s.heap h'):Inv X pins σ H {s with heap:=h'}:=
 I.turned (t':=s.toks) (fun b o hb e=>hs.extBut b o hb e) hn (HI hCL) (.inr hC0) hcell hpin
theorem bB(hc:X.calm=true)(CS:bM X scope ts cap js)(hi:PI X tg iter wi)(hg:∀C fp s H,PG (aI X scope C fp (ts++cap) s H) tg g)
  (ht:∀C fp s H,PTs (aI X scope C fp (ts++cap) s H) ifs tc)(he:∀C fp s H,PE (aI X scope C fp (ts++cap) s H) elt te)
  (hs:∀x,foldedSetIterable iter X.env x=pure x:=by intro _;rfl):PE X (.ListComp elt [⟨tg,iter,ifs,0⟩] scope pos) (vf wi ts.length js g tc te):=by
 intro pins s σ H Q I h;rw[eval_ListComp];refine wpAny_comprehension_free (use:=none) rfl hs (bJ (CS.cells I.ok)) CS.kind CS.names (thn (hi pins s σ H _ I h) fun v s1 h1=>thn h1 fun itv s2 h2=>?_);obtain⟨it,fp,tn,J,H2,e,I2,T,st2,f2,W,⟨m0,w0⟩,turn⟩:=h2;subst e;refine iC (RR:=fun acc C=>compPost (model X.prog X.w) X.A X.xe none (EP X pins σ Q) acc C) I2 hc T st2 f2 CS hg ht he w0 turn ?_;intro D C s' H' ys m I' hn hC hD hCD hHC hHD fin;have szL:=I2.lt;have low:∀b o,s2.heap.get? b=some o->b≠C:=fun b o e=>DZ (DT (Hz e) hC);refine⟨m,hn,fun h' hs'=>⟨.ref D,_,cL (n0:=0) I' (Heap.get?_none_of_le (Ee I2.sz hC)) (DZ (DT szL hC)) (fun x c e=>?_) (fun p hp=>?_) (by rw[au hCD];exact hHC) hs',rfl,fin D hHD⟩⟩
 ·obtain⟨v,o,ho,_⟩:=I2.cell x c e;exact low c o ho
 ·exact low _ _ (I2.pin p hp).1
def vI (te:TE)(i:Nat):TS:=fun D σ H=>te σ H fun x H1=>D.nx (σ.set i (some x)) H1
theorem jT{i:Nat}{y:Str}{py spos:Pos}(hc:X.calm=true)(CS:bM X scope ts cap js)(hi:PI X tg iter wi)(hg:∀C fp s H,PG (aI X scope C fp (ts++cap) s H) tg g)
  (ht:∀C fp s H,PTs (aI X scope C fp (ts++cap) s H) ifs tc)(he:∀C fp s H,PE (aI X scope C fp (ts++cap) s H) elt te)
  (hN:X.N.Nodup)(hy:X.N[i]?=some y)(hx:Loc X.env.scope y)(hsw:swapsWith (.ListComp elt [⟨tg,iter,ifs,0⟩] scope pos) (some (.Name y py)) spos.line X.env=pure true)
  (hs:∀x,foldedSetIterable iter X.env x=pure x:=by intro _;rfl)(hf:X.fn y=true\/X.env.scope.names.lookup y=some .local:=by first|exact .inl rfl|exact .inr rfl|assumption) :
  PS X (.Assign [.Name y py] (.ListComp elt [⟨tg,iter,ifs,0⟩] scope pos) spos) (vI (vf wi ts.length js g tc te) i):=by
 intro pins s σ H D I h;rw[exec_Assign_Name_used _ _ _ _ hsw];refine Hm (wpAny_standAt (Hm ?_));show wpAny _ X.A (do let _ <- comprehension (.ListComp elt [⟨tg,iter,ifs,0⟩] scope pos) scope X.env _ (newList []) false (eval iter X.env) (some (assign (.Name y py) X.env))) _ _ s
 refine Hm (Hv (wpAny_comprehension_free (use:=some (assign (.Name y py) X.env)) (Q:=fun _ s'=>SP X pins D .next s') rfl hs (bJ (CS.cells I.ok)) CS.kind CS.names
  (thn (hi pins s σ H _ I h) fun v s1 h1=>thn h1 fun itv s2 h2=>?_)) (fun _ s' hq=>Hn (Hn hq)) fun _ _ e=>e)
 obtain⟨it,fp,tn,J,H2,e,I2,T,st2,f2,W,⟨m0,w0⟩,turn⟩:=h2;subst e;refine iC (RR:=fun acc C=>compPost (model X.prog X.w) X.A X.xe (some (assign (.Name y py) X.env)) (fun _ s'=>SP X pins D .next s') acc C) I2 hc T st2 f2 CS hg ht he w0 turn ?_;intro D' C s' H' ys m I' hn hC hD hCD hHC hHD fin;have szL:=I2.lt;have low:∀b o,s2.heap.get? b=some o->b≠C:=fun b o e=>DZ (DT (Hz e) hC);have hCL:X.env.locals≠C:=DZ (DT szL hC);have hcell:∀x c,X.env.cells.lookup x=some c->c≠C:=fun x c e=>by
  obtain⟨v,o,ho,_⟩:=I2.cell x c e;exact low c o ho
 show wpAny _ X.A (assign (.Name y py) X.env (.ref D')) _ _ _;refine wpAny_assign_Name (eV (v:=.ref D') I' hN hy hx rfl (fun s'' I'' hch=>?_) hf);obtain⟨a,hsb,ha⟩:=hch;have hCa:C≠a:=by
  rcases ha with z|z
  ·rw[z];exact HI hCL
  ·exact HI (hcell _ _ z)
 refine⟨m,hn.sameBut hsb hCa,fun h' hs'=>⟨_,_,cL (n0:=0) I'' (Heap.get?_none_of_le (Ee I2.sz hC)) hCL hcell (fun p hp=>low _ _ (I2.pin p hp).1) (by rw[au hCD];exact hHC) hs',fin D' hHD⟩⟩
end
section
variable {κ:Type} [DecidableEq κ]
def bg (kvs:List (κ×V))(k:κ):Option V:=(kvs.find? fun kv=>decide (kv.1=k)).map (·.2)
def cB (kvs:List (κ×V))(k:κ)(v:V):List (κ×V):=
 if (kvs.any fun kv=>decide (kv.1=k))=true then kvs.map (fun kv=>if kv.1=k then (kv.1,v) else kv) else kvs++[(k,v)]
def bY (kvs:List (κ×V))(k:κ):List (κ×V):=kvs.filter fun kv=>decide (kv.1≠k)
theorem fQ{k:κ}:bg ([]:List (κ×V)) k=none:=rfl
theorem aO{p:κ×V}{r:List (κ×V)}{k:κ}(e:p.1=k):bg (p::r) k=some p.2:=by simp[bg,FE,e]
theorem aK{p:κ×V}{r:List (κ×V)}{k:κ}(e:¬p.1=k):bg (p::r) k=bg r k:=by simp[bg,FE,e]
theorem cm(k:κ):∀kvs:List (κ×V),(kvs.any fun kv=>decide (kv.1=k))=(bg kvs k).isSome
 |[]=>rfl
 |p::r=>by
  rw[FC];by_cases e:p.1=k
  ·simp only[aO e,Ht e,Bool.true_or,Option.isSome_some]
  ·rw[aK e,Hu e,Bool.false_or];exact cm k r
theorem lO(k j:κ)(y:V):∀kvs:List (κ×V),bg (kvs.map fun kv=>if kv.1=k then (kv.1,y) else kv) j=(bg kvs j).map fun x=>if j=k then y else x
 |[]=>rfl
 |p::r=>by
  have ih:=lO k j y r;rw[Ex];by_cases h:p.1=k
  ·rw[Hq h];by_cases e:p.1=j
   ·rw[aO (p:=(p.1,y)) e,aO e,FF,Hq (e.symm.trans h)]
   ·rw[aK (p:=(p.1,y)) e,aK e,ih]
  ·rw[Ho h];by_cases e:p.1=j
   ·rw[aO (p:=p) e,aO e,FF,Ho (fun z=>h (e.trans z))]
   ·rw[aK (p:=p) e,aK e,ih]
theorem jG(k j:κ)(y:V):∀kvs:List (κ×V),bg kvs k=none->bg (kvs++[(k,y)]) j=if j=k then some y else bg kvs j
 |[],_=>by
  by_cases e:k=j
  ·rw[Hq e.symm];exact aO (p:=(k,y)) e
  ·rw[Ho (fun z=>e z.symm)];exact aK (p:=(k,y)) e
 |p::r,hn=>by
  rw[EV];have hk:¬p.1=k:=fun z=>by rw[aO z] at hn;cases hn
  rw[aK hk] at hn;have ih:=jG k j y r hn;by_cases e:p.1=j
  ·rw[aO e,aO e,Ho (fun z=>hk (e.trans z))]
  ·rw[aK e,aK e,ih]
theorem bj(kvs:List (κ×V))(k j:κ)(y:V):bg (cB kvs k y) j=if j=k then some y else bg kvs j:=by
 unfold cB;by_cases a:(kvs.any fun kv=>decide (kv.1=k))=true
 ·rw[Hq a,lO];rw[cm] at a;by_cases e:j=k
  ·obtain⟨x,hx⟩:=Fz.mp a;rw[Hq e,e,hx,FF,Hq rfl]
  ·rw[Ho e];cases bg kvs j with
   |none=>rfl
   |some x=>rw[FF,Ho e]
 ·rw[Ho a];refine jG k j y kvs ?_;rw[cm] at a;cases q:bg kvs k with
  |none=>rfl
  |some x=>rw[q] at a;exact(a rfl).elim
theorem bO(kvs:List (κ×V))(k:κ)(v:V):(cB kvs k v).length<=kvs.length+1:=by
 unfold cB;split
 ·rw[DQ];lia
 ·rw[DR,EA,Gh];lia
theorem fL{kvs:List (κ×V)}{k:κ}(v:V)(h:bg kvs k=none):cB kvs k v=kvs++[(k,v)]:=by
 unfold cB;rw[cm,h];exact Ho (by decide)
theorem Ku.IV{o:Option V}{u:Option Value}(r:Ku o u):o.isSome=u.isSome:=by
 cases o with
 |none=>cases u with
  |none=>rfl
  |some _=>exact(show False from r).elim
 |some _=>cases u with
  |none=>exact(show False from r).elim
  |some _=>rfl
theorem Ku.getD{o:Option V}{u:Option Value}{d:V}{d':Value}(r:Ku o u)(rd:RelV d d'):RelV (o.getD d) (u.getD d'):=by
 cases o with
 |none=>cases u with
  |none=>exact rd
  |some _=>exact(show False from r).elim
 |some _=>cases u with
  |none=>exact(show False from r).elim
  |some _=>exact r
theorem KV.val{kvs:List (κ×V)}{vs:List (κ×Value)}(r:KV kvs vs)(k:κ):Ku (bg kvs k) (valueAt vs k):=by
 unfold KV at r;induction r with
 |nil=>exact True.intro
 |@cons p q ps qs h t ih=>
  obtain⟨h1,h2⟩:=h;by_cases e:p.1=k
  ·have e':q.1=k:=h1.symm.trans e;have b:valueAt (q::qs) k=some q.2:=by simp[valueAt,FE,e']
   rw[aO e,b];exact h2
  ·have e':¬q.1=k:=fun z=>e (h1.trans z);have b:valueAt (q::qs) k=valueAt qs k:=by simp[valueAt,FE,e']
   rw[aK e,b];exact ih
theorem KV.any{kvs:List (κ×V)}{vs:List (κ×Value)}(r:KV kvs vs)(k:κ):(kvs.any fun kv=>decide (kv.1=k))=vs.any fun kv=>decide (kv.1=k):=by
 unfold KV at r;induction r with
 |nil=>rfl
 |cons h t ih=>rw[FC,FC,ih,h.1]
theorem KV.Pm{kvs:List (κ×V)}{vs:List (κ×Value)}(r:KV kvs vs)(k:κ){y:V}{u:Value}(ry:RelV y u) :
  KV (kvs.map fun kv=>if kv.1=k then (kv.1,y) else kv) (vs.map fun kv=>if kv.1=k then (kv.1,u) else kv):=by
 unfold KV at r ⊢;induction r with
 |nil=>exact .nil
 |@cons p q ps qs h t ih=>
  rw[Ex,Ex];refine .cons ?_ ih;obtain⟨h1,h2⟩:=h;by_cases e:p.1=k
  ·rw[Hq e,Hq (h1.symm.trans e)];exact⟨h1,ry⟩
  ·rw[Ho e,Ho (fun z=>e (h1.trans z))];exact⟨h1,h2⟩
theorem KV.put{kvs:List (κ×V)}{vs:List (κ×Value)}(r:KV kvs vs)(k:κ){y:V}{u:Value}(ry:RelV y u):KV (cB kvs k y) (stored vs k u):=by
 unfold cB stored;rw[r.any k];by_cases e:(vs.any fun kv=>decide (kv.1=k))=true
 ·rw[Hq e,Hq e];exact r.Pm k ry
 ·rw[Ho e,Ho e];exact Paired.snoc r ⟨rfl,ry⟩
theorem KV.drop{kvs:List (κ×V)}{vs:List (κ×Value)}(r:KV kvs vs)(k:κ):KV (bY kvs k) (without vs k):=by
 unfold KV at r ⊢;unfold bY without;induction r with
 |nil=>exact .nil
 |@cons p q ps qs h t ih=>
  obtain⟨h1,h2⟩:=h;rw[EK,EK];by_cases e:p.1=k
  ·have a:¬decide (p.1≠k)=true:=by simp[e]
   have b:¬decide (q.1≠k)=true:=by simp[h1.symm.trans e]
   rw[Ho a,Ho b];exact ih
  ·have e':¬q.1=k:=fun z=>e (h1.trans z);have a:decide (p.1≠k)=true:=by simp[e]
   have b:decide (q.1≠k)=true:=by simp[e']
   rw[Hq a,Hq b];exact .cons ⟨h1,h2⟩ ih
theorem KV.length{kvs:List (κ×V)}{vs:List (κ×Value)}(r:KV kvs vs):kvs.length=vs.length:=Paired.length r
theorem qK(kvs:List (κ×V))(k:κ):(bY kvs k).length<=kvs.length:=FO _ _
end
theorem gh{P:Program}{w:World}{k:Key}{u:Value}(r:RelV (kV k) u):(aM P w).is k u=true:=by
 cases k with
 |inl i=>obtain⟨t,e⟩:=(show ∃t,u=Value.int i t from r);subst e;exact jW P w i t
 |inr x=>obtain⟨t,e⟩:=(show ∃t,u=Value.str x t from r);subst e;exact eD P w x t
theorem jo{P:Program}{w:World}:∀{ks:List Key}{us:List Value},Vals (ks.map kV) us->ItemsAre (aM P w) ks us
 |[],_,r=>by rw[FB] at r;cases r;exact .nil
 |k::ks,_,r=>by
  rw[Ex] at r;cases r with
  |cons h t=>exact .cons (gh h) (jo t)
abbrev KT(H:Hp):List (List Key×V)->List (List Key×Addr×Value)->Prop:=Paired fun p q=>p.1=q.1/\H q.2.1=some (.tup (p.1.map kV))/\RelV p.2 q.2.2
theorem KT.val{H:Hp}{kvs:List (List Key×V)}{xs:List (List Key×Addr×Value)}(r:KT H kvs xs)(k:List Key):Ku (bg kvs k) ((atKey xs k).map (·.2)):=by
 induction r with
 |nil=>exact True.intro
 |@cons p q ps qs h t ih=>
  obtain⟨h1,_,h2⟩:=h;by_cases e:p.1=k
  ·have e':q.1=k:=h1.symm.trans e;have b:atKey (q::qs) k=some q.2:=by simp[atKey,FE,e']
   rw[aO e,b];exact h2
  ·have e':¬q.1=k:=fun z=>e (h1.trans z);have b:atKey (q::qs) k=atKey qs k:=by simp[atKey,FE,e']
   rw[aK e,b];exact ih
theorem KT.Pm{H:Hp}{kvs:List (List Key×V)}{xs:List (List Key×Addr×Value)}(r:KT H kvs xs)(k:List Key){y:V}{u:Value}(ry:RelV y u) :
  KT H (kvs.map fun kv=>if kv.1=k then (kv.1,y) else kv) (xs.map (putAt k u)):=by
 induction r with
 |nil=>exact .nil
 |@cons p q ps qs h t ih=>
  rw[Ex,Ex];refine .cons ?_ ih;obtain⟨h1,h2,h3⟩:=h;unfold putAt;by_cases e:p.1=k
  ·rw[Hq e,Hq (h1.symm.trans e)];exact⟨h1,h2,ry⟩
  ·rw[Ho e,Ho (fun z=>e (h1.trans z))];exact⟨h1,h2,h3⟩
theorem KT.put{H:Hp}{kvs:List (List Key×V)}{xs:List (List Key×Addr×Value)}(r:KT H kvs xs)(k:List Key){b:Addr}{y:V}{u:Value}(hb:H b=some (.tup (k.map kV)))(ry:RelV y u) :
  KT H (cB kvs k y) (storedH xs k b u):=by
 have e:(kvs.any fun kv=>decide (kv.1=k))=(atKey xs k).isSome:=by
  rw[cm,(r.val k).IV,GN]
 unfold cB storedH;rw[e];by_cases q:(atKey xs k).isSome=true
 ·rw[Hq q,Hq q];exact r.Pm k ry
 ·rw[Ho q,Ho q];exact Paired.snoc r ⟨rfl,hb,ry⟩
theorem KT.keeps{H H':Hp}{kvs:List (List Key×V)}{xs:List (List Key×Addr×Value)}(r:KT H kvs xs)(ht:∀b ys,H b=some (.tup ys)->H' b=some (.tup ys)):KT H' kvs xs:=
 Paired.IL r fun _ _ z=>⟨z.1,ht _ _ z.2.1,z.2.2⟩
section
variable {P:Program}{w:World}{H:Hp}{h:Heap}{a:Addr}
theorem xP{u:HO}(ok:HOk P w H h)(e:Rd H a u):Iq P w H h a u:=e.ok ok
theorem hX{kvs:List (Key×V)}(ok:HOk P w H h)(e:Rd H a (.dK kvs)):kvs.length<=sizeLine/\(a==sysModules)=false/\∃vs,KV kvs vs/\h.DictOf (aM P w) a vs:=
 show Iq P w H h a (.dK kvs) from xP ok e
theorem tU{kvs:List (Key×V)}(ok:HOk P w H h)(e:H a=some (.dK kvs)):kvs.length<=sizeLine/\(a==sysModules)=false/\∃vs,KV kvs vs/\h.DictOf (aM P w) a vs:=hX ok (.inl e)
theorem gp{ks:List Key}(ok:HOk P w H h)(e:H a=some (.tup (ks.map kV))):(tupleKind (aM P w)).is h ks a:=by
 obtain⟨_,its,r,o,h1,h2,n,h3⟩:=(show Iq P w H h a (.tup (ks.map kV)) from ok a _ e)
 exact⟨o,its.toArray,n,h1,h2,h3,by simpa using jo r⟩
theorem jH{kvs:List (List Key×V)}(ok:HOk P w H h)(e:Rd H a (.dT kvs)):kvs.length<=sizeLine/\(a==sysModules)=false /\
  ∃xs,KT H kvs xs/\h.DictOfH (tupleKind (aM P w)) a xs:=by
 obtain⟨z,y,xs,r,o,es,ep,h1,h2,h3,h4,h5⟩:=(show Iq P w H h a (.dT kvs) from xP ok e)
 refine⟨z,y,xs,r,o,es,ep,h1,h2,h3,h4,fun x hx=>?_,h5⟩;have all:∀{l:List (List Key×V)}{m:List (List Key×Addr×Value)},KT H l m->∀x∈m,(tupleKind (aM P w)).is h x.1 x.2.1:=by
  intro l m q;induction q with
  |nil=>intro x hx;exact nomatch hx
  |@cons p q ps qs hq t ih=>
   intro x hx;rcases Eb.mp hx with e|hx
   ·subst e;exact gp ok (by rw[<- hq.1];exact hq.2.1)
   ·exact ih x hx
 exact all r x hx
theorem zO{kvs:List (List Key×V)}(ok:HOk P w H h)(e:H a=some (.dT kvs)):kvs.length<=sizeLine/\(a==sysModules)=false /\
  ∃xs,KT H kvs xs/\h.DictOfH (tupleKind (aM P w)) a xs:=jH ok (.inl e)
end
def IE (H:Hp)(a:Addr)(y:V)(r:Option V):Prop:=
 (∃kvs k,Rd H a (.dK kvs)/\y=kV k/\r=bg kvs k)\/∃kvs k b,Rd H a (.dT kvs)/\y=.ref b/\H b=some (.tup (k.map kV))/\r=bg kvs k
def Lg (H:Hp)(a:Addr)(y v:V)(H':Hp):Prop:=
 (∃kvs k,H a=some (.dK kvs)/\y=kV k/\kvs.length<sizeLine/\H'=upd H a (.dK (cB kvs k v))) \/
 ∃kvs k b,H a=some (.dT kvs)/\y=.ref b/\H b=some (.tup (k.map kV))/\kvs.length<sizeLine/\H'=upd H a (.dT (cB kvs k v))
theorem IE.k{H:Hp}{a:Addr}{kvs:List (Key×V)}{k:Key}(e:H a=some (.dK kvs)):IE H a (kV k) (bg kvs k):=.inl ⟨kvs,k,.inl e,rfl,rfl⟩
theorem IE.t{H:Hp}{a b:Addr}{kvs:List (List Key×V)}{k:List Key}(e:H a=some (.dT kvs))(eb:H b=some (.tup (k.map kV))):IE H a (.ref b) (bg kvs k):=.inr ⟨kvs,k,b,.inl e,rfl,eb,rfl⟩
theorem Lg.k{H:Hp}{a:Addr}{kvs:List (Key×V)}{k:Key}{v:V}(e:H a=some (.dK kvs))(hl:kvs.length<sizeLine):Lg H a (kV k) v (upd H a (.dK (cB kvs k v))):=.inl ⟨kvs,k,e,rfl,hl,rfl⟩
theorem Lg.t{H:Hp}{a b:Addr}{kvs:List (List Key×V)}{k:List Key}{v:V}(e:H a=some (.dT kvs))(eb:H b=some (.tup (k.map kV)))(hl:kvs.length<sizeLine) :
  Lg H a (.ref b) v (upd H a (.dT (cB kvs k v))):=.inr ⟨kvs,k,b,e,rfl,eb,hl,rfl⟩
section
variable {X:Cx}{pins:List (Addr×Obj)}{σ:St}{H:Hp}{s:Shared}{a:Addr}{y v:V}{u r:Value}{o:Option V}{A:Around}{E:Value->Shared->Prop}
theorem Inv.big(I:Inv X pins σ H s):sysModules<s.heap.objs.size:=by
 have h:mainGlobals<s.heap.objs.size:=(I.mod.glob.keeps I.bk).lt;exact Nat.lt_trans (by decide) h
theorem oP{Q:Value->Shared->Prop}(hu:A.units+1<cLine)(I:Inv X pins σ H s)(g:IE H a y (some v))(ry:RelV y u)(h:∀w' s',Inv X pins σ H s'->RelV v w'->Q w' s') :
  wpAny (model X.prog X.w) A (getItem (.ref a) u) Q E s:=by
 rcases g with ⟨kvs,k,e,ey,l⟩|⟨kvs,k,b,e,ey,eb,l⟩
 ·subst ey;obtain⟨z,hd,vs,rel,dd⟩:=hX I.hok e;obtain⟨w',hw,rw'⟩:=Ku.some_of (v:=v) (o:=valueAt vs k) (by rw[l];exact rel.val k);exact wpAny_getItem_of (gh ry) dd.mapOf hw (h w' _ (I.tok _) rw')
 ·subst ey;cases (show u=Value.ref b from ry);obtain⟨z,hd,xs,rel,dd⟩:=jH I.hok e;obtain⟨w',hw,rw'⟩:=Ku.some_of (v:=v) (o:=(atKey xs k).map (·.2)) (by rw[l];exact rel.val k);obtain⟨p,hp,hp2⟩:=EB.mp hw;refine wpAny_getItem_heap (tupleKind_room_in1 hu) (gp I.hok eb) dd hp ?_;rw[hp2];exact h w' _ (I.tok _) rw'
theorem d_in{Q:Value->Shared->Prop}(hu:A.units+1<cLine)(I:Inv X pins σ H s)(g:IE H a y o)(ry:RelV y u)(h:∀s',Inv X pins σ H s'->Q (.bool o.isSome) s') :
  wpAny (model X.prog X.w) A (compareOp .In u (.ref a)) Q E s:=by
 rcases g with ⟨kvs,k,e,ey,l⟩|⟨kvs,k,b,e,ey,eb,l⟩
 ·subst ey;obtain⟨z,hd,vs,rel,dd⟩:=hX I.hok e;refine wpAny_in_of (gh ry) hd dd.mapOf ?_;rw[<- (rel.val k).IV,<- l];exact h _ (I.tok _)
 ·subst ey;cases (show u=Value.ref b from ry);obtain⟨z,hd,xs,rel,dd⟩:=jH I.hok e;refine wpAny_in_heap (tupleKind_room_in1 hu) (gp I.hok eb) hd dd ?_;have q:=(rel.val k).IV;rw[GN] at q;rw[<- q,<- l];exact h _ (I.tok _)
theorem uH{Q:Value->Shared->Prop}(hu:A.units+1<cLine)(I:Inv X pins σ H s)(g:IE H a y o)(ry:RelV y u)(h:∀s',Inv X pins σ H s'->Q (.bool (!o.isSome)) s') :
  wpAny (model X.prog X.w) A (compareOp .NotIn u (.ref a)) Q E s:=by
 rcases g with ⟨kvs,k,e,ey,l⟩|⟨kvs,k,b,e,ey,eb,l⟩
 ·subst ey;obtain⟨z,hd,vs,rel,dd⟩:=hX I.hok e;refine wpAny_notIn_of (gh ry) hd dd.mapOf ?_;rw[<- (rel.val k).IV,<- l];exact h _ (I.tok _)
 ·subst ey;cases (show u=Value.ref b from ry);obtain⟨z,hd,xs,rel,dd⟩:=jH I.hok e;refine wpAny_notIn_heap (tupleKind_room_in1 hu) (gp I.hok eb) hd dd ?_;have q:=(rel.val k).IV;rw[GN] at q;rw[<- q,<- l];exact h _ (I.tok _)
theorem iU{h':Heap}{t':Nat}{ob:HO}(I:Inv X pins σ H s)(mu:Mut (H a))(hs:Heap.SameBut a s.heap h')(he:∃q,h'.get? a=some q)(new:Iq X.prog X.w (upd H a ob) h' a ob) :
  Inv X pins σ (upd H a ob) {s with heap:=h',toks:=t'}:=
 I.write (x:=a) (e:=a) mu (.inl rfl) (fun b q hb z=>(hs.2 b hb).trans z) he new
theorem mV{P:Program}{w:World}{H':Hp}{h':Heap}{kvs:List (Key×V)}{vs:List (Key×Value)}(z:kvs.length<=sizeLine)(hd:(a==sysModules)=false)(rel:KV kvs vs)(dd:h'.DictOf (aM P w) a vs) :
  Iq P w H' h' a (.dK kvs):=⟨z,hd,vs,rel,dd⟩
theorem oW{H':Hp}{Q:Unit->Shared->Prop}(hu:A.units+1<cLine)(I:Inv X pins σ H s)(g:Lg H a y v H')(ry:RelV y u)(rv:RelV v r)(h:∀s',Inv X pins σ H' s'->Q () s') :
  wpAny (model X.prog X.w) A (setItem (.ref a) u r) Q E s:=by
 rcases g with ⟨kvs,k,e,ey,l,eH⟩|⟨kvs,k,b,e,ey,eb,l,eH⟩
 ·subst ey eH;obtain⟨z,hd,vs,rel,dd⟩:=tU I.hok e;have hz:vs.length<=sizeLine:=by rw[<- rel.length];exact z
  have hl:(cB kvs k v).length<=sizeLine:=by have:=bO kvs k v;lia
  refine wpAny_setItem_pairs (hsz:=hz) (gh ry) dd fun h' dd' hs=>h _ ?_;have he:∃q,h'.get? a=some q:=let ⟨q,_,_,hq,_⟩:=dd';⟨q,hq⟩;exact iU I (by rw[e];exact True.intro) hs he (mV hl hd (rel.put k rv) dd')
 ·subst ey eH;cases (show u=Value.ref b from ry);obtain⟨z,hd,xs,rel,dd⟩:=zO I.hok e;have hz:xs.length<=sizeLine:=by rw[<- Paired.length rel];exact z
  have hl:(cB kvs k v).length<=sizeLine:=by have:=bO kvs k v;lia
  refine wpAny_setItem_heap (hsz:=hz) (tupleKind_room_in1 hu) (gp I.hok eb) dd fun h' dd' hs=>h _ ?_;obtain⟨q,es,ep,hq,h2,h3,h4,_,h5⟩:=dd';refine iU I (by rw[e];exact True.intro) hs ⟨q,hq⟩ ⟨hl,hd,_,(rel.put k eb rv).keeps fun c ys ec=>?_,q,es,ep,hq,h2,h3,h4,h5⟩;rw[au (zb ec e (fun z=>nomatch z))];exact ec
end
section
variable {X:Cx}{pins:List (Addr×Obj)}{σ:St}{H:Hp}{s:Shared}{a:Addr}{kvs:List (Key×V)}{k:Key}{u:Value}{A:Around}{E:Value->Shared->Prop}
theorem yS{v:V}{more:List Value}{Q:Value->Shared->Prop}(I:Inv X pins σ H s)(e:H a=some (.dK kvs))(ry:RelV (kV k) u)(l:bg kvs k=some v)(hm:more=[]\/∃x,more=[x])
  (h:∀w' s',Inv X pins σ (upd H a (.dK (bY kvs k))) s'->RelV v w'->Q w' s'):wpAny (model X.prog X.w) A (call (.builtin "dict.pop") (.ref a::u::more)) Q E s:=by
 obtain⟨z,hd,vs,rel,dd⟩:=tU I.hok e;obtain⟨w',hw,rw'⟩:=Ku.some_of (v:=v) (o:=valueAt vs k) (by rw[<- l];exact rel.val k);have hp:(keyPart u).isSome=true:=by
  cases k with
  |inl i=>obtain⟨t,q⟩:=(show ∃t,u=Value.int i t from ry);subst q;rfl
  |inr x=>obtain⟨t,q⟩:=(show ∃t,u=Value.str x t from ry);subst q;rfl
 have ha:argsOk "dict.pop" ⟨.ref a::u::more,[]⟩:=by
  rcases hm with q|⟨x,q⟩
  ·subst q;exact PySem.F.args_dict_pop_2 _ _
  ·subst q;exact PySem.F.args_dict_pop_3 _ _ _
 refine call_meetsIn PySem.F.slot_dict_pop dd.typeIs PySem.F.entry_dict_pop ha (meets_dict_pop_there (aM X.prog X.w) a (gh ry) more hm hp)
  ⟨vs,w',dd,by rw[<- rel.length];exact z,hw,fun h' dd' hs=>h w' _ ?_ rw'⟩
 have he:∃q,h'.get? a=some q:=let ⟨q,_,_,hq,_⟩:=dd';⟨q,hq⟩;exact iU I (by rw[e];exact True.intro) hs he (mV (Ee (qK kvs k) z) hd (rel.drop k) dd')
end
def zI (i:Expr):Prop:=∀ov iv,subscripted i false ov iv=operate [ov,iv] (getItem ov iv)
theorem nG{prog:Program}{w:World}{A:Around}{E:Value->Shared->Prop}{s:Shared}{env:Env}{value slice:Expr}{pos:Pos}{T id:String}{Q:Value->Shared->Prop}
  (hl:typeLookup (.type T) "__getitem__"=pure (some (.builtin id)))(hs:zI slice)
  (h:wpAny (model prog w) A (eval value env) (fun o s₁=>wpAny (model prog w) A (eval slice env) (fun i s₂=>s₂.TypeIs o T/\wpAny (model prog w) A (getItem o i) Q E s₂) E s₁) E s) :
  wpAny (model prog w) A (eval (.Subscript value slice pos) env) Q E s:=by
 refine Subscript_ (Hv h (fun o s₁ h₁=>Hv h₁ (fun i s₂ h₂=>?_) fun _ _ x=>x) fun _ _ x=>x);obtain⟨hT,h₂⟩:=h₂;unfold subscriptTail;refine Hm ?_;rw[getitemInPython_of_ne hT.not_modules];refine Hm (wpAny_specialOf hT hl ?_);have fin:wpAny (model prog w) A (subscripted slice false o i) (fun r s₃=>wpAny (model prog w) A (letTemporaryGo value o r >>= fun _=>pure r) Q E s₃) E s₂:=by
  rw[hs o i];exact wpAny_operating (Hv h₂ (fun r s₃ h₃=>Hm (wpAny_letTemporaryGo (Hn h₃))) fun _ _ x=>x)
 first
  |exact Hn (Hm fin)
  |exact Hm (Hn (Hm fin))
  |exact Hm fin
theorem kC{X:Cx}{pins:List (Addr×Obj)}{σ:St}{H:Hp}{s:Shared}{a:Addr}{y:V}{o:Option V}(I:Inv X pins σ H s)(g:IE H a y o):s.TypeIs (.ref a) "dict":=by
 rcases g with ⟨kvs,k,e,_,_⟩|⟨kvs,k,b,e,_,_,_⟩
 ·obtain⟨_,_,vs,_,dd⟩:=hX I.hok e;exact dd.typeIs
 ·obtain⟨_,_,xs,_,dd⟩:=jH I.hok e;exact dd.typeIs
def zq (td ty:TE):TE:=fun σ H Q=>td σ H fun x H1=>ty σ H1 fun y H2=>∃a v,x=.ref a/\IE H2 a y (some v)/\Q v H2
def tDIn (ty td:TE):TE:=fun σ H Q=>ty σ H fun y H1=>td σ H1 fun x H2=>∃a o,x=.ref a/\IE H2 a y o/\Q (.bl o.isSome) H2
def tV (ty td:TE):TE:=fun σ H Q=>ty σ H fun y H1=>td σ H1 fun x H2=>∃a o,x=.ref a/\IE H2 a y o/\Q (.bl (!o.isSome)) H2
def zc (td ty tv:TE):TS:=fun D σ H=>tv σ H fun v H1=>td σ H1 fun x H2=>ty σ H2 fun y H3=>∃a H4,x=.ref a/\Lg H3 a y v H4/\D.nx σ H4
section
variable {X:Cx}{o i e value:Expr}{pos pos' tpos:Pos}{td ty tv:TE}
theorem bC(hu:X.A.units+1<cLine)(ho:PE X o td)(hi:PE X i ty)(hs:zI i):PE X (.Subscript o i pos) (zq td ty):=by
 intro pins s σ H Q I h;refine nG PySem.F.slot_dict_getitem.lookup hs (thn (ho pins s σ H _ I h) fun u s1 hq55=>?_);obtain⟨x,H1,I1,rx,q1⟩:=hq55;refine thn (hi pins s1 σ H1 _ I1 q1) fun iv s2 ⟨y,H2,I2,ry,a,v,ex,g,q2⟩=>?_;subst ex;obtain rfl:u=Value.ref a:=rx;exact⟨kC I2 g,oP hu I2 g ry fun w' s3 I3 rw'=>⟨v,H2,I3,rw',q2⟩⟩
theorem ny(hu:X.A.units+1<cLine)(hi:PE X i ty)(ho:PE X o td):PC X .In i o (tDIn ty td):=by
 intro pins s σ H Q I h;refine thn (hi pins s σ H _ I h) fun iv s1 hq56=>?_;obtain⟨y,H1,I1,ry,q1⟩:=hq56;refine thn (ho pins s1 σ H1 _ I1 q1) fun u s2 ⟨x,H2,I2,rx,a,ov,ex,g,q2⟩=>?_;subst ex;obtain rfl:u=Value.ref a:=rx;exact d_in hu I2 g ry fun s3 I3=>⟨.bl ov.isSome,H2,I3,rfl,q2⟩
theorem oH(hu:X.A.units+1<cLine)(hi:PE X i ty)(ho:PE X o td):PC X .NotIn i o (tV ty td):=by
 intro pins s σ H Q I h;refine thn (hi pins s σ H _ I h) fun iv s1 hq57=>?_;obtain⟨y,H1,I1,ry,q1⟩:=hq57;refine thn (ho pins s1 σ H1 _ I1 q1) fun u s2 ⟨x,H2,I2,rx,a,ov,ex,g,q2⟩=>?_;subst ex;obtain rfl:u=Value.ref a:=rx;exact uH hu I2 g ry fun s3 I3=>⟨.bl (!ov.isSome),H2,I3,rfl,q2⟩
theorem fA(hu:X.A.units+1<cLine)(ho:PE X o td)(hi:PE X i ty)(hv:PE X value tv)(hs:swapsWith value (some (.Subscript o i pos')) pos.line X.env=pure false) :
  PS X (.Assign [.Subscript o i pos'] value pos) (zc td ty tv):=by
 intro pins s σ H D I h;refine wpAny_Assign_Subscript (thn (hv pins s σ H _ I h) fun r s1 hq58=>?_) hs;obtain⟨v,H1,I1,rv,q1⟩:=hq58;refine thn (ho pins s1 σ H1 _ I1 q1) fun u s2 ⟨x,H2,I2,rx,q2⟩=>thn (hi pins s2 σ H2 _ I2 q2) fun iv s3 ⟨y,H3,I3,ry,a,H4,ex,g,q3⟩=>?_;subst ex;obtain rfl:u=Value.ref a:=rx;exact oW hu I3 g ry rv fun s4 I4=>⟨σ,H4,I4,q3⟩
end
theorem kK{P:Program}{w:World}{H:Hp}(h:Heap)(hb:sysModules<h.objs.size):Iq P w H (h.push {cls:=.type "dict",data:=.dict #[]}) h.objs.size (.dK []):=
 ⟨Ec _,beq_eq_false_iff_ne.mpr (HI (DZ hb)),[],.nil,Heap.DictOf.new h⟩
theorem qI{P:Program}{w:World}{H:Hp}(h:Heap)(hb:sysModules<h.objs.size):Iq P w H (h.push {cls:=.type "dict",data:=.dict #[]}) h.objs.size (.dT []):=
 ⟨Ec _,beq_eq_false_iff_ne.mpr (HI (DZ hb)),[],.nil,_,#[],0,HK _ rfl,⟨rfl,rfl,rfl⟩,rfl,rfl,Gi⟩
def OJ:TE:=fun _ H Q=>∀p,H p=none->Q (.ref p) (upd H p (.dK []))
def OY:TE:=fun _ H Q=>∀p,H p=none->Q (.ref p) (upd H p (.dT []))
section
variable {X:Cx}{pos:Pos}
theorem KY:PE X (.Dict [] [] pos) OJ:=fun pins s σ H Q I h=>
 wpAny_Dict_empty ⟨.ref s.heap.objs.size,_,I.laid (a:=s.heap.objs.size) (o:=.dK []) (t':=s.toks) (fun _ _ q=>HJ _ q) (DP _) (kK s.heap I.big),rfl,h _ (I.hok.fresh (DP _))⟩
theorem JO:PE X (.Dict [] [] pos) OY:=fun pins s σ H Q I h=>
 wpAny_Dict_empty ⟨.ref s.heap.objs.size,_,I.laid (a:=s.heap.objs.size) (o:=.dT []) (t':=s.toks) (fun _ _ q=>HJ _ q) (DP _) (qI s.heap I.big),rfl,h _ (I.hok.fresh (DP _))⟩
end
def LM:List (TE×TE)->St->Hp->(List (V×V)->Hp->Prop)->Prop
 |[],_,H,Q=>Q [] H
 |(tk,tv)::r,σ,H,Q=>tk σ H fun x H1=>tv σ H1 fun y H2=>LM r σ H2 fun ps H3=>Q ((x,y)::ps) H3
abbrev VV:List (V×V)->List (Value×Value)->Prop:=Paired fun p q=>RelV p.1 q.1/\RelV p.2 q.2
def PPs (X:Cx)(pos:Pos)(keys:List (Option Expr))(values:List Expr)(trs:List (TE×TE)):Prop:=
 ∀(pins:List (Addr×Obj))(s:Shared)(σ:St)(H:Hp)(Q:List (V×V)->Hp->Prop),Inv X pins σ H s->LM trs σ H Q ->
  (wq X) (evalPairs (pairTrees keys values X.env pos)) (fun vs s'=>∃ps H',Inv X pins σ H' s'/\VV ps vs/\Q ps H') X.xe s
theorem fh{X:Cx}{pos:Pos}:PPs X pos [] [] []:=fun pins s σ H Q I h=>pairTrees_nil_walk ⟨[],H,I,.nil,h⟩
theorem bF{X:Cx}{pos:Pos}{k v:Expr}{ks:List (Option Expr)}{vs:List Expr}{tk tv:TE}{trs:List (TE×TE)}(hk:PE X k tk)(hv:PE X v tv)(hr:PPs X pos ks vs trs) :
  PPs X pos (some k::ks) (v::vs) ((tk,tv)::trs):=fun pins s σ H Q I h=>
 pairTrees_cons_walk (thn (hk pins s σ H _ I h) fun u s1 ⟨x,H1,I1,rx,q1⟩=>thn (hv pins s1 σ H1 _ I1 q1) fun w2 s2 ⟨y,H2,I2,ry,q2⟩ =>
  thn (hr pins s2 σ H2 _ I2 q2) fun ws s3 ⟨ps,H3,I3,rel,q3⟩=>⟨(x,y)::ps,H3,I3,.cons ⟨rx,ry⟩ rel,q3⟩)
def bL (kvs more:List (Key×V)):List (Key×V):=more.foldl (fun acc kv=>cB acc kv.1 kv.2) kvs
theorem KV.merge:∀{more:List (Key×V)}{rs:List (Key×Value)}{kvs:List (Key×V)}{vs:List (Key×Value)},KV more rs->KV kvs vs->KV (bL kvs more) (merged vs rs):=by
 intro more rs kvs vs r;unfold KV at r;induction r generalizing kvs vs with
 |nil=>intro q;exact q
 |@cons p q ps qs h t ih=>
  intro r0;have e:KV (cB kvs p.1 p.2) (stored vs q.1 q.2):=by
   have:=r0.put p.1 h.2;rw[<- h.1];exact this
  exact ih e
theorem IF:∀(more kvs:List (Key×V)),(bL kvs more).length<=kvs.length+more.length
 |[],kvs=>by show kvs.length<=kvs.length+0;lia
 |p::r,kvs=>by
  have h1:=IF r (cB kvs p.1 p.2);have h2:=bO kvs p.1 p.2;show(bL (cB kvs p.1 p.2) r).length<=_;rw[EA];lia
theorem iF{P:Program}{w:World}:∀{kvs:List (Key×V)}{ws:List (Value×Value)},VV (kvs.map fun kv=>(kV kv.1,kv.2)) ws->∃rs,Carries (aM P w) ws rs/\KV kvs rs
 |[],_,r=>by rw[FB] at r;cases r;exact⟨[],True.intro,.nil⟩
 |p::kvs,_,r=>by
  rw[Ex] at r;cases r with
  |@cons a b as bs h t=>
   obtain⟨rs,c,q⟩:=iF (P:=P) (w:=w) t;obtain⟨b1,b2⟩:=b;exact⟨(p.1,b2)::rs,⟨gh h.1,rfl,c⟩,.cons ⟨rfl,h.2⟩ q⟩
def zy (trs:List (TE×TE)):TE:=fun σ H Q=>∀p,H p=none->LM trs σ (upd H p (.dK [])) fun ps H2=>H2 p=some (.dK [])/\∃kvs:List (Key×V),ps=kvs.map (fun kv=>(kV kv.1,kv.2))/\kvs.length<=15/\Q (.ref p) (upd H2 p (.dK (bL [] kvs)))
theorem fq{X:Cx}{pos:Pos}{keys:List (Option Expr)}{values:List Expr}{trs:List (TE×TE)}(h:PPs X pos keys values trs)(hall:keys.all (·.isSome)=true)(hl:keys.length=values.length)(h0:keys≠[])
  (h15:keys.length<=15):PE X (.Dict keys values pos) (zy trs):=by
 intro pins s σ H Q I q;have hn:=I.hok.fresh (DP s.heap.objs.size);have I1:=I.laid (a:=s.heap.objs.size) (o:=.dK []) (h':=s.heap.push {cls:=.type "dict",data:=.dict #[]}) (t':=s.toks) (fun _ _ q=>HJ _ q) (DP _) (kK s.heap I.big);refine wpAny_Dict_walk (knd:=aM X.prog X.w) hall hl h0 h15 (thn (h pins _ σ _ _ I1 (q _ hn)) fun ws s2 hq59=>?_);obtain⟨ps,H2,I2,rel,e,kvs,ep,lk,q2⟩:=hq59;subst ep;obtain⟨rs,c,rk⟩:=iF (P:=X.prog) (w:=X.w) rel;obtain⟨z,hd,vs0,r0,dd⟩:=tU I2.hok e;cases r0;refine⟨rs,c,dd,fun h' dd' hs=>⟨.ref s.heap.objs.size,_,?_,rfl,q2⟩⟩;have hz:(bL [] kvs).length<=sizeLine:=by
  have h1:=IF kvs [];rw[Gh] at h1;rw[sizeLine_eq];lia
 have he:∃q,h'.get? s.heap.objs.size=some q:=let ⟨q,_,_,hq,_⟩:=dd';⟨q,hq⟩;exact iU I2 (by rw[e];exact True.intro) hs he (mV hz hd (rk.merge .nil) dd')
structure M1(X:Cx)(o:Expr)(m:Str)(apos:Pos)(e:Expr)(cpos:Pos):Prop where
 base:attributeBase o m X.env (eval o X.env)=eval o X.env
 few:((backTo cpos (starEach [e] X.env)).all (fun x=>!x.1) && (backToKw cpos (keywordEach [] X.env)).all (fun x=>x.1.isSome)
  && decide (([e]:List Expr).length+([]:List Keyword).length+(if ([]:List Keyword).isEmpty then 0 else 1) < 30))=true
 line:(apos.endLine==cpos.line)=true
 trees:backTo cpos (starEach [e] X.env)=[(false,eval e X.env)]
structure M2(X:Cx)(o:Expr)(m:Str)(apos:Pos)(e f:Expr)(cpos:Pos):Prop where
 base:attributeBase o m X.env (eval o X.env)=eval o X.env
 few:((backTo cpos (starEach [e,f] X.env)).all (fun x=>!x.1) && (backToKw cpos (keywordEach [] X.env)).all (fun x=>x.1.isSome)
  && decide (([e,f]:List Expr).length+([]:List Keyword).length+(if ([]:List Keyword).isEmpty then 0 else 1) < 30))=true
 line:(apos.endLine==cpos.line)=true
 trees:backTo cpos (starEach [e,f] X.env)=[(false,eval e X.env),(false,eval f X.env)]
def IsD (H:Hp)(a:Addr):Prop:=(∃kvs,Rd H a (.dK kvs))\/∃kvs,Rd H a (.dT kvs)
theorem kI{X:Cx}{pins:List (Addr×Obj)}{σ:St}{H:Hp}{s:Shared}{a:Addr}(I:Inv X pins σ H s)(d:IsD H a) :
  s.TypeIs (.ref a) "dict"/\(∀b,Value.ref a=.ref b->∃ob,s.heap.get? b=some ob/\ob.dict=none)/\(a==sysModules)=false:=by
 rcases d with ⟨kvs,e⟩|⟨kvs,e⟩
 ·obtain⟨_,hd,vs,_,dd⟩:=hX I.hok e;refine⟨dd.typeIs,fun b q=>?_,hd⟩;cases q;obtain⟨ob,_,_,h1,h2,_⟩:=dd;exact⟨ob,h1,h2.2.1⟩
 ·obtain⟨_,hd,xs,_,dd⟩:=jH I.hok e;refine⟨dd.typeIs,fun b q=>?_,hd⟩;cases q;obtain⟨ob,_,_,h1,h2,_⟩:=dd;exact⟨ob,h1,h2.2.1⟩
section
variable {X:Cx}{pins:List (Addr×Obj)}{σ:St}{H:Hp}{s:Shared}{a:Addr}{y d:V}{u r:Value}{o:Option V}{A:Around}{E:Value->Shared->Prop}
theorem sR{Q:Value->Shared->Prop}(hu:A.units+1<cLine)(I:Inv X pins σ H s)(g:IE H a y o)(ry:RelV y u)(h:∀w' s',Inv X pins σ H s'->RelV (o.getD .non) w'->Q w' s') :
  wpAny (model X.prog X.w) A (call (.builtin "dict.get") [.ref a,u]) Q E s:=by
 rcases g with ⟨kvs,k,e,ey,l⟩|⟨kvs,k,b,e,ey,eb,l⟩
 ·subst ey;obtain⟨z,hd,vs,rel,dd⟩:=hX I.hok e;refine call_meetsIn PySem.F.slot_dict_get dd.typeIs PySem.F.entry_dict_get (PySem.F.args_dict_get_2 _ _) (meets_dict_get (aM X.prog X.w) a (gh ry) hd) ⟨_,dd.mapOf,h _ _ (I.tok _) ?_⟩;rw[l];exact(rel.val k).getD rfl
 ·subst ey;cases (show u=Value.ref b from ry);obtain⟨z,hd,xs,rel,dd⟩:=jH I.hok e;refine call_meetsIn PySem.F.slot_dict_get dd.typeIs PySem.F.entry_dict_get (PySem.F.args_dict_get_2 _ _) (meetsH_dict_get (tupleKind (aM X.prog X.w)) a b hd) ⟨tupleKind_room_in1 hu,k,xs,gp I.hok eb,dd,h _ _ (I.tok _) ?_⟩;rw[l];exact(rel.val k).getD rfl
theorem xl{Q:Value->Shared->Prop}(hu:A.units+1<cLine)(I:Inv X pins σ H s)(g:IE H a y o)(ry:RelV y u)(rd:RelV d r)(h:∀w' s',Inv X pins σ H s'->RelV (o.getD d) w'->Q w' s') :
  wpAny (model X.prog X.w) A (call (.builtin "dict.get") [.ref a,u,r]) Q E s:=by
 rcases g with ⟨kvs,k,e,ey,l⟩|⟨kvs,k,b,e,ey,eb,l⟩
 ·subst ey;obtain⟨z,hd,vs,rel,dd⟩:=hX I.hok e;refine call_meetsIn PySem.F.slot_dict_get dd.typeIs PySem.F.entry_dict_get (PySem.F.args_dict_get_3 _ _ _) (meets_dict_get_default (aM X.prog X.w) a (gh ry) hd r) ⟨_,dd.mapOf,h _ _ (I.tok _) ?_⟩;rw[l];exact(rel.val k).getD rd
 ·subst ey;cases (show u=Value.ref b from ry);obtain⟨z,hd,xs,rel,dd⟩:=jH I.hok e;refine call_meetsIn PySem.F.slot_dict_get dd.typeIs PySem.F.entry_dict_get (PySem.F.args_dict_get_3 _ _ _) (meetsH_dict_get_default (tupleKind (aM X.prog X.w)) a b hd r) ⟨tupleKind_room_in1 hu,k,xs,gp I.hok eb,dd,h _ _ (I.tok _) ?_⟩;rw[l];exact(rel.val k).getD rd
end
def yD (td ty:TE):TE:=fun σ H Q=>td σ H fun x H1=>∃a,x=.ref a/\IsD H1 a/\ty σ H1 fun y H2=>∃o,IE H2 a y o/\Q (o.getD .non) H2
def yh (td ty tx:TE):TE:=fun σ H Q=>td σ H fun x H1=>∃a,x=.ref a/\IsD H1 a/\ty σ H1 fun y H2=>tx σ H2 fun z H3=>∃o,IE H3 a y o/\Q (o.getD z) H3
def wM (td ty:TE):TE:=fun σ H Q=>td σ H fun x H1=>∃a,x=.ref a/\IsD H1 a/\ty σ H1 fun y H2=>∃kvs k v,H2 a=some (.dK kvs)/\y=kV k/\bg kvs k=some v/\Q v (upd H2 a (.dK (bY kvs k)))
section
variable {X:Cx}{o e f:Expr}{apos cpos:Pos}{td ty tx:TE}
theorem iJ(hu:X.A.units+1<cLine)(ho:PE X o td)(he:PE X e ty)(m:M1 X o "get" apos e cpos):PE X (.Call (.Attribute o "get" apos) [e] [] cpos) (yD td ty):=by
 intro pins s σ H Q I h;refine wpAny_Call_method m.base m.few m.line PySem.F.plainAttrs_dict PySem.F.slot_dict_get PySem.F.type_dict_get (thn (ho pins s σ H _ I h) fun u s1 hq60=>?_);obtain⟨x,H1,I1,rx,a,ex,d,q1⟩:=hq60;subst ex;obtain rfl:u=Value.ref a:=rx;obtain⟨t1,t2,_⟩:=kI I1 d;refine⟨t1,t2,?_⟩;rw[m.trees];refine Calls.callWith_builtin rfl (Calls.evalArgs_plain (Calls.spliced_cons (thn (he pins s1 σ H1 _ I1 q1) fun iv s2 hq61=>?_)));obtain⟨y,H2,I2,ry,ov,g,q2⟩:=hq61;refine Calls.spliced_nil ?_;exact sR hu I2 g ry fun w' s3 I3 rw'=>⟨_,H2,I3,rw',q2⟩
theorem qF(hu:X.A.units+1<cLine)(ho:PE X o td)(he:PE X e ty)(hf:PE X f tx)(m:M2 X o "get" apos e f cpos):PE X (.Call (.Attribute o "get" apos) [e,f] [] cpos) (yh td ty tx):=by
 intro pins s σ H Q I h;refine wpAny_Call_method m.base m.few m.line PySem.F.plainAttrs_dict PySem.F.slot_dict_get PySem.F.type_dict_get (thn (ho pins s σ H _ I h) fun u s1 hq62=>?_);obtain⟨x,H1,I1,rx,a,ex,d,q1⟩:=hq62;subst ex;obtain rfl:u=Value.ref a:=rx;obtain⟨t1,t2,_⟩:=kI I1 d;refine⟨t1,t2,?_⟩;rw[m.trees]
 refine Calls.callWith_builtin rfl (Calls.evalArgs_plain (Calls.spliced_cons (thn (he pins s1 σ H1 _ I1 q1) fun iv s2 ⟨y,H2,I2,ry,q2⟩ =>
  Calls.spliced_cons (thn (hf pins s2 σ H2 _ I2 q2) fun fv s3 ⟨z,H3,I3,rz,ov,g,q3⟩=>Calls.spliced_nil ?_))))
 exact xl hu I3 g ry rz fun w' s4 I4 rw'=>⟨_,H3,I4,rw',q3⟩
theorem jc(ho:PE X o td)(he:PE X e ty)(m:M1 X o "pop" apos e cpos):PE X (.Call (.Attribute o "pop" apos) [e] [] cpos) (wM td ty):=by
 intro pins s σ H Q I h;refine wpAny_Call_method m.base m.few m.line PySem.F.plainAttrs_dict PySem.F.slot_dict_pop PySem.F.type_dict_pop (thn (ho pins s σ H _ I h) fun u s1 hq63=>?_);obtain⟨x,H1,I1,rx,a,ex,d,q1⟩:=hq63;subst ex;obtain rfl:u=Value.ref a:=rx;obtain⟨t1,t2,_⟩:=kI I1 d;refine⟨t1,t2,?_⟩;rw[m.trees];refine Calls.callWith_builtin rfl (Calls.evalArgs_plain (Calls.spliced_cons (thn (he pins s1 σ H1 _ I1 q1) fun iv s2 hq64=>?_)));obtain⟨y,H2,I2,ry,kvs,k,v,ea,ey,l,q2⟩:=hq64;refine Calls.spliced_nil ?_;subst ey;exact yS I2 ea ry l (.inl rfl) fun w' s3 I3 rw'=>⟨v,_,I3,rw',q2⟩
end
section
variable {κ:Type} [DecidableEq κ]
theorem sf{kvs:List (κ×V)}{k:κ}(h:bg kvs k=none):¬k∈kvs.map (·.1):=by
 intro m;obtain⟨p,hp,e⟩:=Em.mp m;have q:(kvs.any fun kv=>decide (kv.1=k))=true:=Fo.mpr ⟨p,hp,Ht e⟩;rw[cm,h] at q;exact absurd q (by simp)
theorem gG{kvs:List (κ×V)}{k:κ}{v:V}(h:bg kvs k=some v):k∈kvs.map (·.1):=by
 have q:(kvs.any fun kv=>decide (kv.1=k))=true:=by
  rw[cm,h]
  all_goals rfl
 obtain⟨p,hp,e⟩:=Fo.mp q;exact Em.mpr ⟨p,hp,Hy e⟩
theorem pY{p:κ×V}{r:List (κ×V)}{k:κ}(e:p.1=k):bY (p::r) k=bY r k:=by
 unfold bY;rw[EK,Ho (by simp[e])]
theorem oA{p:κ×V}{r:List (κ×V)}{k:κ}(e:¬p.1=k):bY (p::r) k=p::bY r k:=by
 unfold bY;rw[EK,Hq (by simp[e])]
end
mutual
inductive IY(K:W.Frag)(H:Hp):V->PyData->Prop
 |non:IY K H .non .none
 |bl (b:Bool):IY K H (.bl b) (.bool b)
 |int (i:Int):IY K H (.int i) (.int i)
 |str (x:Str):IY K H (.str x) (.str x)
 |lst {a:Addr}{xs:List V}{ds:List PyData}:SqL K H a xs->DatAll K H xs ds->IY K H (.ref a) (.list ds)
 |tup {a:Addr}{xs:List V}{ds:List PyData}:SqT K H a xs->DatAll K H xs ds->IY K H (.ref a) (.tuple ds)
inductive DatAll(K:W.Frag)(H:Hp):List V->List PyData->Prop
 |nil:DatAll K H [] []
 |cons {v:V}{d:PyData}{vs:List V}{ds:List PyData}:IY K H v d->DatAll K H vs ds->DatAll K H (v::vs) (d::ds)
end
theorem Ia.Pn{K:W.Frag}{H H':Hp}{a:Addr}{xs:List V}(e:Ia H H')(h:SqT K H a xs):SqT K H' a xs:=by
 rcases h with (h|⟨o,h⟩)|h
 ·exact .inl (.inl (e _ _ h))
 ·exact .inl (.inr ⟨o,e _ _ h⟩)
 ·exact .inr h
theorem ao{H:Hp}{p:Addr}(h:H p=none)(o:HO):Ia H (upd H p o):=fun b u q=>by rw[au (aU q h)];exact q
section
variable {X:Cx}{pins:List (Addr×Obj)}{σ:St}{H:Hp}{s:Shared}
mutual
theorem Inv.reads(I:Inv X pins σ H s):∀{v:V}{d:PyData}{u:Value},IY X.K H v d->RelV v u->∃as,Reads s.heap u d as
 |_,_,_,.non,r=>by cases r;exact⟨_,.none⟩
 |_,_,_,.bl b,r=>by cases r;exact⟨_,.bool b⟩
 |_,_,_,.int i,r=>by obtain⟨t,rfl⟩:=r;exact⟨_,.int i t⟩
 |_,_,_,.str x,r=>by obtain⟨t,rfl⟩:=r;exact⟨_,.str x t⟩
 |_,_,_,.lst h q,r=>by
  cases r;obtain⟨its,rv,⟨o,n,e,c,dd,d⟩,hz⟩:=I.list h;obtain⟨as,z⟩:=I.readsAll q rv;exact⟨_,.list e c d (by simpa using z)⟩
 |_,_,_,.tup h q,r=>by
  cases r;obtain⟨its,rv,⟨o,e,c,n,d⟩,hz⟩:=I.tuple h;obtain⟨as,z⟩:=I.readsAll q rv;exact⟨_,.tuple e c d (by simpa using z)⟩
theorem Inv.readsAll(I:Inv X pins σ H s):∀{vs:List V}{ds:List PyData}{us:List Value},DatAll X.K H vs ds->Vals vs us->∃as,ReadsAll s.heap us ds as
 |_,_,_,.nil,.nil=>⟨_,.nil⟩
 |_,_,_,.cons h q,.cons r t=>by
  obtain⟨as,z⟩:=I.reads h r;obtain⟨bs,y⟩:=I.readsAll q t;exact⟨_,.cons z y⟩
end
def zV (K:W.Frag)(neg:Bool):R2:=fun x y H Q=>∃d e,IY K H x d/\IY K H y e/\d.canLay0=true/\e.canLay0=true/\d.depth<=60/\Q (.bl (if neg then !PyData.eqv d e else PyData.eqv d e)) H
theorem yn(hu:X.A.units+64<cLine):OpR X (compareOp .Eq) (zV X.K false):=by
 intro pins s σ H x y v u Q I rx ry h;obtain⟨d,e,hd,he,c1,c2,hp,q⟩:=h;obtain⟨as,ra⟩:=I.reads hd rx;obtain⟨bs,rb⟩:=I.reads he ry;exact SeqAt.compareEq_reads ra rb c1 c2 (by have:=Gy d.depth e.depth;lia) ⟨.bl _,H,I,rfl,q⟩
theorem fY(hu:X.A.units+64<cLine):OpR X (compareOp .NotEq) (zV X.K true):=by
 intro pins s σ H x y v u Q I rx ry h;obtain⟨d,e,hd,he,c1,c2,hp,q⟩:=h;obtain⟨as,ra⟩:=I.reads hd rx;obtain⟨bs,rb⟩:=I.reads he ry;exact SeqAt.compareNe_reads ra rb c1 c2 (by have:=Gy d.depth e.depth;lia) ⟨.bl _,H,I,rfl,q⟩
end
def yL (i j:Int):Prop:=Builtin.Int.intBits i<=2^20/\Builtin.Int.intBits j<=2^20
theorem bP{X:Cx}:OpR X (binaryOp .Mult) (rI yL fun i j=>.int (i*j)):=opI fun _ _ _ _ _ _ _ hc q=>mul_int q (IntMulOk.of_bits hc.1 hc.2)
def Its (x:Str):It:=⟨fun i _=>i<x.cps.size,fun i H v H'=>H'=H/\∃c,x.cps[i]?=some c/\v=.str ⟨#[c]⟩,fun i _=>x.cps.size<=i⟩
theorem rp{P:Program}{w:World}{K:W.Frag}{tg:Expr}(it:Addr)(x:Str)(t:Tok):Turn P w K tg (Its x) [it] it (fun i h=>h.IsStrIter it "str_ascii_iterator" x t i) where
 mem:=by simp
 obj:=fun i h st b hb=>by
  have e:b=it:=by simpa using hb
  subst e;obtain⟨o,e,c,d⟩:=st;exact⟨o,e,fun v z=>by rw[d] at z;cases z⟩
 keep:=fun i h h' st k=>by
  obtain⟨o,e,r⟩:=st;exact⟨o,k it (by simp) o e,r⟩
 item:=by
  intro X hP hw hK hc i pins s σ H E I hf st hg;subst hP hw hK;obtain⟨f0,f1,f2,f3,f4,f5⟩:=hf it (by simp);have hi:i<x.cps.size:=hg;refine wpAny_pyNext_ascii_item st (c:=x.cps[i]) (by simp[hi]) fun h' st' sb=>?_;have I1:Inv X pins σ H {s with heap:=h',toks:=s.toks+1}:=I.turned (fun b o hb e=>(sb.2 b hb).trans e) f0 f1 f3 f4 f5;obtain⟨o,e,c,d⟩:=id st';exact⟨_,rfl,kF (s:={s with heap:=h',toks:=s.toks+1}) e c d (by decide) ⟨.str ⟨#[x.cps[i]]⟩,H,I1,⟨_,rfl⟩,⟨rfl,_,by simp[hi],rfl⟩,st',fun b hb=>(hf b hb).1⟩⟩
 done:=by
  intro X hP hw hK hc i pins s σ H E I hf st hg;subst hP hw hK;obtain⟨f0,f1,f2,f3,f4,f5⟩:=hf it (by simp);have hi:x.cps.size<=i:=hg;exact wpAny_pyNext_ascii_end (I.ok.hd hc) st (by simp;lia) fun h' eb=>⟨rfl,I.turned (t':=s.toks) (fun b o hb e=>eb b o hb e) f0 f1 f3 f4 f5⟩
 self:=fun A i s Q E st h=>by
  obtain⟨o,e,c,d⟩:=id st;refine wpAny_pyIter_slot (Heap.IsStrIter.typeIs st) F.slot_str_ascii_iterator_iter (HQ F.slot_str_ascii_iterator_iter (Heap.IsStrIter.typeIs st) F.entry_str_ascii_iterator_iter ?_ (F.args_str_ascii_iterator_iter_1 _));show wpAny _ _ (ret (.ref it)) _ _ s;exact Hn ⟨_,rfl,"str_ascii_iterator",_,Heap.IsStrIter.typeIs st,F.slot_str_ascii_iterator_next.lookup,h⟩
section
variable {X:Cx}{tg:Expr}
def iStr (tl:TE):TI:=fun σ H R=>tl σ H fun x H1=>∃z,x=.str z/\z.cps.all (·<128)=true/\R (Its z) H1
theorem gQ{l:Expr}{tl:TE}(hl:PE X l tl):PI X tg l (iStr tl):=by
 intro pins s σ H R I h;refine thn (hl pins s σ H _ I h) fun v s1 hq65=>?_;obtain⟨x,H1,I1,r1,q1⟩:=hq65;obtain⟨z,e,ha,q⟩:=q1;subst e;obtain⟨t,rfl⟩:=r1;refine wpAny_pyIter_ascii ha ?_;refine⟨s1.heap.objs.size,[s1.heap.objs.size],_,_,H1,rfl,I1.kept (t':=s1.toks) fun b o e=>HJ _ e,rp _ z t,⟨_,HK _ rfl,rfl,rfl⟩,fun b hb=>?_,q⟩;have e:b=s1.heap.objs.size:=by simpa using hb
 subst e;exact I1.Ma (DP _) (I1.hok.fresh (DP _))
def Nx (n i:Nat)(P:Nat->List V->Hp->Prop)(ys:List V)(H:Hp):Prop:=∃m',m'<n-i/\(m'=n-(i+1)/\i+1<=n/\P (i+1) ys H)
theorem Nx.mk{n i:Nat}{P:Nat->List V->Hp->Prop}{ys:List V}{H:Hp}(hi:i<n)(h:P (i+1) ys H):Nx n i P ys H:=⟨n-(i+1),by lia,rfl,hi,h⟩
theorem eo{J:It}{n k:Nat}{js:List Nat}{g:TG}{tc:TT}{te:TE}{σ:St}{H:Hp}{Q:VK}(P:Nat->List V->Hp->Prop)(h0:P 0 [] H)(hz:∀i ys H,i<=n->P i ys H->ys.length<=i)(hn:n<=sizeLine)
  (hgo:∀i ys H,i<n->P i ys H->J.go i H)(hstop:∀ys H,P n ys H->J.stop n H)
  (hs:∀i ys H x H',i<n->P i ys H->J.yld i H x H'->g x (List.replicate k none++cS js σ) H' fun σ2 H2=>tc σ2 H2 fun b H3=>if b=true then te σ2 H3 fun y H4=>Nx n i P (ys++[y]) H4 else Nx n i P ys H3)
  (hd:∀ys H,P n ys H->∀p,H p=none->Q (.ref p) (upd H p (.lst ys))) :
  ib J k js g tc te σ H Q:=by
 refine⟨fun i m ys H=>m=n-i/\i<=n/\P i ys H,⟨n,by simp,Ec _,h0⟩,?_⟩;rintro i m ys H ⟨rfl,hi,p⟩;have hy:=hz i ys H hi p;by_cases hlt:i<n
 ·exact .inr ⟨hgo i ys H hlt p,by lia,fun x H' y=>hs i ys H x H' hlt p y⟩
 ·have e:i=n:=by lia
  subst e;exact .inl ⟨hstop ys H p,by lia,hd ys H p⟩
theorem wA{lo:Int}{n k:Nat}{js:List Nat}{g:TG}{tc:TT}{te:TE}{σ:St}{H:Hp}{Q:VK}(P:Nat->List V->Hp->Prop)(h0:P 0 [] H)(hz:∀i ys H,i<=n->P i ys H->ys.length<=i)(hn:n<=sizeLine)
  (hs:∀i ys H,i<n->P i ys H->g (.int (lo+i)) (List.replicate k none++cS js σ) H fun σ2 H2=>tc σ2 H2 fun b H3=>if b=true then te σ2 H3 fun y H4=>Nx n i P (ys++[y]) H4 else Nx n i P ys H3)
  (hd:∀ys H,P n ys H->∀p,H p=none->Q (.ref p) (upd H p (.lst ys))) :
  ib (Itr lo n) k js g tc te σ H Q:=
 eo P h0 hz hn (fun _ _ _ h _=>h) (fun _ _ _=>DP _) (fun i ys H x H' hi p y=>by obtain⟨e,y⟩:=y;subst e y;exact hs i ys _ hi p) hd
theorem fH{K:W.Frag}{a:Addr}{xs:List V}{k:Nat}{js:List Nat}{g:TG}{tc:TT}{te:TE}{σ:St}{H:Hp}{Q:VK}(P:Nat->List V->Hp->Prop)(h0:P 0 [] H)(hz:∀i ys H,i<=xs.length->P i ys H->ys.length<=i)(hn:xs.length<=sizeLine)
  (hl:∀i ys H,i<=xs.length->P i ys H->SqL K H a xs)
  (hs:∀i x ys H,xs[i]?=some x->P i ys H->g x (List.replicate k none++cS js σ) H fun σ2 H2=>tc σ2 H2 fun b H3=>if b=true then te σ2 H3 fun y H4=>Nx xs.length i P (ys++[y]) H4 else Nx xs.length i P ys H3)
  (hd:∀ys H,P xs.length ys H->∀p,H p=none->Q (.ref p) (upd H p (.lst ys))) :
  ib (Itl K a) k js g tc te σ H Q:=
 eo P h0 hz hn (fun i ys H hi p=>⟨xs,xs[i],hl i ys H (EH hi) p,by simp[hi]⟩) (fun ys H p=>⟨xs,hl _ ys H (DP _) p,DP _⟩)
  (fun i ys H x H' hi p y=>by obtain⟨e,y⟩:=y;subst e;exact hs i x ys _ (y xs (hl i ys _ (EH hi) p)) p) hd
theorem yU{K:W.Frag}{a:Addr}{xs:List V}{k:Nat}{js:List Nat}{g:TG}{tc:TT}{te:TE}{σ:St}{H:Hp}{Q:VK}(P:Nat->List V->Hp->Prop)(h0:P 0 [] H)(hz:∀i ys H,i<=xs.length->P i ys H->ys.length<=i)(hn:xs.length<=sizeLine)
  (hl:∀i ys H,i<=xs.length->P i ys H->SqT K H a xs)
  (hs:∀i x ys H,xs[i]?=some x->P i ys H->g x (List.replicate k none++cS js σ) H fun σ2 H2=>tc σ2 H2 fun b H3=>if b=true then te σ2 H3 fun y H4=>Nx xs.length i P (ys++[y]) H4 else Nx xs.length i P ys H3)
  (hd:∀ys H,P xs.length ys H->∀p,H p=none->Q (.ref p) (upd H p (.lst ys))) :
  ib (Itt K a) k js g tc te σ H Q:=
 eo P h0 hz hn (fun i ys H hi p=>⟨xs,xs[i],hl i ys H (EH hi) p,by simp[hi]⟩) (fun ys H p=>⟨xs,hl _ ys H (DP _) p,DP _⟩)
  (fun i ys H x H' hi p y=>by obtain⟨e,y⟩:=y;subst e;exact hs i x ys _ (y xs (hl i ys _ (EH hi) p)) p) hd
theorem uJ{z:Str}{k:Nat}{js:List Nat}{g:TG}{tc:TT}{te:TE}{σ:St}{H:Hp}{Q:VK}(P:Nat->List V->Hp->Prop)(h0:P 0 [] H)(hz:∀i ys H,i<=z.cps.size->P i ys H->ys.length<=i)(hn:z.cps.size<=sizeLine)
  (hs:∀i c ys H,z.cps[i]?=some c->P i ys H->g (.str ⟨#[c]⟩) (List.replicate k none++cS js σ) H fun σ2 H2=>tc σ2 H2 fun b H3=>if b=true then te σ2 H3 fun y H4=>Nx z.cps.size i P (ys++[y]) H4 else Nx z.cps.size i P ys H3)
  (hd:∀ys H,P z.cps.size ys H->∀p,H p=none->Q (.ref p) (upd H p (.lst ys))) :
  ib (Its z) k js g tc te σ H Q:=
 eo P h0 hz hn (fun i ys H hi p=>hi) (fun ys H p=>DP _)
  (fun i ys H x H' hi p y=>by obtain⟨e,c,y,rfl⟩:=y;subst e;exact hs i c ys _ y p) hd
theorem boolsOf:∀{bs:List Bool}{us:List Value},Vals (bs.map V.bl) us->us=bs.map Value.bool
 |[],_,.nil=>rfl
 |b::r,_,.cons h t=>by cases h;rw[boolsOf t];rfl
theorem qC(hc:X.calm=true):cP X (.builtin "all") (fun xs H Q=>∃(p:Addr)(bs:List Bool),xs=[.ref p]/\SqL X.K H p (bs.map V.bl)/\Q (.bl (bs.all id)) H):=by
 intro pins s σ H xs us Q I r h;obtain⟨p,bs,rfl,hq,q⟩:=h;obtain⟨u,rfl,rx⟩:=fw r;cases rx;obtain⟨its,rv,pl,hz⟩:=I.list hq;have hh:X.A.in1.handled=none:=I.ok.hd hc;have e:=boolsOf rv;subst e;have hp:p<s.heap.objs.size:=by obtain⟨o,n,e,_⟩:=pl;exact Hz e
 refine call_all_walk (wpAny_pyIter_list pl.isList ⟨s.heap.objs.size,_,_,_,_,_,fun i=>bs.getD i false,rfl,Walks.list hh s.heap.objs.size p (DZ hp) _,⟨⟨_,HK _ rfl,rfl,rfl⟩,pl.isList.push _⟩,?_,fun h' tk hk=>?_⟩)
 ·intro i v s' Q' E' hv q';have hv':(bs.map Value.bool)[i]?=some v:=by simpa using hv
  rw[DY] at hv';cases eb:bs[i]? with
  |none=>rw[eb] at hv';cases hv'
  |some b=>
   rw[eb] at hv';cases hv';refine wpAny_truthy_bool ?_;have q2:Q' (bs.getD i false) s':=q';rw[ED,eb] at q2;exact q2
 ·have e:(List.range (bs.map Value.bool).toArray.size).all (fun i=>bs.getD i false)=bs.all id:=by
   rw[HL,EE,EE];constructor
   ·intro h b hb;obtain⟨i,hi,rfl⟩:=FP.mp hb;have:=h i (Es.mpr (by simpa using hi));rw[ED,DW hi] at this;exact this
   ·intro h i hi;have hi':i<bs.length:=by simpa using Es.mp hi
    rw[ED,DW hi'];exact h _ (Ep hi')
  rw[e];refine⟨.bl _,H,?_,rfl,q⟩;have I1:Inv X pins σ H {s with heap:=s.heap.push {cls:=.type "list_iterator",data:=.fields #[.ref p,.int 0 0]},toks:=s.toks}:=I.kept fun b o e=>HJ _ e;refine I1.turned (it:=s.heap.objs.size) (fun b o hb e=>hk b o (by simpa using hb) e) (I.hok.fresh (DP _)) (Fy I.lt) (.inr (Heap.get?_none_of_le I.sz)) (fun x c e z=>?_) fun p hp z=>?_
  ·obtain⟨v,o,ho,_⟩:=I.cell x c e;rw[z] at ho;exact absurd (Hz ho) (Er _)
  ·have:=(I.pin p hp).1;rw[z] at this;exact absurd (Hz this) (Er _)
theorem strsOf:∀{zs:List Str}{us:List Value},Vals (zs.map V.str) us->StrsAre us zs
 |[],_,.nil=>.nil
 |z::r,_,.cons h t=>by obtain⟨tk,rfl⟩:=h;exact .cons z tk (strsOf t)
def wB (K:W.Frag):V->List V->Hp->VK->Prop:=fun x vs H Q=>∃(z:Str)(p:Addr)(zs:List Str),x=.str z/\vs=[.ref p]/\SqL K H p (zs.map V.str)/\(zs.map (·.length)).sum+zs.length*z.length<=16777216/\Q (.str (Txt.join z zs)) H
theorem Nr:MtR X "str.join" (wB X.K):=by
 intro pins s σ H x vs v us Q I rx rv h;obtain⟨z,p,zs,rfl,rfl,hq,hz,q⟩:=h;obtain⟨t,rfl⟩:=rx;obtain⟨u,rfl,ru⟩:=rv.one;cases ru;obtain⟨its,r',pl,_⟩:=I.list hq;exact join_list pl.isList (by simpa using strsOf r') hz fun t' k=>⟨.str _,H,I.tok _,⟨_,rfl⟩,q⟩
def clsV:V->Option Value
 |.ty T=>some (.type T)
 |.ref a=>some (.ref a)
 |_=>none
def rIsT (K:W.Frag):List V->Hp->VK->Prop:=fun xs H Q=>∃x y t c b,xs=[x,y]/\clsV y=some c/\Ki K H x t/\W.kitOne K t c=some b/\Q (.bl b) H
theorem IW:cP X (.builtin "isinstance") (rIsT X.K):=by
 intro pins s σ H xs us Q I r h;obtain⟨x,y,t,c,b,rfl,ec,ty,e,q⟩:=h;obtain⟨u,u',rfl,rx,ry⟩:=vg r;have:u'=c:=by
  cases y with
  |ref _=>cases ry;exact HC ec
  |ty _=>cases ry;exact HC ec
  |_=>cases ec
 subst this;exact ou I rx ty e fun tk=>⟨.bl b,H,I.tok _,rfl,q⟩
def Nq:V->List V->Hp->VK->Prop:=fun x vs H Q=>∃d o kvs more,x=.ref d/\vs=[.ref o]/\d≠o/\H d=some (.dK kvs)/\H o=some (.dK more)/\kvs.length+more.length<=sizeLine/\Q .non (upd H d (.dK (bL kvs more)))
theorem Ls:MtR X "dict.update" Nq:=by
 intro pins s σ H x vs v us Q I rx rv h;obtain⟨d,o,kvs,more,rfl,rfl,hne,hd,ho,hz,q⟩:=h;cases rx;obtain⟨u,rfl,ru⟩:=rv.one;cases ru;obtain⟨z1,y1,ws1,r1,d1⟩:=(show Iq X.prog X.w H s.heap d (.dK kvs) from I.hok d _ hd)
 obtain⟨z2,y2,ws2,r2,d2⟩:=(show Iq X.prog X.w H s.heap o (.dK more) from I.hok o _ ho)
 have l1:kvs.length=ws1.length:=Paired.length r1;have l2:more.length=ws2.length:=Paired.length r2;refine PySem.call_meetsIn F.slot_dict_update d1.typeIs F.entry_dict_update (F.args_dict_update_2 _ _) (meets_dict_update (aM X.prog X.w) d o hne y2) ⟨ws1,ws2,d1,d2,by lia,fun h' e1 e2 hs=>?_⟩;refine⟨.non,_,I.write (x:=d) (e:=d) (o:=.dK (bL kvs more)) (t':=s.toks) (by rw[hd];trivial) (.inl rfl) (fun b u hb e=>hs.extBut b u hb e) ?_ ?_,rfl,q⟩
 ·obtain⟨o',es,ep,g,_⟩:=e1;exact⟨o',g⟩
 ·exact⟨Ee (IF more kvs) hz,y1,_,r2.merge r1,e1⟩
end
def Kp (F:Addr->Prop)(fs:List Addr)(h h':Heap):Prop:=
 (∀b o,h.get? b=some o->¬F b->b∉fs->h'.get? b=some o)/\(∀b o,h.get? b=some o->¬F b->∃sl,h'.get? b=some {o with slots:=sl})/\∀b o,h.get? b=some o->∃o',h'.get? b=some o'
theorem Kp.refl{F:Addr->Prop}{fs:List Addr}(h:Heap):Kp F fs h h:=⟨fun _ _ e _ _=>e,fun _ o e _=>⟨o.slots,e⟩,fun _ o e=>⟨o,e⟩⟩
theorem Kp.trans{F:Addr->Prop}{fs:List Addr}{h h1 h2:Heap}(a:Kp F fs h h1)(b:Kp F fs h1 h2):Kp F fs h h2:=
 ⟨fun c o e n m=>b.1 c o (a.1 c o e n m) n m,fun c o e n=>by
  obtain⟨sl,e1⟩:=a.2.1 c o e n;obtain⟨sl2,e2⟩:=b.2.1 c _ e1 n;exact⟨sl2,e2⟩,fun c o e=>by
  obtain⟨o1,e1⟩:=a.2.2 c o e
  exact b.2.2 c o1 e1⟩
section
variable {X:Cx}{pins:List (Addr×Obj)}{σ:St}{H:Hp}{s:Shared}{h':Heap}
theorem Inv.MJ{t':Nat}(I:Inv X pins σ H s)(k:Kp (ID X pins H) (frs X.stack) s.heap h'):Inv X pins σ H {s with heap:=h',toks:=t'}:=by
 classical
 have nf:∀b o,H b=some o->¬ID X pins H b:=fun b o e f=>by rw[f.1] at e;cases e
 have ns:∀b o,H b=some o->b∉frs X.stack:=fun b o e z=>by rw[I.Kv b z] at e;cases e
 have hch:∀b∈(List.range s.heap.objs.size).filter (fun b=>decide (ID X pins H b)),ID X pins H b:=fun b hb=>Hy (FK.mp hb).2;have nch:∀b o,s.heap.get? b=some o->b∉(List.range s.heap.objs.size).filter (fun b=>decide (ID X pins H b))->¬ID X pins H b:=fun b o e n f=>
  n (FK.mpr ⟨Es.mpr (Hz e),Ht f⟩)
 have stk:∀b,b≠X.env.locals->b∉X.fs->b∉frs X.stack:=fun b h1 h2 z=>(Eb.mp (I.Kb b z)).elim h1 h2;refine I.step (g':=s.gens) (d':=s.drawn) (ch:=(List.range s.heap.objs.size).filter (fun b=>decide (ID X pins H b))) (fun b hb=>?_) (fun b o hL hb hc e n=>k.1 b o e (nch b o e hc) (stk b hL hb)) (fun b o hL hb hc e n=>k.2.1 b o e (nch b o e hc))
  (fun b o hc e n=>n) (fun b o hc e=>k.2.2 b o e) (fun _ _ e=>e) (fun _ _ _ e=>e) (fun b ps e=>⟨#[],by rw[e];simp⟩) (fun m hm=>?_) (fun b o e=>?_) I.bare
 ·obtain⟨f0,f1,f2,f3,f4,f5⟩:=hch b hb;exact⟨f3,f1,f4,f5⟩
 ·obtain⟨o,es,ep,ho,r⟩:=hm;obtain⟨sl,q⟩:=k.2.1 _ o ho fun f=>f.2.1 rfl;exact⟨_,es,ep,q,r⟩
 ·refine(I.hok b o e).Lf (fun c u hc q=>?_) (fun _ q=>q) fun _ _ q=>q;rcases hc with z|z
  ·subst z;exact k.1 _ u q (nf _ o e) (ns _ o e)
  ·exact k.1 c u q (nf c _ z) (ns c _ z)
theorem Inv.Ml(I:Inv X pins σ H s):∀b,s.heap.objs.size<=b->ID X pins H b:=fun b hb=>I.Ma hb (I.hok.fresh hb)
end
abbrev XS:=Value->St->Hp->Prop
section
variable {P:Program}{w:World}{K:PySem.W.Frag}{mg:Str->Option Value}{base:Heap}
theorem Jm.calm{k:Nat}{A:Around}{env:Env}(r:Jm k (A.deeper env)):A.handled.isNone=true:=by
 have:=r.hd;have h2:A.handled=none:=this;rw[h2];rfl
end
section
variable {X:Cx}{pins:List (Addr×Obj)}{σ:St}{H:Hp}{s:Shared}
theorem Inv.NX{b:Addr}{o:HO}(I:Inv X pins σ H s)(f:ID X pins H b)(ob:Iq X.prog X.w (upd H b o) s.heap b o):Inv X pins σ (upd H b o) s:=by
 obtain⟨f0,f1,f2,f3,f4,f5⟩:=f;have nb:∀c u,H c=some u->c≠b:=fun c u e z=>by rw[z,f0] at e;cases e
 refine⟨I.ok,I.os,I.bare,⟨I.base.keep,I.base.slot,fun c u e n hx=>?_,I.base.there,fun c xs e=>?_,fun c u xs e=>?_,fun c ps e=>?_⟩,I.loc,I.cell,?_,fun x c e=>?_,fun p hp=>?_,fun c u e=>?_,I.len⟩
 ·have z:c≠b:=fun z=>by
   subst z;rcases f3 with q|q
   ·exact hx q
   ·rw[q] at e;cases e
  rw[au z];exact I.base.free c u e n hx
 ·have q:=I.base.LI c xs e;rw[au (nb c _ q)];exact q
 ·have q:=I.base.Ln c u xs e;rw[au (nb c _ q)];exact q
 ·obtain⟨more,q⟩:=I.base.Ly c ps e;exact⟨more,by rw[au (nb c _ q)];exact q⟩
 ·rw[au (HI f1)];exact I.free
 ·rw[au (f4 x c e)];exact I.Jc x c e
 ·obtain⟨a1,a2,a3⟩:=I.pin p hp;exact⟨a1,by rw[au (f5 p hp)];exact a2,a3⟩
 ·by_cases z:c=b
  ·subst z;rw[af] at e;cases e;exact ob
  ·rw[au z] at e;refine(I.hok c u e).Lf (fun _ _ _ q=>q) (fun a q=>?_) fun a xs q=>?_
   ·rw[au (nb a _ q)];exact q
   ·rw[au (nb a _ q)];exact q
end
end L2
namespace L2
open PySem PySem.Spec PyProof.Rows
theorem Lx:bootBuiltins "int"=some (.type "int"):=by decide +kernel
theorem NB:bootBuiltins "bool"=some (.type "bool"):=by decide +kernel
theorem Jf:bootBuiltins "tuple"=some (.type "tuple"):=by decide +kernel
theorem Jk:bootBuiltins "list"=some (.type "list"):=by decide +kernel
theorem Nd:bootBuiltins "len"=some (.builtin "len"):=by decide +kernel
theorem Io:bootBuiltins "isinstance"=some (.builtin "isinstance"):=by decide +kernel
theorem NU:bootBuiltins "all"=some (.builtin "all"):=by decide +kernel
theorem LR:bootBuiltins "max"=some (.builtin "max"):=by decide +kernel
theorem Lb:bootBuiltins "min"=some (.builtin "min"):=by decide +kernel
theorem aA{X:Cx}{scope:Scope}{ts cap:List Str}{js:List Nat}(h1:scope.kind=.function)(h2:(scope.names.all fun y=>y.2 != .cell)=true)(h3:(scope.names.all fun y=>y.2 != .local||scope.names.lookup y.1==some .local)=true)
  (h4:(scope.names.all fun y=>y.2 != .free||X.env.kindOf y.1==some .cell||X.env.kindOf y.1==some .free)=true)(h5:cap.map some=js.map fun j=>X.N[j]?)(h6:(cap.all fun y=>scope.names.lookup y==some .free)=true)(h7:(ts++cap).Nodup):bM X scope ts cap js where
 kind:=h1
 one:=fun y hy e=>by have:=EE.mp h2 y hy;rw[e] at this;cases this
 names:=fun y hy e=>by
  have:=EE.mp h3 y hy;rw[e] at this;simpa using this
 free:=fun y hy e=>by
  have:=EE.mp h4 y hy;rw[e] at this;simpa using this
 NQ:=h5
 Ph:=fun _ _ z=>by cases z
 Pf:=fun y hy=>by
  have:=EE.mp h6 y hy;simpa using this
 nd:=h7
theorem bI{env:Env}{c j pos}{es:List Expr}:starEach (.Constant c j pos::es) env=(false,eval (.Constant c j pos) env)::starEach es env:=rfl
theorem aC{env:Env}{x pos}{es:List Expr}:starEach (.Name x pos::es) env=(false,eval (.Name x pos) env)::starEach es env:=rfl
theorem dv{env:Env}{a b c pos}{es:List Expr}:starEach (.Call a b c pos::es) env=(false,eval (.Call a b c pos) env)::starEach es env:=rfl
def strOf:Expr->Option Str
 |.Constant (.str x) _ _=>some x
 |_=>none
theorem oV{X:Cx}:∀{es:List Expr}{xs:List Str},es.map strOf=xs.map some->PA X es (fun _ H Q=>Q (xs.map V.str) H)
 |[],[],_=>Ii
 |[],_::_,h=>by cases h
 |_::_,[],h=>by cases h
 |e::es,x::xs,h=>by
  rw[Ex,Ex] at h;injection h with h1 h2;have ih:=oV (X:=X) (es:=es) (xs:=xs) h2;unfold strOf at h1;split at h1
  ·cases h1;exact ag bo ih bI
  ·cases h1
structure DD where
 f:Addr
 fd:FuncData
structure Def(K:W.Frag)(mg:Str->Option Value)(x:Str)(st:Stmt)(ps:List Str)(d:DD):Prop where
 fn:Fun K x x st d.f d.fd
 m:mg x=some (.ref d.f)
 b:Binds K d.fd ps []
def hid (p:Addr)(H:Hp):Hp:=fun b=>if b=p then none else H b
theorem aQ{p b:Addr}{H:Hp}(h:b≠p):hid p H b=H b:=Ho h
theorem aE(p:Addr)(H:Hp):Ia (hid p H) H:=fun b o e=>by
 unfold hid at e;split at e
 ·cases e
 ·exact e
theorem Ia.hid{p:Addr}{H H':Hp}(e:Ia H H'):Ia (hid p H) (L2.hid p H'):=fun b o q=>by
 unfold L2.hid at q ⊢;split at q
 ·cases q
 ·rename_i h;rw[Ho h];exact e b o q
def DOk (a b c:Int):Prop:=1<=b/\b<=2147483648/\1000000000<=c/\c<=2147483647
def Ds (H:Hp)(p:Addr):Prop:=∃a b c,H p=some (.lst [.int a,.int b,.int c])/\DOk a b c
structure Dr(p:Addr)(H H':Hp):Prop where
 same:Ia (hid p H) (hid p H')
 ds:Ds H' p
theorem Dr.trans{p:Addr}{H H1 H2:Hp}(a:Dr p H H1)(b:Dr p H1 H2):Dr p H H2:=⟨a.same.trans b.same,b.ds⟩
theorem Ds.same{p:Addr}{H H':Hp}(h:Ds H p)(e:Ia H H'):Ds H' p:=by
 obtain⟨a,b,c,q,r⟩:=h;exact⟨a,b,c,e _ _ q,r⟩
theorem Dr.of_same{p:Addr}{H H':Hp}(h:Ds H p)(e:Ia H H'):Dr p H H':=⟨e.hid,h.same e⟩
theorem Dr.Ng{p:Addr}{H:Hp}{a b c:Int}(h:DOk a b c):Dr p H (upd H p (.lst [.int a,.int b,.int c])):=
 ⟨fun q o e=>by
  unfold hid at e ⊢;split at e
  ·cases e
  ·rename_i n;rw[Ho n,au n];exact e,a,b,c,af,h⟩
theorem Ds.ne{p q:Addr}{H:Hp}(h:Ds H p)(n:H q=none):p≠q:=by
 obtain⟨a,b,c,e,_⟩:=h;exact aU e n
theorem Dr.new{p q:Addr}{H:Hp}(h:Ds H p)(n:H q=none)(o:HO):Dr p H (upd H q o):=Dr.of_same h (ao n o)
theorem cF{p q:Addr}{H:Hp}(h:Ds H p)(n:H q=none)(o:HO):hid p (upd H q o) q=some o:=by
 rw[aQ (HI (h.ne n)),af]
structure Tb where
 a:Int
 b:Int
 c:Int
 d:Int
def Tb.vs(t:Tb):List V:=[.int t.a,.int t.b,.int t.c,.int t.d]
def Tb.mul(s t:Tb):Tb:=⟨s.a*t.a+s.b*t.c,s.a*t.b+s.b*t.d,s.c*t.a+s.d*t.c,s.c*t.b+s.d*t.d⟩
def Tb.one:Tb:=⟨1,0,0,1⟩
def Tb.worth(t:Tb):Int:=t.a*t.d-t.b*t.c
def Tb.dat(t:Tb):PyData:=.tuple [.int t.a,.int t.b,.int t.c,.int t.d]
def T4 (K:W.Frag)(H:Hp)(v:V)(t:Tb):Prop:=∃a,v=.ref a/\SqT K H a t.vs
def T4o (H:Hp)(v:V)(t:Tb):Prop:=∃a,v=.ref a/\H a=some (.tup t.vs)
theorem T4o.t4{K:W.Frag}{H:Hp}{v:V}{t:Tb}(h:T4o H v t):T4 K H v t:=by
 obtain⟨a,rfl,e⟩:=h;exact⟨a,rfl,SqT.of e⟩
theorem T4o.mono{H H':Hp}{v:V}{t:Tb}(h:T4o H v t)(e:Ia H H'):T4o H' v t:=by
 obtain⟨a,rfl,q⟩:=h;exact⟨a,rfl,e _ _ q⟩
theorem T4.mono{K:W.Frag}{H H':Hp}{v:V}{t:Tb}(h:T4 K H v t)(e:Ia H H'):T4 K H' v t:=by
 obtain⟨a,rfl,q⟩:=h;exact⟨a,rfl,e.Pn q⟩
def Lt2 (n:Nat)(x:Int):Prop:=x.natAbs<2^n
structure Bd(n:Nat)(t:Tb):Prop where
 a:Lt2 n t.a
 b:Lt2 n t.b
 c:Lt2 n t.c
 d:Lt2 n t.d
theorem Lt2.mono{n m:Nat}{x:Int}(h:Lt2 n x)(l:n<=m):Lt2 m x:=DT h (Gj (by decide) l)
theorem Bd.mono{n m:Nat}{t:Tb}(h:Bd n t)(l:n<=m):Bd m t:=⟨h.a.mono l,h.b.mono l,h.c.mono l,h.d.mono l⟩
theorem Lt2.dot{n m:Nat}{a e b g:Int}(ha:Lt2 n a)(he:Lt2 m e)(hb:Lt2 n b)(hg:Lt2 m g):Lt2 (n+m+1) (a*e+b*g):=by
 unfold Lt2 at *;have h1:(a*e+b*g).natAbs<=(a*e).natAbs+(b*g).natAbs:=Int.natAbs_add_le _ _;rw[Gz,Gz] at h1;have h2:a.natAbs*e.natAbs<2^n*2^m:=Nat.mul_lt_mul'' ha he;have h3:b.natAbs*g.natAbs<2^n*2^m:=Nat.mul_lt_mul'' hb hg;rw[Nat.pow_succ,Nat.pow_add];lia
theorem Bd.mul{n m:Nat}{s t:Tb}(hs:Bd n s)(ht:Bd m t):Bd (n+m+1) (s.mul t):=
 ⟨hs.a.dot ht.a hs.b ht.c,hs.a.dot ht.b hs.b ht.d,hs.c.dot ht.a hs.d ht.c,hs.c.dot ht.b hs.d ht.d⟩
theorem Lt2.bits{n:Nat}{x:Int}(h:Lt2 n x):Builtin.Int.intBits x<=n:=by
 unfold Builtin.Int.intBits;unfold Lt2 at h;split
 ·exact Ec _
 ·rename_i z;have nz:x.natAbs≠0:=fun q=>z (by rw[Int.natAbs_eq_zero.mp q];rfl);exact(GA nz).mpr h
theorem Lt2.big{n m:Nat}{x y:Int}(hx:Lt2 n x)(hy:Lt2 m y)(hn:n<=1048576)(hm:m<=1048576):yL x y:=⟨Ee hx.bits hn,Ee hy.bits hm⟩
def JI:V->Bool
 |.int _=>true
 |_=>false
inductive Kn(H:Hp):V->Prop where
 |non:Kn H .non
 |bl (b:Bool):Kn H (.bl b)
 |int (i:Int):Kn H (.int i)
 |str (x:Str):Kn H (.str x)
 |lst {a:Addr}{xs:List V} (e:H a=some (.lst xs)):Kn H (.ref a)
 |tup {a:Addr}{xs:List V} (e:H a=some (.tup xs)):Kn H (.ref a)
inductive Th(H:Hp):V->Bool->Prop where
 |non:Th H .non false
 |bl (b:Bool):Th H (.bl b) false
 |int (i:Int):Th H (.int i) false
 |str (x:Str):Th H (.str x) false
 |lst {a:Addr}{xs:List V} (e:H a=some (.lst xs)):Th H (.ref a) false
 |tup {a:Addr}{xs:List V} (e:H a=some (.tup xs)) (k:∀x∈xs,Kn H x):Th H (.ref a) (xs.length==4&&xs.all JI)
section
variable {K:PySem.W.Frag}{H:Hp}{v:V}
def PH:V->Bool
 |.int _=>true
 |.bl _=>true
 |_=>false
def isB:V->Bool
 |.bl _=>true
 |_=>false
theorem Kn.as_int(h:Kn H v):∃t,Ki K H v t/\W.kitOne K t (.type "int")=some (PH v):=by
 cases h with
 |non=>exact⟨_,.non,rfl⟩
 |bl b=>exact⟨_,.bl b,rfl⟩
 |int i=>exact⟨_,.int i,rfl⟩
 |str x=>exact⟨_,.str x,rfl⟩
 |lst e=>exact⟨_,.lst e,rfl⟩
 |tup e=>exact⟨_,.tup e,rfl⟩
theorem Kn.as_bool(h:Kn H v):∃t,Ki K H v t/\W.kitOne K t (.type "bool")=some (isB v):=by
 cases h with
 |non=>exact⟨_,.non,rfl⟩
 |bl b=>exact⟨_,.bl b,rfl⟩
 |int i=>exact⟨_,.int i,rfl⟩
 |str x=>exact⟨_,.str x,rfl⟩
 |lst e=>exact⟨_,.lst e,rfl⟩
 |tup e=>exact⟨_,.tup e,rfl⟩
end
def LO:Sp:=fun vs H Q _=>∃v,vs=[v]/\Kn H v/\Q (.bl (JI v)) H
def JS:Sp:=fun vs H Q _=>∃v b,vs=[v]/\Th H v b/\∀H',Ia H H'->Q (.bl b) H'
section
variable {X:Cx}
def sP (K:W.Frag):List V->Hp->VK->Prop:=fun xs H Q=>∃p ys,xs=[.ref p]/\((SqL K H p ys/\∀l,H l=none->Q (.ref l) (upd H l (.tup ys)))\/(SqT K H p ys/\Q (.ref p) H))
theorem Li:cP X (.type "tuple") (sP X.K):=IG
end
structure Hs(H:Hp)(L:List (Addr×HO))(H':Hp):Prop where
 all:Ia H H'
 at':∀a o,(a,o)∈L->H' a=some o
 nd:(L.map (·.1)).Nodup
 fr:∀a o,(a,o)∈L->H a=none
theorem Hs.start(H:Hp):Hs H [] H:=⟨Ia.refl H,fun _ _ h=>absurd h (by simp),by simp,fun _ _ h=>absurd h (by simp)⟩
theorem Hs.new{H H':Hp}{L:List (Addr×HO)}{a:Addr}(h:Hs H L H')(n:H' a=none)(o:HO):Hs H (L++[(a,o)]) (upd H' a o) where
 all:=h.all.trans (ao n o)
 at':=fun b u hm=>by
  rcases DX.mp hm with z|z
  ·exact ao n o _ _ (h.at' b u z)
  ·have e:(b,u)=(a,o):=by simpa using z
   cases e;exact af
 nd:=by
  rw[Ef,Fp];refine⟨h.nd,by simp,fun x hx y hy=>?_⟩;have ey:y=a:=by simpa using hy
  subst ey;obtain⟨⟨b,u⟩,hb,e⟩:=Em.mp hx;cases e;exact aU (h.at' b u hb) n
 fr:=fun b u hm=>by
  rcases DX.mp hm with z|z
  ·exact h.fr b u z
  ·have e:(b,u)=(a,o):=by simpa using z
   cases e;exact h.all.free n
theorem Hs.get{H H':Hp}{L:List (Addr×HO)}{a:Addr}{o:HO}(h:Hs H L H')(i:Nat)(e:L[i]?=some (a,o):=by rfl):H' a=some o:=h.at' a o (Ea e)
theorem Hs.ne{H H':Hp}{L:List (Addr×HO)}{a b:Addr}{o u:HO}(h:Hs H L H')(i j:Nat)(ij:i≠j)(e:L[i]?=some (a,o):=by rfl)(f:L[j]?=some (b,u):=by rfl):a≠b:=fun z=>by
 have e1:(L.map (·.1))[i]?=some a:=by rw[DY,e];rfl
 have f1:(L.map (·.1))[j]?=some b:=by rw[DY,f];rfl
 rw[z] at e1;obtain⟨hi,e2⟩:=DU.mp e1;obtain⟨hj,f2⟩:=DU.mp f1;exact ij ((FZ h.nd).mp (e2.trans f2.symm))
theorem Hs.put{H H':Hp}{L:List (Addr×HO)}{a:Addr}{o:HO}(h:Hs H L H')(i:Nat)(o':HO)(e:L[i]?=some (a,o):=by rfl):Hs H (L.set i (a,o')) (upd H' a o') where
 all:=fun b u q=>by
  have ha:=h.fr a o (Ea e);rw[au (aU q ha)];exact h.all b u q
 at':=fun b u hm=>by
  obtain⟨j,ej⟩:=FH hm;by_cases hj:i=j
  ·subst hj;have hi:=(DU.mp e).1;rw[FL hi] at ej;cases ej;exact af
  ·rw[Fx hj] at ej;rw[au (HI (h.ne i j hj e ej))];exact h.at' b u (Ea ej)
 nd:=by
  have:(L.set i (a,o')).map (·.1)=L.map (·.1):=by
   apply List.ext_getElem?;intro j;rw[DY,DY];by_cases hj:i=j
   ·subst hj;have hi:=(DU.mp e).1;rw[FL hi,e];rfl
   ·rw[Fx hj]
  rw[this];exact h.nd
 fr:=fun b u hm=>by
  obtain⟨j,ej⟩:=FH hm;by_cases hj:i=j
  ·subst hj;have hi:=(DU.mp e).1;rw[FL hi] at ej;cases ej;exact h.fr a o (Ea e)
  ·rw[Fx hj] at ej;exact h.fr b u (Ea ej)
theorem Hs.mono{H H' H'':Hp}{L:List (Addr×HO)}(h:Hs H L H')(s:Ia H' H''):Hs H L H'':=⟨h.all.trans s,fun a o m=>s _ _ (h.at' a o m),h.nd,h.fr⟩
def uG {α:Type}(xs:List α)(lo hi:Option Int):List α:=(xs.drop (HT.sIx xs.length 0 lo)).take (HT.sIx xs.length xs.length hi-HT.sIx xs.length 0 lo)
theorem xp(lo hi:Option Int)(n:Nat):Builtin.Str.strSliceIndices lo hi 1 n=(List.range (HT.sIx n n hi-HT.sIx n 0 lo)).map fun k=>HT.sIx n 0 lo+k:=by
 have clipA:∀v:Int,max 0 (min (if v<0 then v+(n:Int) else v) (n:Int))=(((if v<0 then (v+(n:Int)).toNat else min v.toNat n):Nat):Int):=fun v=>by
  split<;>lia
 have key:∀i j:Nat,sliceRange (i:Int) (j:Int) 1=(List.range (j-i)).map fun k=>i+k:=fun i j=>by
  unfold sliceRange;simp only[show(1:Int)>0 by decide,if_true];have e:(if (i:Int)<(j:Int) then ((j:Int)-(i:Int)+1-1)/1 else 0).toNat=j-i:=by
   split<;>lia
  rw[e];apply FQ;intro k _;lia
 have lo':(match lo with|none=>(0:Int)|some i=>max 0 (min (if i<0 then i+(n:Int) else i) (n:Int)))=((HT.sIx n 0 lo:Nat):Int):=by
  cases lo with
  |none=>rfl
  |some v=>exact clipA v
 have hi':(match hi with|none=>(n:Int)|some i=>max 0 (min (if i<0 then i+(n:Int) else i) (n:Int)))=((HT.sIx n n hi:Nat):Int):=by
  cases hi with
  |none=>rfl
  |some v=>exact clipA v
 rw[<- key,<- lo',<- hi'];rfl
theorem jM{α:Type}(xs:List α)(i m:Nat)(h:i+m<=xs.length):((List.range m).map fun k=>i+k).filterMap (fun j=>xs[j]?)=(xs.drop i).take m:=by
 induction m with
 |zero=>simp
 |succ m ih=>
  have hm:i+m<xs.length:=by lia
  rw[Fq,Ef,List.filterMap_append,ih (by lia),Eo,List.getElem?_drop,DW hm];simp[hm]
theorem ic(z:Str)(lo hi:Option Int):(Txt.slice z lo hi).cps.toList=uG z.cps.toList lo hi:=by
 have hn:z.length=z.cps.toList.length:=rfl;unfold Txt.slice;have e:=xp lo hi z.length;have h1:=HT.LP z.length 0 (Ec _) lo;have h2:=HT.LP z.length z.length (DP _) hi;rw[e];split
 ·rename_i c;have c':(HT.sIx z.length z.length hi-HT.sIx z.length 0 lo)=z.length:=by
   have:=(Ey _ _▸c).2;simpa using this
  unfold uG;rw[<- hn];have a0:HT.sIx z.length 0 lo=0\/z.length=0:=by lia
  rcases a0 with a0|a0
  ·rw[c',a0,GB];exact(ES (by rw[<- hn];exact DP _)).symm
  ·have:z.cps.toList=[]:=List.length_eq_zero_iff.mp (by rw[<- hn];exact a0);rw[this];simp
 ·show((List.map _ _).filterMap _).toArray.toList=_;unfold uG;rw[<- hn];have e2:(fun j:Nat=>z.cps[j]?)=fun j:Nat=>z.cps.toList[j]?:=by funext j;rw[Fk]
  rw[List.toList_toArray,e2];by_cases hle:HT.sIx z.length 0 lo<=HT.sIx z.length z.length hi
  ·exact jM _ _ _ (by rw[<- hn];lia)
  ·have:HT.sIx z.length z.length hi-HT.sIx z.length 0 lo=0:=by lia
   rw[this];simp
section
variable {X:Cx}
def rSlS:V->Option Int->Option Int->Hp->VK->Prop:=fun x lo hi H Q=>∃z,x=.str z/\z.length<=sizeLine/\Q (.str (Txt.slice z lo hi)) H
theorem KZ:SlR X rSlS:=by
 intro pins s σ H x v vl vu lo hi sl Q I rx hs pl pu q;obtain⟨z,rfl,hz,q⟩:=q;obtain⟨t,rfl⟩:=rx;refine⟨"str",_,PySem.F.slot_str_getitem.lookup,typeIs_str _ _ _,?_⟩;obtain⟨l',e1,e1'⟩:∃l':Option (Int×Tok),vl=partValue l'/\l'.map (·.1)=lo:=by
  cases pl with
  |none=>exact⟨none,rfl,rfl⟩
  |int i t=>exact⟨some (i,t),rfl,rfl⟩
 obtain⟨u',e2,e2'⟩:∃l':Option (Int×Tok),vu=partValue l'/\l'.map (·.1)=hi:=by
  cases pu with
  |none=>exact⟨none,rfl,rfl⟩
  |int i t=>exact⟨some (i,t),rfl,rfl⟩
 subst e1 e2 e1' e2';refine wpAny_getItem_str_slice (l:=l') (u:=u') (st:=none) hs rfl (post_val_or_str ⟨?_,fun t' k=>⟨.str (Txt.slice z (l'.map (·.1)) (u'.map (·.1))),H,I.tok _,⟨_,rfl⟩,q⟩⟩);exact Ee (Txt.slice_le z (l'.map (·.1)) (u'.map (·.1))) hz
def Pq:R2:=fun x y H Q=>∃z n,x=.str z/\y=.int n/\-(2^63)<=n/\n<2^63/\z.length*n.toNat<=16777216/\Q (.str (Txt.mul z n)) H
theorem Kt:OpR X (binaryOp .Mult) Pq:=by
 intro pins s σ H x y v u Q I rx ry h;obtain⟨z,n,rfl,rfl,h0,h1,hz,q⟩:=h;obtain⟨t,rfl⟩:=rx;obtain⟨t',rfl⟩:=ry;refine SB.mul ⟨?_,fun hn _ hc=>?_,fun hn _=>?_⟩ fun tk k=>⟨.str _,H,I.tok _,⟨_,rfl⟩,q⟩
 ·rw[Hu (by lia),Hu (by lia)];rfl
 ·have hn':1<=n:=by lia
  have e:((z.length*n.toNat:Nat):Int)=(z.length:Int)*n:=by
   rw[Int.natCast_mul,HV (by lia)]
  have h3:(z.length:Int)*n<=16777216:=by rw[<- e];lia
  have h4:(z.length:Int)<=(2^63-1)/n:=by
   rw[Int.le_ediv_iff_mul_le (by lia)];lia
  lia
 ·unfold Builtin.Str.tooLong;exact Hu (by rw[sizeLine_eq];lia)
end
theorem lI(a:Array Nat):∀(n:Nat)(acc:Array Nat),((List.replicate n a).foldl (·++·) acc).toList=acc.toList++(List.replicate n a.toList).flatten
 |0,acc=>by simp
 |n+1,acc=>by
  rw[EJ,Fh,lI a n,EJ,ER,Array.toList_append,Ej]
theorem mul_list(z:Str)(n:Int):(Txt.mul z n).cps.toList=(List.replicate n.toNat z.cps.toList).flatten:=by
 unfold Txt.mul;split
 ·have:n.toNat=0:=by lia
  rw[this];rfl
 ·split
  ·rename_i hn c;have c':n=1\/z.length=0:=by simpa using c
   rcases c' with rfl|c'
   ·simp
   ·have:z.cps.toList=[]:=List.length_eq_zero_iff.mp c';rw[this];simp
  ·show((List.replicate n.toNat z.cps).foldl (·++·) #[]).toList=_;rw[lI];simp
section
variable {X:Cx}
theorem LS:∀{ns:List Int}{us:List Value}{i:Nat}{v:Value},Vals (ns.map V.int) us->us[i]?=some v->∃t,v=.int (ns.getD i 0) t
 |[],_,_,_,.nil,e=>by simp at e
 |n::r,_,0,_,.cons h _,e=>by
  simp at e;subst e;obtain⟨t,rfl⟩:=h;exact⟨t,rfl⟩
 |n::r,_,i+1,v,.cons _ t,e=>by
  obtain⟨tk,q⟩:=LS (i:=i) (v:=v) t (by simpa using e);exact⟨tk,by simpa using q⟩
theorem Inv.Mi{pins:List (Addr×Obj)}{σ:St}{H:Hp}{s:Shared}{h':Heap}{tk:Nat}{o:Obj}(I:Inv X pins σ H s)(hk:∀b u,b∉[s.heap.objs.size]->(s.heap.push o).get? b=some u->h'.get? b=some u):Inv X pins σ H {s with heap:=h',toks:=tk}:=by
 have I1:Inv X pins σ H {s with heap:=s.heap.push o,toks:=s.toks}:=I.kept fun b o e=>HJ _ e;refine Inv.turned (s:={s with heap:=s.heap.push o,toks:=s.toks}) (it:=s.heap.objs.size) I1 (fun b o hb e=>hk b o (by simpa using hb) e) (I.hok.fresh (DP _)) (Fy I.lt) (.inr (Heap.get?_none_of_le I.sz)) (fun x c e z=>?_) fun p hp z=>?_
 ·obtain⟨v,o,ho,_⟩:=I.cell x c e;rw[z] at ho;exact absurd (Hz ho) (Er _)
 ·have:=(I.pin p hp).1;rw[z] at this;exact absurd (Hz this) (Er _)
end
def zj (_ j:Int):Prop:=0<j/\j<1000000000000000000000000000000000
theorem sE{X:Cx}:OpR X (binaryOp .FloorDiv) (rI zj fun i j=>.int (i/j)):=opI fun i j _ _ _ _ _ hc q=>by
 have h1:(0:Int)<j:=hc.1;have h2:j<1000000000000000000000000000000000:=hc.2;refine floordiv_int (by lia) (by rw[Gc i (by lia)];exact q) (.inl (PyProof.noPylong_of_log2 ?_));refine DT ((GA (by lia)).mpr (show j.natAbs<2^111 by lia)) (by decide)
def vN (P:Program)(w:World)(K:W.Frag)(a:Addr)(kvs:List (Key×V)):Prop:=∀h:Heap,K.In h->(a==sysModules)=false/\∃vs,KV kvs vs/\h.DictOf (aM P w) a vs
def xh (a:Addr)(kvs:List (Key×V))(td ty:TE):TE:=fun σ H Q=>td σ H fun x H1=>ty σ H1 fun y H2=>∃k v,x=.ref a/\y=kV k/\bg kvs k=some v/\Q v H2
section
variable {X:Cx}{o i:Expr}{pos:Pos}{td ty:TE}{a:Addr}{kvs:List (Key×V)}
theorem kP(M:vN X.prog X.w X.K a kvs)(ho:PE X o td)(hi:PE X i ty)(hs:zI i):PE X (.Subscript o i pos) (xh a kvs td ty):=by
 intro pins s σ H Q I h;refine nG PySem.F.slot_dict_getitem.lookup hs (thn (ho pins s σ H _ I h) fun u s1 hq66=>?_);obtain⟨x,H1,I1,rx,q1⟩:=hq66;refine thn (hi pins s1 σ H1 _ I1 q1) fun iv s2 ⟨y,H2,I2,ry,k,v,ex,ey,l,q2⟩=>?_;subst ex ey;obtain rfl:u=Value.ref a:=rx;obtain⟨_,vs,rel,dd⟩:=M s2.heap I2.kIn;obtain⟨w',hw,rw'⟩:=Ku.some_of (v:=v) (o:=valueAt vs k) (by rw[<- l];exact rel.val k);exact⟨dd.typeIs,wpAny_getItem_of (gh ry) dd.mapOf hw ⟨v,H2,I2.tok _,rw',q2⟩⟩
end
theorem eh{M:Model}{A:Around}{E:Value->Shared->Prop}{s:Shared}{pos:Pos}{id:String}{first:List Value}{args:List (Bool×Sem Value)}{keywords:List (Option Str×Sem Value)}{Q:Value->Shared->Prop}
  (hplain:(args.any (·.1)||keywords.any (·.1.isNone))=false)
  (h:wpAny M A (evalArgs (.builtin id) true args keywords) (fun a s₁=>wpAny M A (call (.builtin id) (first++a.pos) a.kw) Q E s₁) E s) :
  wpAny M A (callWith pos (.builtin id) first args keywords) Q E s:=by
 unfold callWith;refine Hm (Hw (Hv h (fun a s₁ h₁=>Hm (wpAny_standAt ?_)) fun _ _ x=>x));simp only[hplain];refine Hm (Hn ?_);exact Hm (Hv h₁ (fun r s₂ hr=>Hm (Hw (wpAny_point (Hn hr)))) fun _ _ x=>x)
def xJ (X:Cx)(f:Value)(ks:List Str)(r:List V->List V->Hp->VK->Prop):Prop:=
 ∀(pins:List (Addr×Obj))(s:Shared)(σ:St)(H:Hp)(xs zs:List V)(us ws:List Value)(Q:VK),Inv X pins σ H s->Vals xs us->Vals zs ws->r xs zs H Q ->
  (wq X) (call f us (ks.zip ws)) (EP X pins σ Q) X.xe s
def tCBK (r:List V->List V->Hp->VK->Prop)(t tk:TA):TE:=fun σ H Q=>t σ H fun vs H1=>tk σ H1 fun zs H2=>r vs zs H2 Q
theorem pB{X:Cx}{x:Str}{p pos:Pos}{e:Expr}{es:List Expr}{kws:List Keyword}{t tk:TA}{id:String}{ks:List Str}{r:List V->List V->Hp->VK->Prop}(hc:xJ X (.builtin id) ks r)(hg:Gl X x)(hm:X.mg x=none)(hv:bootBuiltins x=some (.builtin id))(ha:PA X (e::es) t)(hkw:PK X kws tk)
  (hall:(backToKw pos (keywordEach kws X.env)).all (·.1.isSome)=true:=by rfl)(hks:(backToKw pos (keywordEach kws X.env)).filterMap (·.1)=ks:=by rfl)
  (hn:x≠"__name__":=by decide)(hdb:(x==("__debug__":Str))=false:=by decide)(he:starEach (e::es) X.env=(false,eval e X.env)::starEach es X.env:=by rfl)
  (hpl:((backTo pos (starEach (e::es) X.env)).any (·.1)||(backToKw pos (keywordEach kws X.env)).any (·.1.isNone))=false:=by rfl):PE X (.Call (.Name x p) (e::es) kws pos) (tCBK r t tk):=by
 intro pins s σ H Q I h;refine wpAny_Call_Name_kw (cX I hg hm hv ?_ hn hdb);refine eh hpl ?_;have hA:=ha pos pins s σ H _ I h;rw[he] at hA ⊢;refine evalArgs_kw hall (thn hA fun us s1 hq67=>?_);obtain⟨vs,H1,I1,r1,q1⟩:=hq67;refine thn (hkw pos pins s1 σ H1 _ I1 q1) fun ws s2 hq68=>?_;obtain⟨zs,H2,I2,rz,q2⟩:=hq68;rw[hks];exact hc pins s2 σ H2 vs zs us ws Q I2 r1 rz q2
end L2
namespace L2
open PySem PySem.Spec PyProof.Rows SeqAt
theorem cy{K:W.Frag}{H:Hp}:∀ns:List Int,DatAll K H (ns.map V.int) (ns.map PyData.int)
 |[]=>.nil
 |n::r=>.cons (.int n) (cy r)
theorem Ja:∀ns:List Int,PyData.canLayAll0 (ns.map PyData.int)=true
 |[]=>rfl
 |n::r=>by
  show((PyData.int n).canLay0&&PyData.canLayAll0 (r.map PyData.int))=true;rw[Ja r];rfl
theorem fV(ns:List Int):(PyData.list (ns.map PyData.int)).canLay0=true:=Ja ns
section
variable {X:Cx}{pins:List (Addr×Obj)}{σ:St}{H:Hp}{s:Shared}
theorem eW{α:Type}(f:α->Addr):∀{xs:List α}{us:List Value},Vals (xs.map fun x=>V.ref (f x)) us->us=xs.map fun x=>Value.ref (f x)
 |[],_,.nil=>rfl
 |x::xs,_,.cons r t=>by cases r;rw[eW f t];rfl
end
section
variable {X:Cx}{pins:List (Addr×Obj)}{σ:St}
theorem ID.turn{t':Nat}{H:Hp}{s:Shared}{it:Addr}{h':Heap}(f:ID X pins H it)(I:Inv X pins σ H s)(k:∀b o,b≠it->s.heap.get? b=some o->h'.get? b=some o):Inv X pins σ H {s with heap:=h',toks:=t'}:=
 I.turned k f.1 f.2.1 f.2.2.2.1 f.2.2.2.2.1 f.2.2.2.2.2
end
end L2
namespace L2
open PySem PySem.Spec PyProof.Rows
theorem jy(n:Nat):sliceRange ((n:Int)-1) (-1) (-1)=(List.range n).map fun k=>n-1-k:=by
 unfold sliceRange;simp only[show ¬((-1:Int)>0) by decide,if_false];have e:(if (n:Int)-1 > -1 then ((n:Int)-1 - -1 - -1-1)/(- -1) else 0).toNat=n:=by
  split
  ·have:((n:Int)-1 - -1 - -1-1)/(- -1)=n:=by
    rw[show(- -1:Int)=1 by decide,Int.ediv_one];lia
   rw[this];rfl
  ·have:n=0:=by lia
   subst this;rfl
 rw[e];apply FQ;intro k hk;have:=Es.mp hk;lia
theorem fT{α β:Type}{f g:α->Option β}:∀{l:List α},(∀x∈l,f x=g x)->l.filterMap f=l.filterMap g
 |[],_=>rfl
 |a::l,h=>by rw[FY,FY,h a (.head _),fT fun x hx=>h x (.tail _ hx)]
theorem kH{α:Type}(xs:List α):((List.range xs.length).map fun k=>xs.length-1-k).filterMap (fun j=>xs[j]?)=xs.reverse:=by
 have h:=jM xs.reverse 0 xs.length (by simp);rw[GB,ES (by simp)] at h;rw[<- h,GJ,GJ];apply fT;intro k hk;have hk':=Es.mp hk;show xs[xs.length-1-k]?=xs.reverse[0+k]?;rw[Nat.zero_add,List.getElem?_reverse hk']
section
variable {X:Cx}
def RvR (X:Cx)(r:V->Hp->VK->Prop):Prop:=
 ∀(pins:List (Addr×Obj))(s:Shared)(σ:St)(H:Hp)(x:V)(v:Value)(t:Tok)(sl:Addr)(Q:VK),Inv X pins σ H s->RelV x v->s.heap.IsSliceOf sl .none .none (.int (-1) t)->r x H Q ->
  ∃T id,typeLookup (.type T) "__getitem__"=pure (some (.builtin id))/\s.TypeIs v T/\(wq X) (getItem v (.ref sl)) (EP X pins σ Q) X.xe s
def tRv (r:V->Hp->VK->Prop)(te ts:TE):TE:=fun σ H Q=>te σ H fun x H1=>ts σ H1 fun y H2=>y=.int (-1)/\r x H2 Q
theorem sY{e st:Expr}{te ts:TE}{pos p2:Pos}{r:V->Hp->VK->Prop}(hr:RvR X r)(he:PE X e te)(hst:PE X st ts):PE X (.Subscript e (.Slice none none (some st) p2) pos) (tRv r te ts):=by
 intro pins s σ H Q I h;refine Subscript_ (thn (he pins s σ H _ I h) fun v s1 hq69=>?_);obtain⟨x,H1,I1,r1,q1⟩:=hq69;refine wpAny_Slice ?_;rw[evalPart_none];refine Hn (Hn ?_);rw[evalPart_some];refine thn (hst pins s1 σ H1 _ I1 q1) fun vs s3 hq70=>?_;obtain⟨y,H3,I3,ry,ey,q3⟩:=hq70;subst ey;obtain⟨t,rfl⟩:=ry;have I4:Inv X pins σ H3 {s3 with heap:=s3.heap.push {cls:=.type "slice",data:=.fields #[.none,.none,.int (-1) t]}}:=I3.kept (t':=s3.toks) fun b ob q=>HJ _ q;obtain⟨T,id,hT,ht,hg⟩:=hr pins {s3 with heap:=s3.heap.push {cls:=.type "slice",data:=.fields #[.none,.none,.int (-1) t]}} σ H3 x v t s3.heap.objs.size Q I4 r1 (Heap.IsSliceOf.new ..) q3;show (wq X) (subscriptTail e (.Slice none none (some st) p2) v (.ref s3.heap.objs.size)) (EP X pins σ Q) X.xe {s3 with heap:=s3.heap.push {cls:=.type "slice",data:=.fields #[.none,.none,.int (-1) t]}};exact tail_any (ops:=[v,.ref s3.heap.objs.size]) ht hT hg (by with_unfolding_all rfl)
def rRvL (K:W.Frag):V->Hp->VK->Prop:=fun x H Q=>∃a xs,x=.ref a/\SqL K H a xs/\∀p,H p=none->Q (.ref p) (upd H p (.lst xs.reverse))
theorem Np:RvR X (rRvL X.K):=by
 intro pins s σ H x v t sl Q I rx hs h;obtain⟨a,xs,rfl,hx,q⟩:=h;cases rx;obtain⟨its,r,ht,hz⟩:=I.list hx;have hlen:=r.length;refine⟨"list",_,slot_list_getitem.lookup,ht.isList.typeIs,?_⟩;refine wpAny_getItem_list_slice ht.isList hs .none .none (.int (-1) t) (by decide) ?_ (by rw[Ed]<;>lia);have e:slicePick its.toArray none none (some (-1))=its.reverse.toArray:=by
  unfold slicePick;show((sliceRange ((its.toArray.size:Int)-1) (-1) (-1)).filterMap (its.toArray[·]?)).toArray=_;rw[jy,Ed,<- kH its]
  congr 1
  apply fT;intro k _;exact Gk ..
 rw[e];refine⟨.ref s.heap.objs.size,_,I.laid (t':=s.toks) (o:=.lst xs.reverse) (fun b ob q=>HJ _ q) (DP _) ?_,rfl,q _ (I.hok.fresh (DP _))⟩;exact⟨by rw[FS];exact hz,its.reverse,0,r.reverse,HK _ rfl⟩
def Txt.rev(z:Str):Str:=⟨z.cps.toList.reverse.toArray⟩
def rRvS:V->Hp->VK->Prop:=fun x H Q=>∃z,x=.str z/\z.length<=sizeLine/\Q (.str (Txt.rev z)) H
theorem Ov:RvR X rRvS:=by
 intro pins s σ H x v t sl Q I rx hs q;obtain⟨z,rfl,hz,q⟩:=q;obtain⟨t0,rfl⟩:=rx;refine⟨"str",_,PySem.F.slot_str_getitem.lookup,typeIs_str _ _ _,?_⟩;refine wpAny_getItem_str_slice (l:=none) (u:=none) (st:=some (-1,t)) hs rfl ?_;have e:sliceMade z t0 none none (some (-1,t))=.str (Txt.rev z):=by
  unfold sliceMade;rw[Ho (by simp)]
  congr 1
  unfold Txt.rev slicePicked;show Str.mk ((sliceRange ((z.length:Int)-1) (-1) (-1)).filterMap (z.cps[·]?)).toArray=_;rw[jy]
  congr 1
  rw[show z.length=z.cps.toList.length from rfl,<- kH z.cps.toList]
  congr 1
  apply fT;intro k _;exact(Fk ..).symm
 rw[e];refine⟨?_,⟨.str (Txt.rev z),H,I.tok _,⟨_,rfl⟩,q⟩⟩;show(Txt.rev z).cps.size<=sizeLine;unfold Txt.rev;rw[Ed,FS];exact hz
end
def Itd (lo:Int)(n:Nat):It:=⟨fun i _=>i<n,fun i H x H'=>H'=H/\x=.int (lo-i),fun i _=>n<=i⟩
theorem pQ{P:Program}{w:World}{K:PySem.W.Frag}{tg:Expr}(it:Addr)(lo:Int)(n:Nat):Turn P w K tg (Itd lo n) [it] it (fun i h=>IsRangeIter h it (lo+(i:Nat)*(-1)) ((n:Int)-(i:Nat)) (-1)) where
 mem:=by simp
 obj:=fun i h st b hb=>by
  have e:b=it:=by simpa using hb
  subst e
  exact⟨_,st,fun v z=>by
   have z':Data.fields _=Data.cell v:=z
   cases z'⟩
 keep:=fun i h h' st k=>k it (by simp) _ st
 item:=by
  intro X hP hw hK hc i pins s σ H E I hf st hg;subst hP hw hK;obtain⟨f0,f1,f2,f3,f4,f5⟩:=hf it (by simp);have W:=Walks.range (prog:=X.prog) (w:=X.w) (I.ok.hd hc) it lo (-1) n;refine W.item i s _ _ hg st fun v h' tk hv st' kk=>?_;obtain⟨t,rfl⟩:=hv;have I1:Inv X pins σ H {s with heap:=h',toks:=tk}:=I.turned (fun b o hb e=>kk b o (by simpa using hb) e) f0 f1 f3 f4 f5;refine⟨_,rfl,kF (s:={s with heap:=h',toks:=tk}) (n:="range_iterator") st' rfl rfl (by decide) ⟨.int (lo-i),H,I1,⟨t,?_⟩,⟨rfl,rfl⟩,st',fun b hb=>(hf b hb).1⟩⟩;have e:lo+(i:Int) * -1=lo-i:=by lia
  rw[e]
 done:=by
  intro X hP hw hK hc i pins s σ H E I hf st hg;subst hP hw hK;obtain⟨f0,f1,f2,f3,f4,f5⟩:=hf it (by simp);exact wpAny_pyNext_range_end (I.ok.hd hc) st (by have:n<=i:=hg;lia) fun h' eb=>⟨rfl,I.turned (t':=s.toks) (fun b o hb e=>eb b o hb e) f0 f1 f3 f4 f5⟩
 self:=fun _ _ _ _ _ st h=>wpAny_pyIter_rangeiter st h
theorem jP(a b:Int):Builtin.Range.rangeSize a b (-1)=((a-b).toNat:Nat):=by
 unfold Builtin.Range.rangeSize;rw[Ho (by decide),show(- (-1:Int))=1 by decide];split
 ·rw[Int.ediv_one];lia
 ·lia
theorem mO{a b:Int}(h1:-(2^62)<=a)(h2:a<2^62)(h3:-(2^62)<=b)(h4:b<2^62):Builtin.Range.small a b (-1)=true:=by
 unfold Builtin.Range.small;rw[jP];simp only[Builtin.Range.rangeFitsLong,Ey,Bool.or_eq_true,decide_eq_true_eq,HU,show ¬((-1:Int)>0) by decide,if_false];lia
section
variable {X:Cx}{tg:Expr}
theorem uF{pins:List (Addr×Obj)}{σ:St}{H:Hp}{s:Shared}{R:It->Hp->Prop}{E:Value->Shared->Prop}{lo hi:Int}{t u v:Tok}{tk:Nat}(I:Inv X pins σ H s)(h1:-(2^62)<=lo)(h2:lo<2^62)(h3:-(2^62)<=hi)(h4:hi<2^62)
  (q:R (Itd lo (lo-hi).toNat) H):(wq X) (pyIter (.ref s.heap.objs.size)) (PIE X pins σ tg R) E {s with heap:=s.heap.push {cls:=.type "range",data:=.fields #[.int lo t,.int hi u,.int (-1) v]},toks:=tk}:=by
 refine wpAny_pyIter_range (IsRange.new ..) (mO h1 h2 h3 h4) ?_;have I1:Inv X pins σ H {s with heap:=s.heap.push {cls:=.type "range",data:=.fields #[.int lo t,.int hi u,.int (-1) v]},toks:=tk}:=I.kept fun b o e=>HJ _ e
 refine⟨(s.heap.push { cls:=.type "range",data:=.fields #[.int lo t,.int hi u,.int (-1) v] }).objs.size,[(s.heap.push { cls:=.type "range",data:=.fields #[.int lo t,.int hi u,.int (-1) v] }).objs.size],_,_,H,rfl,
  I1.kept (t':=tk) fun b o e=>HJ _ e,pQ _ lo (lo-hi).toNat,?_,fun b hb=>?_,q⟩
 ·have e1:lo+((0:Nat):Int) * -1=lo:=by simp
  have e2:(((lo-hi).toNat:Nat):Int)-((0:Nat):Int)=Builtin.Range.rangeSize lo hi (-1):=by rw[jP];lia
  show IsRangeIter _ _ (lo+((0:Nat):Int) * -1) ((((lo-hi).toNat:Nat):Int)-((0:Nat):Int)) (-1);rw[e1,e2];exact HK _ rfl
 ·have e:b=(s.heap.push {cls:=.type "range",data:=.fields #[.int lo t,.int hi u,.int (-1) v]}).objs.size:=by simpa using hb
  subst e;exact I1.Ma (DP _) (I1.hok.fresh (DP _))
def zQ (ta:TA):TI:=fun σ H R=>ta σ H fun vs H1=>∃i j:Int,vs=[.int i,.int j,.int (-1)]/\(-(2^62)<=i/\i<2^62/\-(2^62)<=j/\j<2^62)/\R (Itd i (i-j).toNat) H1
theorem pA{a b c:Expr}{ta:TA}{p pos:Pos}(hg:Gl X "range")(hm:X.mg "range"=none)(ha:PA X [a,b,c] ta)(hs:starEach [a,b,c] X.env=(false,eval a X.env)::starEach [b,c] X.env:=by rfl)(hs2:(backTo pos (starEach [b,c] X.env)).any (·.1)=false:=by rfl) :
  PI X tg (.Call (.Name "range" p) [a,b,c] [] pos) (zQ ta):=by
 intro pins s σ H R I h;refine Call_ (cX I hg hm boot_range (PyProof.Rows.callWith_type1 (thn (ha pos pins s σ H _ I h) fun us s1 hq71=>?_) hs hs2));obtain⟨vs,H1,I1,r1,q1⟩:=hq71;obtain⟨i,j,e,⟨q1,q2,q3,q4⟩,q⟩:=q1;subst e;cases r1 with
 |cons r rr=>
  cases rr with
  |cons r' rr=>
   cases rr with
   |cons r'' rr=>
    cases rr;obtain⟨t,rfl⟩:=r;obtain⟨t',rfl⟩:=r';obtain⟨t'',rfl⟩:=r'';exact call_range_3 (by decide) (uF I1 q1 q2 q3 q4 q) (Or.inl (PyProof.noPylong_small (by lia)))
end
theorem ve{X:Cx}{pos:Pos}{es:List Expr}{k:Nat}{t:TGs}{n:Nat}(K':W.Frag)(hK:X.K=K')(hc:X.calm=true)(h:PGs X es t)
  (hn:(assignEach es X.env).length=n:=by rfl)(hst:(assignEach es X.env).findIdx? (·.1)=none:=by rfl):PG X (.Tuple es k pos) (Ag K' n t):=by
 subst hK;exact cj hc h hn hst
section
variable {prog:Program}{w:World}{A:Around}{E:Value->Shared->Prop}{s:Shared}
theorem lK{d:Addr}{od:Obj}{es:Array DictEntry}{ep:Nat}{Q:Value->Shared->Prop}(hs:(d==sysModules)=false)(hod:s.heap.get? d=some od)(hc:od.ExactDict)(hdd:od.data=.dict es ep)
  (hQ:Q (.ref s.heap.objs.size) {s with heap:=s.heap.push {cls:=.type "dict_keyiterator",data:=.fields #[.ref d,.int 0 0,.int es.size 0,.int ep 0]}}):wpAny (model prog w) A (pyIter (.ref d)) Q E s:=by
 have hT:s.TypeIs (.ref d) "dict":=⟨od,hod,hc.1⟩
 refine wpAny_pyIter_slot hT F.slot_dict_iter (HQ F.slot_dict_iter hT F.entry_dict_iter ?_ (F.args_dict_iter_1 _));unfold Builtin.«dict.__iter__»;refine Hm ?_;unfold Builtin.Dict.dictSlotNone;refine Hm (wpAny_notOrdered_dict hT ?_);show wpAny _ _ (pure (Value.ref d)) _ _ s;refine Hn ?_;show wpAny _ _ (Builtin.Dict.showsAll d >>= _) _ _ s;unfold Builtin.Dict.showsAll;rw[Ho (by rw[hs];decide)];refine Hm (Hn (Hm (wpAny_dictEntries hod hdd (Hm (wpAny_dictEpoch hod hdd ?_)))));refine Hm (wpAny_newObj_type (Hn ⟨_,rfl,"dict_keyiterator",_,⟨_,HK _ rfl,rfl⟩,F.slot_dict_keyiterator_next.lookup,by simpa [rawInt] using hQ⟩))
theorem kW{it d:Addr}{i ep:Nat}{od:Obj}{es:Array DictEntry}{Q:Option Value->Shared->Prop}(hit:s.heap.IsKeyIter it d i es.size ep)(hod:s.heap.get? d=some od)(hdd:od.data=.dict es ep)(hlt:i<es.size)
  (hQ:∀h',h'.IsKeyIter it d (i+1) es.size ep->Heap.SameBut it s.heap h'->Q (some es[i].key) {s with heap:=h'}):wpAny (model prog w) A (pyNext (.ref it)) Q E s:=by
 obtain⟨o,ho,hc,hd⟩:=id hit;unfold pyNext;refine Hm (HP (wpAny_callSpecial?_slot (name:=Str.ofString "__next__") hit.typeIs F.slot_dict_keyiterator_next (HQ F.slot_dict_keyiterator_next hit.typeIs F.entry_dict_keyiterator_next ?_ (F.args_dict_keyiterator_next_1 _))));refine Hm (Hn (Hm (Hm ?_)));(first|refine Hm (wpAny_typeNameOfWhole_keyiter hit.typeIs (Hn ?_))|refine Hm (wpAny_typeNameOf_keyiter hit.typeIs (Hn ?_)));refine Hm (wpAny_fieldsOf ho hd ?_);have hown:Builtin.Dict_items.ownsTuple "dict_keyiterator"=false:=by decide
 simp only[hown,GP,if_false];show wpAny _ _ (if (Value.ref d==Value.none)=true then _ else _) _ _ s;rw[Ho (show ¬((Value.ref d==Value.none)=true) by intro z;cases z)];refine Hm (Hn (Hm (wpAny_dictEntries hod hdd ?_)));rw[Ho (by simp)];refine Hm (Hn (Hm (wpAny_dictEpoch hod hdd ?_)));rw[Ho (by simp)];refine Hn ?_;simp only[show ¬((i:Int)<0) by lia,if_false,EC,Array.getElem?_eq_getElem hlt];refine Hm ?_
 (first|refine Hm (wpAny_typeNameOfWhole_keyiter hit.typeIs (Hn ?_))|refine Hm (wpAny_typeNameOf_keyiter hit.typeIs (Hn ?_)));refine Hm (wpAny_isOneOf_keyiter hit.typeIs ?_)
 show wpAny _ _ (setField (.ref it) 1 (rawInt ((i:Int)+1)) >>= _) _ _ s;refine Hm (wpAny_setField ho hd (by simp) ?_);have hit2:(s.heap.update it (Obj.mapFields (·.setIfInBounds 1 (rawInt ((i:Int)+1))))).IsKeyIter it d (i+1) es.size ep:=⟨_,Heap.get?_update_self _ ho (Obj.isFreed_of_fields (Obj.data_mapFields hd _)),(Obj.cls_mapFields ..).trans hc,by rw[Obj.data_mapFields hd];simp[rawInt]⟩
 refine Hm (Hw (Hm (wpAny_isOneOf_keyiter (s:={s with heap:=s.heap.update it (Obj.mapFields (·.setIfInBounds 1 (rawInt ((i:Int)+1))))}) hit2.typeIs ?_)));show wpAny _ _ (pure es[i].key) _ _ _;exact Hn (Hn ⟨_,rfl,Hn (hQ _ hit2 (Heap.SameBut.update ..))⟩)
theorem pU{it d:Addr}{i ep:Nat}{od:Obj}{es:Array DictEntry}{Q:Option Value->Shared->Prop}(hh:A.handled=none)(hit:s.heap.IsKeyIter it d i es.size ep)(hod:s.heap.get? d=some od)(hdd:od.data=.dict es ep)(hge:es.size<=i)
  (hQ:∀h',Heap.ExtBut it s.heap h'->Q none {s with heap:=h'}):wpAny (model prog w) A (pyNext (.ref it)) Q E s:=by
 obtain⟨o,ho,hc,hd⟩:=id hit;unfold pyNext;refine Hm (HP (wpAny_callSpecial?_slot (name:=Str.ofString "__next__") hit.typeIs F.slot_dict_keyiterator_next (HQ F.slot_dict_keyiterator_next hit.typeIs F.entry_dict_keyiterator_next ?_ (F.args_dict_keyiterator_next_1 _))));refine Hm (Hn (Hm (Hm ?_)));(first|refine Hm (wpAny_typeNameOfWhole_keyiter hit.typeIs (Hn ?_))|refine Hm (wpAny_typeNameOf_keyiter hit.typeIs (Hn ?_)));refine Hm (wpAny_fieldsOf ho hd ?_);have hown:Builtin.Dict_items.ownsTuple "dict_keyiterator"=false:=by decide
 simp only[hown,GP,if_false];show wpAny _ _ (if (Value.ref d==Value.none)=true then _ else _) _ _ s;rw[Ho (show ¬((Value.ref d==Value.none)=true) by intro z;cases z)];refine Hm (Hn (Hm (wpAny_dictEntries hod hdd ?_)));rw[Ho (by simp)];refine Hm (Hn (Hm (wpAny_dictEpoch hod hdd ?_)));rw[Ho (by simp)];refine Hn ?_;simp only[show ¬((i:Int)<0) by lia,if_false,EC,Array.getElem?_eq_none hge];refine Hm ?_
 (first|refine Hm (wpAny_typeNameOfWhole_keyiter hit.typeIs (Hn ?_))|refine Hm (wpAny_typeNameOf_keyiter hit.typeIs (Hn ?_)));show wpAny _ _ (setField (.ref it) 0 .none >>= _) _ _ s
 refine Hm (wpAny_setField ho hd (by simp) ?_);show wpAny _ _ (newExc (.type "StopIteration") [] >>= _) _ _ _;refine Hm ?_;simp only[newExc,newTuple];refine Hm (wpAny_newObj_type ?_ (by size_fits));refine Hm (m:=firstArgMember _ _) (wpAny_of_eq (a:=Value.none) (by first|rfl|(simp only[firstArgMember];rfl)) ?_);refine wpAny_newObj_type ?_ (by size_fits);simp only[raiseNew];refine Hm (wpAny_handled ?_);rw[show A.in1.handled=none from hh];refine Hm (Hn (wpAny_throw ?_));refine Hm (wpAny_isInstance (T:="StopIteration") (b:=true) ⟨_,HK _ rfl,rfl⟩ isSubtype_stop ?_);exact Hn (hQ _ (((Heap.SameBut.update ..).extBut.push _).push _))
end
section
variable {X:Cx}{pins:List (Addr×Obj)}{σ:St}{H:Hp}{s:Shared}
theorem Inv.freeze{a:Addr}{u:HO}{o:Obj}(I:Inv X pins σ H s)(e:H a=some u)(ho:s.heap.get? a=some o)(nt:∀xs,u≠.tup xs)(nf:∀o' u',u≠.frz o' u')(nb:∀ps,u≠.tbl ps)(no:∀x,u≠.own x):Inv X pins σ (upd H a (.frz o u)) s:=by
 have tu:∀b xs,H b=some (.tup xs)->upd H a (.frz o u) b=some (.tup xs):=fun b xs q=>by
  rw[au (fun z=>by rw[z,e] at q;exact nt xs (HC q))];exact q
 have ow:∀b x,H b=some (.own x)->upd H a (.frz o u) b=some (.own x):=fun b x q=>by
  rw[au (fun z=>by rw[z,e] at q;exact no x (HC q))];exact q
 refine I.un (h':=s.heap) (t':=s.toks) ⟨fun b ob q _ _ _=>q,fun b ob q _ _ _=>⟨ob.slots,q⟩,fun b ob _ n _=>?_,fun b ob q _=>⟨ob,q⟩,tu,fun b ob uu q=>?_,fun b ps q=>⟨#[],?_⟩⟩ fun b ub q=>?_
 ·rw[au (fun z=>by rw[z,e] at n;cases n)];exact n
 ·rw[au (fun z=>by rw[z,e] at q;exact nf ob uu (HC q))];exact q
 ·rw[au (fun z=>by rw[z,e] at q;exact nb ps (HC q)),q];simp
 ·by_cases hb:b=a
  ·subst hb;rw[af] at q;cases q;exact⟨ho,(I.hok b u e).Lf (fun _ _ _ q=>q) (fun c q=>ow c _ q) tu⟩
  ·rw[au hb] at q;exact(I.hok b ub q).Lf (fun _ _ _ q=>q) (fun c q=>ow c _ q) tu
end
def ItT (a:Addr)(o:Obj)(kvs:List (List Key×V)):It:=
 ⟨fun i H=>H a=some (.frz o (.dT kvs))/\i<kvs.length,fun i H x H'=>H'=H/\∃b p,kvs[i]?=some p/\x=.ref b/\H b=some (.tup (p.1.map kV)),fun i H=>H a=some (.frz o (.dT kvs))/\kvs.length<=i⟩
theorem KT.at{H:Hp}:∀{kvs:List (List Key×V)}{xs:List (List Key×Addr×Value)}{i:Nat}{p:List Key×V},KT H kvs xs->kvs[i]?=some p->∃q,xs[i]?=some q/\p.1=q.1/\H q.2.1=some (.tup (p.1.map kV))/\RelV p.2 q.2.2
 |_,_,_,_,.nil,h=>by simp at h
 |_,_,0,_,.cons r _,h=>by simp at h;subst h;exact⟨_,rfl,r⟩
 |_,_,i+1,p,.cons _ t,h=>by
  obtain⟨q,e,r⟩:=KT.at (i:=i) (p:=p) t (by simpa using h);exact⟨q,by simpa using e,r⟩
theorem mS{P:Program}{w:World}{K:W.Frag}{tg:Expr}(a it:Addr)(o:Obj)(kvs:List (List Key×V)):Turn P w K tg (ItT a o kvs) [it] it (fun i h=>∃es ep,o.data=.dict es ep/\es.size=kvs.length/\h.IsKeyIter it a i es.size ep) where
 mem:=by simp
 obj:=fun i h st b hb=>by
  have e:b=it:=by simpa using hb
  subst e;obtain⟨es,ep,_,_,o',e,c,d⟩:=st;exact⟨o',e,fun v z=>by rw[d] at z;cases z⟩
 keep:=fun i h h' st k=>by
  obtain⟨es,ep,e1,e2,st⟩:=st;exact⟨es,ep,e1,e2,st.at fun o e=>k it (by simp) o e⟩
 item:=by
  intro X hP hw hK hc i pins s σ H E I hf st hg;subst hP hw hK;obtain⟨es,ep,hd,hn,st⟩:=st;obtain⟨ha,hi⟩:=hg;obtain⟨hoa,hz,hm,xs,kt,o',es',ep',ho',hc',hd',he',_⟩:=I.hok a _ ha;rw[hoa] at ho';cases ho';rw[hd] at hd';cases hd';have hi':i<es.size:=by lia
  obtain⟨f0,f1,f2,f3,f4,f5⟩:=hf it (by simp);refine kW st hoa hd hi' fun h' st' sb=>?_;have I1:Inv X pins σ H {s with heap:=h'}:=I.turned (t':=s.toks) (fun b o hb e=>(sb.2 b hb).trans e) f0 f1 f3 f4 f5;obtain⟨q,eq,e1,e2,e3⟩:=KT.at kt (DW hi);have ek:es[i].key=.ref q.2.1:=by
   have h1:es.toList[i]?=some es[i]:=by simp[hi']
   rw[he',DY,eq] at h1;have h2:=HC h1;rw[<- h2];rfl
  obtain⟨oi,e,c,d⟩:=id st';rw[ek];exact⟨_,rfl,kF (s:={s with heap:=h'}) e c d (by decide) ⟨.ref q.2.1,H,I1,rfl,⟨rfl,q.2.1,kvs[i],DW hi,rfl,e2⟩,⟨es,ep,hd,hn,st'⟩,fun b hb=>(hf b hb).1⟩⟩
 done:=by
  intro X hP hw hK hc i pins s σ H E I hf st hg;subst hP hw hK;obtain⟨es,ep,hd,hn,st⟩:=st;obtain⟨ha,hi⟩:=hg;obtain⟨hoa,_⟩:=I.hok a _ ha;obtain⟨f0,f1,f2,f3,f4,f5⟩:=hf it (by simp);exact pU (I.ok.hd hc) st hoa hd (by lia) fun h' eb=>⟨rfl,I.turned (t':=s.toks) (fun b o hb e=>eb b o hb e) f0 f1 f3 f4 f5⟩
 self:=fun _ _ _ _ _ st h=>by
  obtain⟨es,ep,_,_,st⟩:=st;exact wpAny_pyIter_keyiter st h
section
variable {X:Cx}{tg:Expr}
def xK (tl:TE):TI:=fun σ H R=>tl σ H fun x H1=>∃a kvs,x=.ref a/\H1 a=some (.dT kvs)/\∀o,R (ItT a o kvs) (upd H1 a (.frz o (.dT kvs)))
theorem su{l:Expr}{tl:TE}(hl:PE X l tl):PI X tg l (xK tl):=by
 intro pins s σ H R I h;refine thn (hl pins s σ H _ I h) fun v s1 hq72=>?_;obtain⟨x,H1,I1,r1,q1⟩:=hq72;obtain⟨a,kvs,e,hd,q⟩:=q1;subst e;cases r1;obtain⟨hz,hm,xs,kt,o,es,ep,ho,hc,hdd,he,_⟩:=I1.hok a _ hd;refine lK hm ho hc hdd ?_;have I2:=I1.freeze hd ho (fun _ z=>by cases z) (fun _ _ z=>by cases z) (fun _ z=>by cases z) (fun _ z=>by cases z);have hn:es.size=kvs.length:=by
  have h1:es.toList.length=xs.length:=by rw[he,DQ]
  rw[EY] at h1;rw[h1];exact(Paired.length kt).symm
 refine⟨s1.heap.objs.size,[s1.heap.objs.size],_,_,upd H1 a (.frz o (.dT kvs)),rfl,I2.kept (t':=s1.toks) fun b o e=>HJ _ e,mS a _ o kvs,⟨es,ep,hdd,hn,_,HK _ rfl,rfl,rfl⟩,fun b hb=>?_,q o⟩;have e:b=s1.heap.objs.size:=by simpa using hb
 subst e;exact I2.Ma (DP _) (I2.hok.fresh (DP _))
end
def zr (_ j:Int):Prop:=j≠0/\j.natAbs<2^8999
theorem iQ{X:Cx}:OpR X (binaryOp .FloorDiv) (rI zr fun i j=>.int (i.fdiv j)):=opI fun i j _ _ _ _ _ hc q=>by
 refine floordiv_int hc.1 q (.inl (PyProof.noPylong_of_log2 ?_));exact DT ((GA (by have:=hc.1;lia)).mpr hc.2) (by decide)
structure Ent where
 k:Str
 t:Tok
 v:Value
 x:V
def Ent.kv(e:Ent):Key×V:=(.inr e.k,e.x)
def Ent.en(w:World)(e:Ent):DictEntry:=⟨PyData.keyHash w.params e.k,.str e.k e.t,e.v⟩
theorem wJ{P:Program}{w:World}{K:W.Frag}{a:Addr}{n:Nat}(es:List Ent)(hn:(es.map (·.k)).Nodup)(hr:∀e∈es,RelV e.x e.v)(ha:(a==sysModules)=false)
  (l:K.lookup a=some ⟨.type "dict",none,.dict (es.map (Ent.en w)).toArray n,#[]⟩):vN P w K a (es.map Ent.kv):=fun h X=>by
 have kv:∀l:List Ent,(∀e∈l,RelV e.x e.v)->KV (l.map Ent.kv) (l.map fun e=>((.inr e.k:Key),e.v)):=fun l=>by
  induction l with
  |nil=>intro _;exact .nil
  |cons e r ih=>intro h;exact .cons ⟨rfl,h e DS⟩ (ih fun x hx=>h x (Eg _ hx))
 have prs:∀l:List Ent,Pairs (aM P w) (l.map (Ent.en w)) (l.map fun e=>((.inr e.k:Key),e.v)):=fun l=>by
  induction l with
  |nil=>exact .nil
  |cons e r ih=>exact .cons (eD P w e.k e.t) rfl ih
 refine⟨ha,es.map fun e=>(.inr e.k,e.v),kv es hr,_,_,_,X _ _ l,⟨rfl,rfl,rfl⟩,rfl,fun d hd=>?_,by simpa using prs es,?_⟩
 ·have hd':d∈es.map (Ent.en w):=by simpa using hd
  obtain⟨e,_,rfl⟩:=Em.mp hd';exact⟨.inr e.k,eD P w e.k e.t,rfl⟩
 ·rw[EL];have:(es.map ((fun p:Key×Value=>p.1) ∘ fun e=>((.inr e.k:Key),e.v)))=(es.map (·.k)).map (fun s=>(.inr s:Key)):=by rw[EL];rfl
  rw[this];unfold List.Nodup at hn ⊢;rw[GQ];exact List.Pairwise.imp (fun h z=>h (by injection z)) hn
section
variable {X:Cx}{a b:Expr}{rest:List Expr}{pos:Pos}{ta tb:TE}
theorem pe(val:Nat->Int):∀k,argBest (fun i j=>decide (val i>val j)) k<=k/\∀j,j<=k->val j<=val (argBest (fun i j=>decide (val i>val j)) k)
 |0=>⟨DP _,fun j hj=>by have:j=0:=(by lia);subst this;exact Int.le_refl _⟩
 |k+1=>by
  obtain⟨h1,h2⟩:=pe val k;show(if decide (val (k+1)>val (argBest _ k))=true then k+1 else argBest _ k)<=k+1/\∀j,j<=k+1->val j<=val (if decide (val (k+1)>val (argBest _ k))=true then k+1 else argBest _ k);by_cases c:val (k+1)>val (argBest (fun i j=>decide (val i>val j)) k)
  ·rw[Hq (Ht c)];refine⟨DP _,fun j hj=>?_⟩;by_cases e:j=k+1
   ·subst e;exact Int.le_refl _
   ·have:=h2 j (by lia);lia
  ·rw[Ho (by rw[Hu c];decide)];refine⟨by lia,fun j hj=>?_⟩;by_cases e:j=k+1
   ·subst e;lia
   ·exact h2 j (by lia)
def yX (K:W.Frag):List V->Hp->VK->Prop:=fun xs H Q=>∃(p:Addr)(ns:List Int),xs=[.ref p]/\SqL K H p (ns.map V.int)/\ns≠[]/\∀m,m∈ns->(∀n∈ns,n<=m)->Q (.int m) H
theorem pb(hc:X.calm=true):cP X (.builtin "max") (yX X.K):=by
 intro pins s σ H xs us Q I r h;obtain⟨p,ns,rfl,hq,hne,q⟩:=h;obtain⟨u,rfl,rx⟩:=fw r;cases rx;obtain⟨its,rv,pl,hz⟩:=I.list hq;have hl:=rv.length;rw[DQ] at hl;have hh:X.A.in1.handled=none:=I.ok.hd hc;obtain⟨ob,ho,hcl,n0,hd⟩:=id pl.isList;have hp:p<s.heap.objs.size:=Hz ho;have it:s.heap.IsList p its.toArray:=pl.isList;refine call_max_walk (wpAny_pyIter_list it ⟨s.heap.objs.size,_,_,_,_,_,fun i j=>decide (ns.getD i 0>ns.getD j 0),rfl,Walks.list hh s.heap.objs.size p (DZ hp) _,⟨⟨_,HK _ rfl,rfl,rfl⟩,it.push _⟩,?_,?_,CmpOf.ints_gt (fun i=>ns.getD i 0) fun i v hv=>LS rv (by rw[Gk] at hv;exact hv),fun v h' tk hv hk=>?_⟩)
 ·intro b hb;show b<(s.heap.push _).objs.size;rw[HR];simp only[Eb,EI,or_false] at hb;rcases hb with e|e
  ·rw[e];exact Fm _
  ·rw[e];exact Fn hp
 ·rw[Ed];cases ns with
  |nil=>exact absurd rfl hne
  |cons _ _=>rw[<- hl];exact Nat.zero_lt_succ _
 ·obtain⟨t,rfl⟩:=LS rv (by rw[Gk] at hv;exact hv);obtain⟨h1,h2⟩:=pe (fun i=>ns.getD i 0) (its.toArray.size-1);have hs:its.toArray.size=ns.length:=by rw[Ed,hl]
  have pos:0<ns.length:=by
   cases ns with
   |nil=>exact absurd rfl hne
   |cons _ _=>exact Nat.zero_lt_succ _
  refine⟨.int _,H,I.Mi hk,⟨_,rfl⟩,q _ ?_ fun n hn=>?_⟩
  ·have hi:argBest (fun i j=>decide (ns.getD i 0>ns.getD j 0)) (its.toArray.size-1)<ns.length:=by lia
   rw[ED,DW hi];exact Ep hi
  ·obtain⟨j,hj,rfl⟩:=FP.mp hn;have:=h2 j (by lia);rw[ED (i:=j),DW hj] at this;exact this
theorem uj{X:Cx}{tg}{l:Expr}{tl:TE}(K':W.Frag)(hK:X.K=K')(hl:PE X l tl):PI X tg l (zY K' tl):=by
 subst hK;exact kY hl
end
theorem lA(s sub:Str)(hi:Nat):∀(l:List Nat)(st:Array Nat×Nat),1<=st.fst.size->(forIn (m:=Id) l st (StrLaws.occBody s sub hi 1)).run.fst=st.fst
 |[],_,_=>rfl
 |a::l,st,h=>by
  have c:¬(((st.fst.size<1/\st.snd<=a)/\a+sub.length<=hi)/\Builtin.Str.subAt s sub a=true):=fun z=>by have:=z.1.1.1;lia
  rw[Fl];unfold StrLaws.occBody;rw[Ho c];exact lA s sub hi l _ h
theorem tF(s sub:Str)(hi:Nat):∀(l:List Nat)(free:Nat),(∀i∈l,free<=i) ->
  (forIn (m:=Id) l ((#[]:Array Nat),free) (StrLaws.occBody s sub hi 1)).run.fst.toList=(l.find? fun i=>decide (i+sub.length<=hi)&&Builtin.Str.subAt s sub i).toList
 |[],_,_=>rfl
 |a::l,free,h=>by
  have ha:=h a DS;rw[Fl,FE];by_cases c:a+sub.length<=hi/\Builtin.Str.subAt s sub a=true
  ·have e:StrLaws.occBody s sub hi 1 a ((#[]:Array Nat),free)=pure (ForInStep.yield (#[a],a+sub.length)):=by
    unfold StrLaws.occBody;rw[Hq ⟨⟨⟨Nat.zero_lt_one,ha⟩,c.1⟩,c.2⟩];rfl
   rw[e,Ht c.1,c.2];show(forIn (m:=Id) l _ (StrLaws.occBody s sub hi 1)).run.fst.toList=_;rw[lA _ _ _ _ (#[a],a+sub.length) (DP 1)];rfl
  ·have e:StrLaws.occBody s sub hi 1 a ((#[]:Array Nat),free)=pure (ForInStep.yield (#[],free)):=by
    unfold StrLaws.occBody;rw[Ho fun z=>c ⟨z.1.2,z.2⟩]
   have c':(decide (a+sub.length<=hi)&&Builtin.Str.subAt s sub a)=false:=by
    cases h1:Builtin.Str.subAt s sub a with
    |false=>rw[GL]
    |true=>rw[Hu fun z=>c ⟨z,h1⟩];rfl
   rw[e,c'];show(forIn (m:=Id) l _ (StrLaws.occBody s sub hi 1)).run.fst.toList=_;exact tF s sub hi l free fun i hi'=>h i (Eg _ hi')
def iH (a b:List Nat):Option Nat:=(List.range (a.length+1)).find? fun i=>decide (i+b.length<=a.length)&&((a.drop i).take b.length==b)
theorem mZ(x y:Str):Builtin.Str.occurrences x y 0 x.length 1=(iH x.cps.toList y.cps.toList).toList:=by
 rw[StrLaws.occ_eq,tF x y x.length _ 0 fun _ _=>Ec _];unfold iH;have hx:x.cps.toList.length=x.length:=rfl;have hy:y.cps.toList.length=y.length:=rfl;rw[hx,hy,Nat.sub_zero,List.range_eq_range']
 congr 2
 funext i
 rw[StrLaws.subAt_eq]
theorem aL{X:Cx}{e:Expr}{te:TE}(h:PE X e te)(hs:starEach [e] X.env=(false,eval e X.env)::starEach [] X.env):PA X [e] (kj te Nz):=@ag _ _ _ _ _ h (Ii _) hs
theorem aP{X:Cx}{r:List V->Hp->VK->Prop}{e:Expr}{te:TE}{p pos:Pos}(hc:cP X (.builtin "len") r)(hg:Gl X "len")(hm:X.mg "len"=none)(h:PE X e te)(hs:starEach [e] X.env=(false,eval e X.env)::starEach [] X.env):PE X (.Call (.Name "len" p) [e] [] pos) (tCB r (kj te Nz)):=@aS _ _ _ _ _ _ _ _ _ hc hg hm Nd (aL h hs) (by decide) (by decide) hs rfl
theorem bz{X:Cx}{k k':Nat}{x:Str}{st:Stmt}{ps:List Str}{d:DD}{sp:Sp}{p pos:Pos}{e:Expr}{es:List Expr}{t:TA}(D:Def X.K X.mg x st ps d)(F:Ic X.prog X.w X.K X.mg X.base CX0 k d.f d.fd ps sp)(hk:k<=k')(hr:Jm k' X.A)(hg:Gl X x)(ha:PA X (e::es) t)(hdb:(x==("__debug__":Str))=false)(he:starEach (e::es) X.env=(false,eval e X.env)::starEach es X.env)(hpl:(backTo pos (starEach es X.env)).any (·.1)=false):PE X (.Call (.Name x p) (e::es) [] pos) (uU sp [] E0 t):=@nF _ _ _ _ _ _ _ _ _ _ _ _ _ _ _ _ (F.mono hk) hr hg D.m D.fn.kp D.b .nil wI ha hdb he hpl
theorem bu{X:Cx}{k k':Nat}{x:Str}{st:Stmt}{ps:List Str}{d:DD}{sp:Sp}{p pos:Pos}{e:Expr}{te:TE}(D:Def X.K X.mg x st ps d)(F:Ic X.prog X.w X.K X.mg X.base CX0 k d.f d.fd ps sp)(hk:k<=k')(hr:Jm k' X.A)(hg:Gl X x)(h:PE X e te)(hs:starEach [e] X.env=(false,eval e X.env)::starEach [] X.env)(hdb:(x==("__debug__":Str))=false):PE X (.Call (.Name x p) [e] [] pos) (uU sp [] E0 (kj te Nz)):=@bz _ _ _ _ _ _ _ _ _ _ _ _ _ D F hk hr hg (aL h hs) hdb hs rfl
theorem nH{X:Cx}{c:Str}{j:Nat}{cp apos cpos:Pos}{e:Expr}{te:TE}(h:PE X e te)(hs:starEach [e] X.env=(false,eval e X.env)::starEach [] X.env)(hfew:((backTo cpos (starEach [e] X.env)).all (fun x=>!x.1)&&(backToKw cpos (keywordEach [] X.env)).all (fun x=>x.1.isSome)&&decide ([e].length+([]:List Keyword).length+(if ([]:List Keyword).isEmpty then 0 else 1)<30))=true)(hline:(apos.endLine==cpos.line)=true):PE X (.Call (.Attribute (.Constant (.str c) j cp) "join" apos) [e] [] cpos) (tBM X.K "str" (wB X.K) (tC (.str c)) (kj te Nz)):=@fG _ _ _ _ _ _ _ _ _ _ _ _ PySem.F.plainAttrs_str PySem.F.slot_str_join PySem.F.type_str_join Nr (bo _) (aL h hs) rfl hfew hline hs rfl
theorem cE{X:Cx}{apos cpos:Pos}{o e:Expr}{to te:TE}(ho:PE X o to)(h:PE X e te)(hs:starEach [e] X.env=(false,eval e X.env)::starEach [] X.env)(hbase:attributeBase o "append" X.env (eval o X.env)=eval o X.env)(hfew:((backTo cpos (starEach [e] X.env)).all (fun x=>!x.1)&&(backToKw cpos (keywordEach [] X.env)).all (fun x=>x.1.isSome)&&decide ([e].length+([]:List Keyword).length+(if ([]:List Keyword).isEmpty then 0 else 1)<30))=true)(hline:(apos.endLine==cpos.line)=true):PE X (.Call (.Attribute o "append" apos) [e] [] cpos) (tBM X.K "list" LC to (kj te Nz)):=@fG _ _ _ _ _ _ _ _ _ _ _ _ HD HF HE Kf ho (aL h hs) hbase hfew hline hs rfl
end L2
local macro_rules|`(tactic|walk_at "s")=>`(tactic|exact⟨rfl,rfl,rfl,by decide +kernel,rfl,by decide +kernel,by decide +kernel⟩)
set_option hygiene false in
local macro_rules|`((fk $k $d $p $s))=>`(Ic P w K mg base CX0 $k ($d).f ($d).fd $p $s)|`((dg $n $i $p $d $k $s))=>`(Def K mg $n (top $i) $p $d/\(fk $k $d $p $s))
set_option hygiene false in
local macro_rules|`(tactic|exists $s)=>`(tactic|(refine D.fn.ok (N:=$s) (by walk_at "s") (fun vs H Q E h=>?_) (fun cdv A outer s H vs Q E hr h=>?_);(focus(repeat obtain⟨_,h⟩:=h);subst_vars;rfl);have hc:=hr.calm;have nd:List.Nodup (α:=Str) $s :=by decide +kernel))
local macro_rules|`(tactic|walk_at "d")=>`(tactic|try dsimp only [bW,Cx.nox,Cx.Iy])
set_option hygiene false in
local macro_rules|`(tactic|walk_at "u")=>`(tactic|exact fun _ _ _ _ _ _ us hl=>by first|(obtain ⟨_,rfl⟩ :=fC hl;rfl)|(obtain⟨_,_,rfl⟩:=jS hl;rfl)|(obtain⟨_,_,_,_,rfl⟩:=len4 hl;rfl)|(obtain⟨_,_,_,rfl⟩:=Ad hl;rfl))
set_option hygiene false in
local macro_rules|`(($n:num))=>`(pv $n)|`((nd $s))=>`(show List.Nodup (α:=Str) $s by decide +kernel)
namespace K3
open PySem
def top (i:Nat):Stmt:=PySem.Challenge.pw_quadwords_k50_whole_moves.main.body.getD i (.Pass ⟨0,0,0,0⟩)
end K3
namespace K3
open PySem PySem.Spec PyProof.Rows L2
abbrev Og:Stmt:=top 43
def JR:Sp:=fun vs H Q _=>∃(p:Addr)(m:Int),vs=[.ref p,.int m]/\Ds H p/\1<=m/\m<1000000000000000000000000000000000/\∀(r:Int)(H':Hp),0<=r->r<m->Dr p H H'->Q (.int r) H'
section
variable {P:Program}{w:World}{K:PySem.W.Frag}{mg:Str->Option Value}{base:Heap}
theorem Mz:HX ["draws","many","found"] ["draws","many"] (av Og):=by walk_at "s"
theorem uC{d:DD}(D:Def K mg "_law_draw" Og ["draws","many"] d):(fk 1 d ["draws","many"] JR):=by
 refine D.fn.ok Mz (fun vs H Q E h=>?_) (fun cdv A outer s H vs Q E hr h=>?_)
 ·obtain⟨p,m,rfl,_⟩:=h;rfl
 obtain⟨p,m,rfl,⟨a,b,c,hp,hb1,hb2,hc1,hc2⟩,hm1,hm2,q⟩:=h;have nd:=Mz.nd;refine⟨_,(ae (br (aB JW (aN HY (0) ah (fun _ _=>rfl)) ah (aD _)) (ae (aw (i:=2) nd rfl (Or.inl rfl) (ay Iz (aN HY (0) ah (fun _ _=>rfl)) (1))) (ae (cx (ay sE (aN HY (0) ah (fun _ _=>rfl)) (1)) (kX (0) ah set_list)) (aq (aH (2))))) HZ) (ae (cx (ay Ij (ay Iz (ay II (aN HY (0) ah (fun _ _=>rfl)) ah) (aN HY (0) ah (fun _ _=>rfl))) ah) (kX (0) ah set_list)) (aq (aH (ay Iz (ay JF (ay Iz (ay II (aN HY (0) ah (fun _ _=>rfl)) (ay Ij (ay JF (aN HY (0) ah (fun _ _=>rfl)) ah) ah)) ah) ah) (1)))))),?_⟩
 walk_at "d"
 have g0:SqL K H p [.int a,.int b,.int c]:=SqL.of hp;refine⟨_,rfl,p,_,0,_,rfl,rfl,g0,rfl,_,_,rfl,rfl,_,rfl,yI (fun h1=>?_) (fun h1=>?_)⟩
 ·refine⟨_,rfl,p,_,0,_,rfl,rfl,g0,rfl,_,rfl,_,_,rfl,rfl,by lia,?_⟩;refine⟨_,rfl,p,_,0,_,rfl,rfl,g0,rfl,_,rfl,_,_,rfl,rfl,⟨by lia,by lia⟩,?_⟩;refine⟨_,rfl,p,_,0,0,rfl,rfl,hp,rfl,?_⟩;refine⟨_,rfl,?_⟩;exact q _ _ (Fs _ (by lia)) (Ft _ (by lia)) (Dr.Ng ⟨hb1,hb2,hc1,hc2⟩)
 ·refine⟨_,rfl,p,_,1,_,rfl,rfl,g0,rfl,_,_,rfl,rfl,.inr ⟨by decide,by decide⟩,?_⟩;refine⟨_,rfl,p,_,2,_,rfl,rfl,g0,rfl,_,_,rfl,rfl,(show(0:Int)<c by lia),_,_,rfl,rfl,?_⟩;refine⟨_,rfl,p,_,1,1,rfl,rfl,hp,rfl,?_⟩;have e0:=Fs (b*69621) (show c≠0 by lia);have e1:=Ft (b*69621) (show(0:Int)<c by lia);have z1:1<=b*69621 % c+1:=by lia
  have z2:b*69621 % c+1<=2147483648:=by lia
  have g1:SqL K (upd H p (.lst [.int a,.int (b*69621 % c+1),.int c])) p [.int a,.int (b*69621 % c+1),.int c]:=SqL.of af;have u0:0<=(b*69621 % c+1)/128:=Int.ediv_nonneg (by lia) (by decide);have u1:(b*69621 % c+1)/128<=16777216:=by lia
  refine⟨_,rfl,p,_,1,_,rfl,rfl,g1,rfl,_,rfl,p,_,1,_,rfl,rfl,g1,rfl,_,_,rfl,rfl,⟨by decide,by decide⟩,_,_,rfl,rfl,_,_,rfl,rfl,.inl ⟨?_,?_⟩,_,_,rfl,rfl,(show(0:Int)<2147483423 by decide),_,_,rfl,rfl,⟨by decide,by decide⟩,_,rfl,_,_,rfl,rfl,(show(0:Int)<m by lia),?_⟩
  ·lia
  ·lia
  exact q _ _ (Fs _ (by lia)) (Ft _ (by lia)) (Dr.Ng ⟨z1,z2,hc1,hc2⟩)
theorem Mm:HX ["thing"] ["thing"] (av (top 20)):=by walk_at "s"
theorem qL{d:DD}(D:Def K mg "is_whole" (top 20) ["thing"] d)(AH:mg "int"=none)(Bs:mg "bool"=none)(Ak:mg "isinstance"=none):(fk 1 d ["thing"] LO):=by
 refine D.fn.ok Mm (fun vs H Q E h=>?_) (fun cdv A outer s H vs Q E hr h=>?_)
 ·obtain⟨v,rfl,_⟩:=h;rfl
 obtain⟨v,rfl,hk,q⟩:=h;refine⟨_,(aq (aH (iq (aS IW rfl Ak Io (ag (0) (ag (fm (v:=.ty "int") rfl AH Lx rfl) Ii))) (oF (sN (aS IW rfl Ak Io (ag (0) (ag (fm (v:=.ty "bool") rfl Bs NB rfl) Ii)))))))),?_⟩
 walk_at "d"
 obtain⟨t1,y1,e1⟩:=hk.as_int (K:=K);obtain⟨t2,y2,e2⟩:=hk.as_bool (K:=K);refine⟨v,rfl,v,.ty "int",t1,_,_,rfl,rfl,y1,e1,_,rfl,?_⟩;cases hb:PH v with
 |true=>
  refine zZ ⟨v,rfl,v,.ty "bool",t2,_,_,rfl,rfl,y2,e2,_,rfl,?_⟩;have z:(!isB v)=JI v:=by cases v<;>first|rfl|(cases hb)
  rw[z];exact q
 |false=>
  refine Ac ?_;have z:false=JI v:=by cases v<;>first|rfl|(cases hb)
  rw[z];exact q
theorem Pb:HX ["thing"] ["thing"] (av (top 21)):=by walk_at "s"
theorem Th.Md{H:Hp}{v:V}{b:Bool}(h:Th H v b):∃t,Ki K H v t/\((W.kitOne K t (.type "tuple")=some false/\b=false)\/(W.kitOne K t (.type "tuple")=some true/\∃a xs,v=.ref a/\H a=some (.tup xs)/\(∀x∈xs,Kn H x)/\b=(xs.length==4&&xs.all JI))):=by
 cases h with
 |non=>exact⟨_,.non,.inl ⟨rfl,rfl⟩⟩
 |bl b=>exact⟨_,.bl b,.inl ⟨rfl,rfl⟩⟩
 |int i=>exact⟨_,.int i,.inl ⟨rfl,rfl⟩⟩
 |str x=>exact⟨_,.str x,.inl ⟨rfl,rfl⟩⟩
 |lst e=>exact⟨_,.lst e,.inl ⟨rfl,rfl⟩⟩
 |tup e k=>exact⟨_,.tup e,.inr ⟨rfl,_,_,rfl,e,k,rfl⟩⟩
theorem aJ{n:Nat}(h:n<=1000000):n<=sizeLine:=Ee h (by rw[sizeLine_eq];decide)
theorem vR{dw d:DD}(Aw:(dg "is_whole" 20 ["thing"] dw 1 LO))(D:Def K mg "is_table" (top 21) ["thing"] d)(Ap:mg "tuple"=none)(Aj:mg "len"=none)(Dx:mg "all"=none)(Ak:mg "isinstance"=none):(fk 2 d ["thing"] JS):=by
 refine D.fn.ok Pb (fun vs H Q E h=>?_) (fun cdv A outer s H vs Q E hr h=>?_)
 ·obtain⟨v,b,rfl,_⟩:=h;rfl
 obtain⟨v,b,rfl,ht,q⟩:=h;have hc:=hr.calm;refine⟨_,(aq (aH (iq (aS IW rfl Ak Io (ag (0) (ag (fm (v:=.ty "tuple") rfl Ap Jf rfl) Ii))) (iq (cu IX (aS HW rfl Aj Nd (ag (0) Ii)) ah (aD _)) (oF (aS (qC hc) rfl Dx NU (ag (bB hc (aA (ts:=["number"]) (cap:=[]) (js:=[]) rfl rfl rfl rfl rfl rfl (by decide +kernel)) (kY (0)) (fun _ _ _ _=>ar (i:=0) (nd ["number"]) rfl (Or.inl rfl) (.inr rfl)) (fun _ _ _ _=>aX) (fun _ _ _ _=>(nF (Aw.2.mono (by decide)) hr rfl Aw.1.m Aw.1.fn.kp Aw.1.b .nil wI (ag (0) Ii)))) Ii))))))),?_⟩
 walk_at "d"
 obtain⟨t1,y1,e1⟩:=Th.Md (K:=K) ht;rcases e1 with ⟨e1,eb⟩|⟨e1,a,xs,ev,ea,hk,eb⟩
 ·refine⟨v,rfl,v,.ty "tuple",t1,_,_,rfl,rfl,y1,e1,_,rfl,Ac ?_⟩;rw[eb] at q;exact q H (Ia.refl H)
 ·subst ev;refine⟨_,rfl,.ref a,.ty "tuple",t1,_,_,rfl,rfl,y1,e1,_,rfl,zZ ?_⟩;refine⟨_,rfl,a,xs,rfl,.inr (SqT.of ea),rfl,_,rfl,yI (fun h1=>?_) (fun h1=>?_)⟩
  ·have l4:xs.length=4:=by
    have z:=Hy h1;injection z with z;lia
   refine⟨_,rfl,a,rfl,⟨xs,SqT.of ea⟩,?_⟩;refine yU (K:=K) (xs:=xs) (fun i ys H'=>H'=H/\ys=((xs.take i).map JI).map V.bl) ⟨rfl,by simp⟩ (fun i ys H' hi z=>?_) (aJ (by lia)) (fun i ys H' hi z=>by rw[z.1];exact SqT.of ea) (fun i x ys H' hx z=>?_) (fun ys H' z p hp=>?_)
   ·rw[z.2];simp;lia
   ·obtain⟨rfl,rfl⟩:=z;have hi:i<xs.length:=(DU.mp hx).1;refine⟨x,rfl,x,rfl,hk x (Ea hx),Nx.mk hi ⟨rfl,?_⟩⟩;rw[Eo,hx,Ef,Ef];rfl
   ·obtain⟨rfl,rfl⟩:=z;refine⟨p,(xs.map JI),rfl,?_,?_⟩
    ·rw[Ez];exact SqL.of af
    ·have z:((xs.map JI).all id)=b:=by
      rw[eb,l4];simp[List.all_map]
     rw[z];exact q _ (ao hp _)
  ·have z:b=false:=by
    rw[eb];cases hb:(xs.length==4) with
    |false=>rfl
    |true=>exact absurd (Ht (congrArg (fun n:Nat=>V.int (n:Int)) (by simpa using hb))) h1
   rw[z] at q;exact q H (Ia.refl H)
def sL (K:W.Frag):Sp:=fun vs H Q _=>∃u v s t n m,vs=[u,v]/\T4 K H u s/\T4 K H v t/\Bd n s/\Bd m t/\n<=1048576/\m<=1048576/\∀r H',Ia H H'->T4o H' r (s.mul t)->Q r H'
def oQ (K:W.Frag):Sp:=fun vs H Q _=>∃u t n,vs=[u]/\T4 K H u t/\Bd n t/\n<=1048576/\Q (.int t.worth) H
theorem rX{d:DD}(D:Def K mg "worth" (top 22) ["table"] d):(fk 1 d ["table"] (oQ K)):=by
 exists["table","a","b","c","d"]
 obtain⟨u,t,n,rfl,⟨p,rfl,hp⟩,ht,hn,q⟩:=h;refine⟨_,(ae (cx (0) (cj hc (ax (ar (i:=1) nd rfl (Or.inl rfl)) (ax (ar (i:=2) nd rfl (Or.inl rfl)) (ax (ar (i:=3) nd rfl (Or.inl rfl)) (ax (ar (i:=4) nd rfl (Or.inl rfl)) Ip)))))) (aq (aH (ay IC (ay bP (1) (4)) (ay bP (2) (3)))))),?_⟩
 walk_at "d"
 refine⟨_,rfl,p,_,rfl,hp,rfl,_,_,rfl,_,_,rfl,_,_,rfl,_,_,rfl,rfl,?_⟩;refine⟨_,rfl,_,rfl,_,_,rfl,rfl,ht.a.big ht.d hn hn,_,rfl,_,rfl,_,_,rfl,rfl,ht.b.big ht.c hn hn,_,_,rfl,rfl,?_⟩;exact q
theorem qP{d:DD}(D:Def K mg "_law_times" (top 52) ["one","other"] d)(Ai:mg "range"=none)(Ap:mg "tuple"=none):(fk 1 d ["one","other"] (sL K)):=by
 exists["one","other","found","row","column","top"]
 obtain⟨u,v,s,t,n,m,rfl,⟨p,rfl,hp⟩,⟨r,rfl,hr'⟩,hs,ht,hn,hm,q⟩:=h;refine⟨_,(ae (aw (i:=2) nd rfl (Or.inl rfl) (aY Ii)) (ae (bE PassesOwn.never hc (kY (bh (ag ah (ag ah Ii)))) (ar (i:=3) nd rfl (Or.inl rfl)) (aq (bE PassesOwn.never hc (bA rfl Ai (ag ah Ii)) (ar (i:=4) nd rfl (Or.inl rfl)) (ae (aw (i:=5) nd rfl (Or.inl rfl) (ay bP (aN Il (0) (3) (fun _ _=>rfl)) (aN Il (1) (4) (fun _ _=>rfl)))) (aq (aV (fG HD HF HE Kf (2) (ag (ay Ij (5) (ay bP (aN Il (0) (ay Ij (3) ah) (fun _ _=>rfl)) (aN Il (1) (ay Ij ah (4)) (fun _ _=>rfl)))) Ii)))))))) (aq (aH (bS IG rfl Ap Jf (ag (2) Ii)))))),?_⟩
 walk_at "d"
 refine⟨aJ (by show 0<=1000000;decide),fun f hf=>?_⟩;refine⟨aJ (by show 2<=1000000;decide),fun w hw=>⟨w,rfl,⟨_,SqT.of af⟩,?_⟩⟩;have S0:Ia H (upd H f (.lst [])):=ao hf _;have S1:Ia H (upd (upd H f (.lst [])) w (.tup [.int 0,.int 2])):=S0.trans (ao hw _);have nfw:f≠w:=aU (H:=upd H f (.lst [])) af hw;have keep:∀{H':Hp}(l:List V),Ia H H'->H' w=some (.tup [.int 0,.int 2])->Ia H (upd H' f (.lst l))/\upd H' f (.lst l) f=some (.lst l)/\upd H' f (.lst l) w=some (.tup [.int 0,.int 2]):=fun {H'} l e1 e2=>
  ⟨fun b o e=>by rw[au (aU e hf)];exact e1 b o e,af,by rw[au (HI nfw)];exact e2⟩
 refine oS (K:=K) (xs:=[.int 0,.int 2]) (fun i σ H'=>∃o1 o2 o3,σ=[some (.ref p),some (.ref r),some (.ref f),o1,o2,o3]/\Ia H H'/\H' f=some (.lst ((s.mul t).vs.take (2*i)))/\H' w=some (.tup [.int 0,.int 2]))
  ⟨none,none,none,rfl,S1,by rw[au nfw];exact af,af⟩ (fun i σ H' hi z=>by obtain⟨_,_,_,_,_,_,e⟩:=z;exact SqT.of e) (fun i x σ H' hx z=>?_) (fun σ H' z=>?_)
 ·obtain⟨o1,o2,o3,rfl,e1,e2,e3⟩:=z;have hi:i<2:=(DU.mp hx).1;refine⟨2,rfl,by decide,by decide,?_⟩;refine bH (lo:=0) (n:=2) (fun j σ H'=>∃o2 o3,σ=[some (.ref p),some (.ref r),some (.ref f),some x,o2,o3]/\Ia H H'/\H' f=some (.lst ((s.mul t).vs.take (2*i+j)))/\H' w=some (.tup [.int 0,.int 2]))
   ⟨o2,o3,rfl,e1,e2,e3⟩ (fun j σ H' hj z=>?_) (fun σ H' z=>?_)
  ·obtain⟨o2,o3,rfl,e1,e2,e3⟩:=z;have hp':=e1.Pn hp;have hr'':=e1.Pn hr';have fct:∃(ri α β γ δ:Int),x=.int ri/\atI s.vs ri=some (.int α)/\atI s.vs (ri+1)=some (.int β)/\atI t.vs (0+(j:Int))=some (.int γ)/\atI t.vs (2+(0+(j:Int)))=some (.int δ)/\yL α γ/\yL β δ /\
     (s.mul t).vs.take (2*i+(j+1))=(s.mul t).vs.take (2*i+j)++[.int (α * γ+β * δ)]:=by
    have two:∀k:Nat,k<2->k=0\/k=1:=fun k hk=>by lia
    rcases two i hi with rfl|rfl<;>rcases two j hj with rfl|rfl<;>(cases hx)
    ·exact⟨0,s.a,s.b,t.a,t.c,rfl,rfl,rfl,rfl,rfl,hs.a.big ht.a hn hm,hs.b.big ht.c hn hm,rfl⟩
    ·exact⟨0,s.a,s.b,t.b,t.d,rfl,rfl,rfl,rfl,rfl,hs.a.big ht.b hn hm,hs.b.big ht.d hn hm,rfl⟩
    ·exact⟨2,s.c,s.d,t.a,t.c,rfl,rfl,rfl,rfl,rfl,hs.c.big ht.a hn hm,hs.d.big ht.c hn hm,rfl⟩
    ·exact⟨2,s.c,s.d,t.b,t.d,rfl,rfl,rfl,rfl,rfl,hs.c.big ht.b hn hm,hs.d.big ht.d hn hm,rfl⟩
   obtain⟨ri,α,β,γ,δ,rfl,A0,A1,B0,B1,c1,c2,tk⟩:=fct;refine⟨_,rfl,_,rfl,p,_,ri,_,rfl,rfl,hp',A0,_,rfl,_,rfl,r,_,_,_,rfl,rfl,hr'',B0,_,_,rfl,rfl,c1,?_⟩;refine⟨_,rfl,.inl ⟨rfl,_,SqL.of e2⟩,_,rfl,_,rfl,_,rfl,_,_,rfl,rfl,p,_,_,_,rfl,rfl,hp',A1,_,rfl,_,rfl,_,_,rfl,rfl,r,_,_,_,rfl,rfl,hr'',B1,_,_,rfl,rfl,c2,_,_,rfl,rfl,?_⟩;have ln:((s.mul t).vs.take (2*i+j)).length<=4:=by rw[Eu];exact Gv _ _
   refine⟨f,_,_,rfl,rfl,e2,Fi ln (DT (show 4<1000000 by decide) (aJ (DP _))),?_⟩;obtain⟨a1,a2,a3⟩:=keep ((s.mul t).vs.take (2*i+j)++[.int (α * γ+β * δ)]) e1 e3;exact⟨_,_,rfl,a1,by rw[tk];exact a2,a3⟩
  ·obtain⟨o2,o3,rfl,e1,e2,e3⟩:=z;exact⟨_,o2,o3,rfl,e1,e2,e3⟩
 ·obtain⟨o1,o2,o3,rfl,e1,e2,e3⟩:=z;refine⟨_,rfl,f,(s.mul t).vs,rfl,.inl ⟨SqL.of e2,fun l hl=>?_⟩⟩;exact q _ _ (e1.trans (ao hl _)) ⟨l,rfl,af⟩
def fK (ts:List Tb):Tb:=ts.foldl Tb.mul Tb.one
inductive TL(K:W.Frag)(H:Hp):List V->List Tb->Prop where
 |nil:TL K H [] []
 |cons {v:V}{t:Tb}{vs:List V}{ts:List Tb}:T4 K H v t->TL K H vs ts->TL K H (v::vs) (t::ts)
theorem TL.length{H:Hp}:∀{vs:List V}{ts:List Tb},TL K H vs ts->vs.length=ts.length
 |_,_,.nil=>rfl
 |_,_,.cons _ r=>by simp[TL.length r]
theorem TL.get{H:Hp}:∀{vs:List V}{ts:List Tb}{i:Nat}{v:V},TL K H vs ts->vs[i]?=some v->∃t,ts[i]?=some t/\T4 K H v t
 |_,_,_,_,.nil,e=>by simp at e
 |_,_,0,_,.cons h _,e=>by simp at e;subst e;exact⟨_,rfl,h⟩
 |_,_,i+1,v,.cons _ r,e=>by
  obtain⟨d,h1,h2⟩:=TL.get (i:=i) (v:=v) r (by simpa using e);exact⟨d,by simpa using h1,h2⟩
theorem iy(ts:List Tb)(t:Tb):fK (ts++[t])=(fK ts).mul t:=by unfold fK;rw[Fu];rfl
theorem mf{n:Nat}:∀{ts:List Tb},(∀t∈ts,Bd n t)->∀i,Bd ((n+1)*i+1) (fK (ts.take i)):=by
 intro ts h i;induction i with
 |zero=>exact(show Bd 1 Tb.one from⟨(by show(1:Int).natAbs<2^1;decide),(by show(0:Int).natAbs<2^1;decide),(by show(0:Int).natAbs<2^1;decide),(by show(1:Int).natAbs<2^1;decide)⟩)
 |succ i ih=>
  by_cases hi:i<ts.length
  ·rw[Eo,DW hi];show Bd _ (fK (ts.take i++[ts[i]]));rw[iy];have z:=ih.mul (h ts[i] (Ep hi));have e:(n+1)*(i+1)+1=(n+1)*i+1+n+1:=by rw[Nat.mul_add];lia
   rw[e];exact z
  ·have e:ts.take (i+1)=ts.take i:=by rw[ES (by lia),ES (by lia)]
   rw[e];exact ih.mono (by rw[Nat.mul_add];lia)
def tS (K:W.Frag):Sp:=fun vs H Q _=>∃l xs ts n,vs=[.ref l]/\SqL K H l xs/\TL K H xs ts/\(∀t∈ts,Bd n t)/\(n+1)*ts.length+1<=1048576/\n<=1048576/\∀r H',Ia H H'->T4o H' r (fK ts)->Q r H'
theorem rC{dp d:DD}(AD:(dg "_law_times" 52 ["one","other"] dp 1 (sL K)))(D:Def K mg "_law_made" (top 53) ["tables"] d):(fk 2 d ["tables"] (tS K)):=by
 exists["tables","found","table"]
 obtain⟨l,xs,ts,n,rfl,hl,ht,hb,hz,hn,q⟩:=h;refine⟨_,(ae (aw 1 (bh (ag (ah _) (ag (ah _) (ag (ah _) (aL (ah _) bI) bI) bI) bI))) (ae (bE (bp (0)) (ar 2) (aq (aw 1 (bz AD.1 AD.2 (ag (1) (aL (2) aC) aC))))) (aq (aH (1))))),?_⟩
 walk_at "d"
 refine⟨aJ (by show 4<=1000000;decide),fun f hf=>?_⟩;refine⟨_,rfl,l,rfl,⟨xs,(ao hf _).seq hl⟩,?_⟩;refine dP (K:=K) (xs:=xs) (fun i σ H'=>∃v o,σ=[some (.ref l),some v,o]/\Ia H H'/\T4o H' v (fK (ts.take i))) ⟨.ref f,none,rfl,ao hf _,⟨f,rfl,af⟩⟩ (fun i σ H' hi z=>by obtain⟨_,_,_,e,_⟩:=z;exact e.seq hl) (fun i x σ H' hx z=>?_) (fun σ H' z=>?_)
 ·obtain⟨v,o,rfl,e1,e2⟩:=z;obtain⟨t,et,h4⟩:=ht.get hx;have hi:i<ts.length:=(DU.mp et).1;have bl:(n+1)*i+1<=1048576:=by
   have:(n+1)*i<=(n+1)*ts.length:=Nat.mul_le_mul_left _ (by lia);lia
  refine⟨_,rfl,_,rfl,v,x,fK (ts.take i),t,(n+1)*i+1,n,rfl,e2.t4,h4.mono e1,mf hb i,hb t (Ea et),bl,hn,fun r H2 S2 h2=>?_⟩;refine⟨r,_,rfl,e1.trans S2,?_⟩;rw[Eo,et];show T4o H2 r (fK (ts.take i++[t]));rw[iy];exact h2
 ·obtain⟨v,o,rfl,e1,e2⟩:=z;refine⟨v,rfl,q v H' e1 ?_⟩;rw[ht.length,Ez] at e2;exact e2
def isLt (c:Nat):Prop:=c=108\/c=114\/c=117\/c=118\/c=85\/c=86
def eF (c:Nat):Tb:=if c=108 then ⟨1,0,1,1⟩ else if c=114 then ⟨1,1,0,1⟩ else if c=117 then ⟨1,2,0,1⟩ else if c=118 then ⟨1,0,2,1⟩ else if c=85 then ⟨1,-2,0,1⟩ else ⟨1,0,-2,1⟩
theorem uA{c:Nat}(h:isLt c):Bd 2 (eF c):=by
 rcases h with rfl|rfl|rfl|rfl|rfl|rfl<;>exact⟨by show _<4;decide,by show _<4;decide,by show _<4;decide,by show _<4;decide⟩
def xi (K:W.Frag):Sp:=fun vs H Q _=>∃z:Str,vs=[.str z]/\z.cps.size<=1000/\(∀c∈z.cps.toList,isLt c)/\∀r H',Ia H H'->T4o H' r (fK (z.cps.toList.map eF))->Q r H'
theorem sk{z:Str}(h:∀c∈z.cps.toList,isLt c):z.cps.all (·<128)=true:=by
 rw[<- GR,EE];intro c hc;rcases h c hc with rfl|rfl|rfl|rfl|rfl|rfl<;>rfl
def adr (t1 t2 t3 t4 t5 t6:Addr)(c:Nat):Addr:=if c=108 then t1 else if c=114 then t2 else if c=117 then t3 else if c=118 then t4 else if c=85 then t5 else t6
def qu (t1 t2 t3 t4 t5 t6:Addr):List (Key×V):=bL (bL [] [(.inr "l",.ref t1),(.inr "r",.ref t2),(.inr "u",.ref t3),(.inr "v",.ref t4)]) (bL [] [(.inr "U",.ref t5),(.inr "V",.ref t6)])
theorem sx(t1 t2 t3 t4 t5 t6:Addr)(c:Nat)(h:isLt c):bg (qu t1 t2 t3 t4 t5 t6) (.inr ⟨#[c]⟩)=some (.ref (adr t1 t2 t3 t4 t5 t6 c)):=by
 rcases h with rfl|rfl|rfl|rfl|rfl|rfl<;>kernel_rfl
theorem sQ{H:Hp}{f:Nat->V}:∀{cs:List Nat},(∀c∈cs,isLt c)->(∀c,isLt c->T4o H (f c) (eF c))->TL K H (cs.map f) (cs.map eF)
 |[],_,_=>.nil
 |c::r,h,g=>.cons (g c (h c DS)).t4 (sQ (fun c hc=>h c (Eg _ hc)) g)
theorem yB{dm d:DD}(Bc:(dg "_law_made" 53 ["tables"] dm 2 (tS K)))(D:Def K mg "_law_of_letters" (top 54) ["word"] d):(fk 3 d ["word"] (xi K)):=by
 exists["word","letters"]
 obtain⟨z,rfl,hz,hl,q⟩:=h;refine⟨_,(ae (ac 1 (fq (bF (bo _) (bh (ag (ah _) (ag (ah _) (ag (ah _) (aL (ah _) bI) bI) bI) bI)) (bF (bo _) (bh (ag (ah _) (ag (ah _) (ag (ah _) (aL (ah _) bI) bI) bI) bI)) (bF (bo _) (bh (ag (ah _) (ag (ah _) (ag (ah _) (aL (ah _) bI) bI) bI) bI)) (bF (bo _) (bh (ag (ah _) (ag (ah _) (ag (ah _) (aL (ah _) bI) bI) bI) bI)) (fh _))))) (by simp))) (ae (aV (fG PySem.F.plainAttrs_dict PySem.F.slot_dict_update PySem.F.type_dict_update Ls (1) (aL (fq (bF (bo _) (bh (ag (ah _) (ag (hZ IZ (ah _)) (ag (ah _) (aL (ah _) bI) bI) (by rfl)) bI)) (bF (bo _) (bh (ag (ah _) (ag (ah _) (ag (hZ IZ (ah _)) (aL (ah _) bI) (by rfl)) bI) bI)) (fh _))) (by simp)) (by rfl)))) (aq (aH (bu Bc.1 Bc.2 (bB (aA (ts:=["letter"]) (cap:=["letters"]) (js:=[1]) rfl rfl rfl rfl rfl rfl (by decide +kernel)) (gQ (0)) (am 0 (nd ["letter","letters"])) (@aX _) (bC (bK hr) (1) (0))) (by rfl)))))),?_⟩
 walk_at "d"
 have l4:(4:Nat)<=sizeLine:=aJ (by decide);refine fun d hd=>?_;refine⟨l4,fun t1 h1=>⟨l4,fun t2 h2=>⟨l4,fun t3 h3=>⟨l4,fun t4 h4=>?_⟩⟩⟩⟩;have F4:=((((Hs.start H).new hd (.dK [])).new h1 (.tup (Tb.mk 1 0 1 1).vs)).new h2 (.tup (Tb.mk 1 1 0 1).vs)).new h3 (.tup (Tb.mk 1 2 0 1).vs) |>.new h4 (.tup (Tb.mk 1 0 2 1).vs);refine⟨F4.get 0,[(.inr "l",.ref t1),(.inr "r",.ref t2),(.inr "u",.ref t3),(.inr "v",.ref t4)],rfl,GC rfl,?_⟩;have F5:=F4.put 0 (.dK (bL [] [(.inr "l",.ref t1),(.inr "r",.ref t2),(.inr "u",.ref t3),(.inr "v",.ref t4)]));refine⟨_,rfl,.inr (.inr (.inl ⟨rfl,.inl ⟨_,af⟩⟩)),fun e he=>?_⟩;refine⟨_,rfl,l4,fun t5 h5=>⟨_,rfl,l4,fun t6 h6=>?_⟩⟩;have F8:=((F5.new he (.dK [])).new h5 (.tup (Tb.mk 1 (-2) 0 1).vs)).new h6 (.tup (Tb.mk 1 0 (-2) 1).vs);refine⟨F8.get 5,[(.inr "U",.ref t5),(.inr "V",.ref t6)],rfl,GC rfl,?_⟩;have F9:=F8.put 5 (.dK (bL [] [(.inr "U",.ref t5),(.inr "V",.ref t6)]));refine⟨d,e,_,_,rfl,rfl,F9.ne 0 5 (by decide),F9.get 0,F9.get 5,aJ (by show 6<=1000000;decide),?_⟩;have FA:=F9.put 0 (.dK (qu t1 t2 t3 t4 t5 t6));refine⟨_,rfl,z,rfl,sk hl,?_⟩;have okc:∀c,isLt c->bg (qu t1 t2 t3 t4 t5 t6) (.inr ⟨#[c]⟩)=some (.ref (adr t1 t2 t3 t4 t5 t6 c)):=sx t1 t2 t3 t4 t5 t6;have okt:∀c,isLt c->T4o _ (.ref (adr t1 t2 t3 t4 t5 t6 c)) (eF c):=fun c h=>by
  rcases h with rfl|rfl|rfl|rfl|rfl|rfl
  ·exact⟨_,rfl,FA.get 1⟩
  ·exact⟨_,rfl,FA.get 2⟩
  ·exact⟨_,rfl,FA.get 3⟩
  ·exact⟨_,rfl,FA.get 4⟩
  ·exact⟨_,rfl,FA.get 6⟩
  ·exact⟨_,rfl,FA.get 7⟩
 have gd:=FA.get 0;have all:=FA.all;refine uJ (z:=z) (fun i ys H'=>H'=_/\ys=(z.cps.toList.take i).map fun c=>V.ref (adr t1 t2 t3 t4 t5 t6 c)) ⟨rfl,rfl⟩ (fun i ys H' hi y=>by rw[y.2,DQ,Eu];lia) (aJ (by lia)) (fun i c ys H' hc y=>?_) (fun ys H' y p hp=>?_)
 ·obtain⟨rfl,rfl⟩:=y;have hi:i<z.cps.size:=(Hh.mp hc).1;have hc':z.cps.toList[i]?=some c:=by rw[Fk];exact hc
  have lc:=hl c (Ea hc');refine⟨_,rfl,_,rfl,d,.ref (adr t1 t2 t3 t4 t5 t6 c),rfl,?_,Nx.mk hi ⟨rfl,?_⟩⟩
  ·have:=IE.k (k:=Sum.inr ⟨#[c]⟩) gd;rw[okc c lc] at this;exact this
  ·rw[Eo,hc',Ef];rfl
 ·obtain⟨rfl,rfl⟩:=y;have e1:z.cps.toList.take z.cps.size=z.cps.toList:=ES (by rw[EY];exact DP _);rw[e1];refine⟨p,_,z.cps.toList.map eF,2,rfl,SqL.of af,sQ hl fun c hc=>(okt c hc).mono (ao hp _),fun t ht=>?_,?_,by decide,fun r H' S h4=>q r H' (all.trans ((ao hp _).trans S)) h4⟩
  ·obtain⟨c,hc,rfl⟩:=Em.mp ht;exact uA (hl c hc)
  ·rw[DQ,EY];lia
def pF (K:W.Frag):Sp:=fun vs H Q _=>∃(a:Addr)(ns:List Int)(k:Int),vs=[.ref a,.int k]/\SqL K H a (ns.map V.int)/\0<=k/\k<=100/\∀l H',Ia H H'->H l=none->Ds H' l->Q (.ref l) H'
def JZ:List Int:=[2147483647,2147483629,2147483587,2147483579,2147483563,2147483549,2147483543,2147483497]
def eB (c k:Int):Int:=(c % 2147483423+3*k+1)*(48271+2*k*k) % 2147483423
def sr (c k:Int):Int:=eB c k*eB c k*eB c k % 2147483399+k+1
theorem qV{d:DD}(D:Def K mg "_law_draws" (top 42) ["script","k"] d)(Aj:mg "len"=none)(AH:mg "int"=none):(fk 1 d ["script","k"] (pF K)):=by
 exists["script","k","primes","cell","seed"]
 obtain⟨a,ns,k,rfl,ha,k0,k1,q⟩:=h;obtain⟨tr,hR,qR⟩:∃t,PSs (bW CX0 P w K mg base ["script","k","primes","cell","seed"] "_law_draws" (av (top 42)) d.f cdv A outer s H E).nox ((bV (top 42)).drop 3) t /\
   ∀(c:Int)(p:Addr),H p=none->t {nx:=fun _ H'=>Q .non H',rt:=Q} [some (.ref a),some (.int k),some (.ref p),some (.int c),none] (upd H p (.tup (JZ.map V.int))):=by
  refine⟨_,(ae (aw 4 (ay Iz (ay II (ay Ij (ay Ij (ay Iz (3) (ah _)) (ay II (ah _) (1))) (ah _)) (ay Ij (ah _) (ay II (ay II (ah _) (1)) (1)))) (ah _))) (ae (aw 4 (ay Ij (ay Ij (ay Iz (ay II (ay II (4) (4)) (4)) (ah _)) (1)) (ah _))) (aq (aH (aY (ag (ay II (3) (bS Kc AH Lx (aL (cu Pk (3) (ay KS (ah _) (ah _)) (aD _)) (by rfl)))) (ag (4) (aL (aN Il (2) (ay Iz (1) (ah _))) (by rfl)) aC) (by rfl))))))),fun c p hp=>?_⟩;have c0:=Fs c (show(2147483423:Int)≠0 by decide);have c1:=Ft c (show(0:Int)<2147483423 by decide);refine⟨_,rfl,_,_,rfl,rfl,(show(0:Int)<2147483423 by decide),_,rfl,_,_,rfl,rfl,.inl ⟨by decide,by decide⟩,_,_,rfl,rfl,_,_,rfl,rfl,_,rfl,_,_,rfl,rfl,.inl ⟨by decide,by decide⟩,_,rfl,_,_,rfl,rfl,.inl ⟨by lia,by lia⟩,_,_,rfl,rfl,_,_,rfl,rfl,.inl ⟨by lia,by lia⟩,_,_,rfl,rfl,(show(0:Int)<2147483423 by decide),?_⟩;have z0:0<=eB c k:=Fs _ (by decide);have z1:eB c k<2147483423:=Ft _ (by decide);have zz0:0<=eB c k*eB c k:=Int.mul_nonneg z0 z0;have zz1:eB c k*eB c k<2^64:=Int.lt_of_le_of_lt (Int.mul_le_mul (Int.le_of_lt z1) (Int.le_of_lt z1) z0 (by decide)) (by decide);refine⟨_,rfl,_,rfl,_,_,rfl,rfl,.inl ⟨?_,?_⟩,_,rfl,_,_,rfl,rfl,.inl ⟨?_,?_⟩,_,_,rfl,rfl,(show(0:Int)<2147483399 by decide),_,rfl,_,_,rfl,rfl,_,_,rfl,rfl,?_⟩
  ·exact Int.lt_of_lt_of_le (by decide) z0
  ·exact Int.lt_trans z1 (by decide)
  ·exact Int.lt_of_lt_of_le (by decide) zz0
  ·exact zz1
  have y0:1<=sr c k/\sr c k<=2147483648:=by
   have:=Fs (eB c k*eB c k*eB c k) (show(2147483399:Int)≠0 by decide);have:=Ft (eB c k*eB c k*eB c k) (show(0:Int)<2147483399 by decide);unfold sr;lia
  have g8:0<=k % 8/\k % 8<8:=⟨Fs _ (by decide),Ft _ (by decide)⟩
  have pr:∃r:Int,atI (JZ.map V.int) (k % 8)=some (.int r)/\1000000000<=r/\r<=2147483647:=by
   generalize k % 8=j at g8;have:j=0\/j=1\/j=2\/j=3\/j=4\/j=5\/j=6\/j=7:=by lia
   rcases this with rfl|rfl|rfl|rfl|rfl|rfl|rfl|rfl<;>exact⟨_,rfl,by decide,by decide⟩
  obtain⟨r,er,r0,r1⟩:=pr;refine⟨_,rfl,_,rfl,_,_,rfl,rfl,⟨by decide,by decide,by decide⟩,_,_,rfl,rfl,.inr ⟨_,rfl,_,_,rfl,rfl,.inr ⟨?_,?_⟩,_,rfl,_,rfl,_,rfl,_,_,rfl,rfl,(show(0:Int)<8 by decide),p,_,_,_,rfl,rfl,SqT.of af,er,aJ (by show 3<=1000000;decide),fun l hl=>?_⟩⟩
  ·split<;>decide
  ·split<;>decide
  have S1:=ao hp (.tup (JZ.map V.int));exact q l _ (S1.trans (ao hl _)) (S1.free hl) ⟨_,sr c k,r,af,y0.1,y0.2,r0,r1⟩
 refine⟨_,(ae (aw 2 (bh (ag (ah _) (ag (ah _) (ag (ah _) (ag (ah _) (ag (ah _) (ag (ah _) (ag (ah _) (aL (ah _) bI) bI) bI) bI) bI) bI) bI) bI))) (ae (aw 3 (ay Ij (ay II (ah _) (1)) (ah _))) (ae (br (aB Lh (1) (aP HW Aj (0) aC) (aD _)) (aq (aw 3 (ay Iz (aN HY (0) (1)) (ay bP (ay KS (ah _) (ah _)) (ay KS (ah _) (ah _)))))) (aq (br (aB JW (aP HW Aj (0) aC) (ah _) (aD _)) (aq (aw 3 (ay Ij (ay Iz (aN HY (0) (ay Iz (1) (aP HW Aj (0) aC))) (ay KS (ah _) (ah _))) (ay II (ah _) (1))))) (HZ _)))) hR))),?_⟩
 walk_at "d"
 refine⟨aJ (by show 8<=1000000;decide),fun p hp=>?_⟩;have S1:=ao hp (.tup (JZ.map V.int));have ha1:SqL K (upd H p (.tup (JZ.map V.int))) a (ns.map V.int):=S1.seq ha;have hl:(ns.map V.int).length=ns.length:=DQ _;refine⟨_,rfl,_,_,rfl,rfl,.inl ⟨by decide,by decide⟩,_,_,rfl,rfl,?_⟩;refine⟨_,rfl,_,rfl,a,_,rfl,.inl ha1,_,_,rfl,rfl,_,rfl,yI (fun h1=>?_) (fun h1=>?_)⟩
 ·have h1':k<(((ns.map V.int).length:Nat):Int):=Hy h1;rw[hl] at h1';obtain⟨v,ev⟩:∃v:Int,atI (ns.map V.int) k=some (.int v):=by
   have hk:k.toNat<ns.length:=by lia
   have ek:k=((k.toNat:Nat):Int):=by lia
   have e:=bG (xs:=ns.map V.int) (j:=k.toNat) (v:=.int ns[k.toNat]) (by rw[DY,DW hk];rfl);rw[<- ek] at e;exact⟨ns[k.toNat],e⟩
  refine⟨_,rfl,_,rfl,a,_,_,_,rfl,rfl,ha1,ev,_,_,rfl,rfl,⟨by decide,by decide,by decide⟩,_,_,rfl,rfl,⟨by decide,by decide,by decide⟩,_,_,rfl,rfl,Lt2.big (n:=200) (m:=200) (by show(10^60:Int).natAbs<2^200;decide) (by show(10^60:Int).natAbs<2^200;decide) (by decide) (by decide),_,_,rfl,rfl,(show(0:Int)<10^60*10^60 by decide),?_⟩;exact qR _ p hp
 ·refine⟨_,rfl,a,_,rfl,.inl ha1,_,_,rfl,rfl,_,rfl,yI (fun h2=>?_) (fun h2=>?_)⟩
  ·have h2':(0:Int)<(((ns.map V.int).length:Nat):Int):=Hy h2;rw[hl] at h2';have m0:=Fs k (show(ns.length:Int)≠0 by lia);have m1:=Ft k h2';obtain⟨v,ev⟩:∃v:Int,atI (ns.map V.int) (k % (((ns.map V.int).length:Nat):Int))=some (.int v):=by
    rw[hl];generalize k % (ns.length:Int)=j at m0 m1;have hk:j.toNat<ns.length:=by lia
    have ek:j=((j.toNat:Nat):Int):=by lia
    have e:=bG (xs:=ns.map V.int) (j:=j.toNat) (v:=.int ns[j.toNat]) (by rw[DY,DW hk];rfl);rw[<- ek] at e;exact⟨ns[j.toNat],e⟩
   refine⟨_,rfl,_,rfl,_,rfl,a,_,rfl,.inl ha1,_,_,rfl,rfl,(show(0:Int)<(((ns.map V.int).length:Nat):Int) by rw[hl];exact h2'),a,_,_,_,rfl,rfl,ha1,ev,_,_,rfl,rfl,⟨by decide,by decide,by decide⟩,_,_,rfl,rfl,(show(0:Int)<10^15 by decide),_,rfl,_,_,rfl,rfl,.inl ⟨by decide,by decide⟩,_,_,rfl,rfl,?_⟩;exact qR _ p hp
  ·exact qR _ p hp
end
theorem Tb.ext'{s t:Tb}(h1:s.a=t.a)(h2:s.b=t.b)(h3:s.c=t.c)(h4:s.d=t.d):s=t:=by
 cases s;cases t;simp only at h1 h2 h3 h4;subst h1 h2 h3 h4;rfl
theorem ie(s t u:Tb):(s.mul t).mul u=s.mul (t.mul u):=by
 apply Tb.ext'<;>simp only[Tb.mul]<;>grind
theorem lR(t:Tb):Tb.one.mul t=t:=by
 apply Tb.ext'<;>simp only[Tb.mul,Tb.one]<;>grind
theorem lL(t:Tb):t.mul Tb.one=t:=by
 apply Tb.ext'<;>simp only[Tb.mul,Tb.one]<;>grind
def wt:List Nat->Tb
 |[]=>Tb.one
 |c::r=>(eF c).mul (wt r)
theorem ua(ts:List Tb):∀s:Tb,ts.foldl Tb.mul s=s.mul (ts.foldr Tb.mul Tb.one):=by
 induction ts with
 |nil=>intro s;exact(lL s).symm
 |cons t r ih=>intro s;rw[Fh,ih,List.foldr_cons,ie]
theorem lZ(cs:List Nat):fK (cs.map eF)=wt cs:=by
 unfold fK;rw[ua,lR];induction cs with
 |nil=>rfl
 |cons c r ih=>rw[Ex,List.foldr_cons,ih];rfl
section
variable {P:Program}{w:World}{K:PySem.W.Frag}{mg:Str->Option Value}{base:Heap}
theorem zL{H:Hp}{a:Addr}{t:Tb}(e:H a=some (.tup t.vs)):Th H (.ref a) true:=
 (Th.tup e fun x hx=>by
  unfold Tb.vs at hx;simp only[Eb,EI,or_false] at hx
  rcases hx with rfl | rfl | rfl | rfl <;> exact .int _:Th H (.ref a) (t.vs.length == 4 && t.vs.all JI))
theorem bx{c:Nat}{x:Str}{n:Nat}(hx:x=⟨#[n]⟩):((.inr x:Key)=.inr ⟨#[c]⟩)↔n=c:=by
 subst hx;constructor
 ·intro h;injection h with h;injection h with h;injection h with h;injection h
 ·intro h;rw[h]
theorem el:("l":Str)=⟨#[108]⟩:=by decide +kernel
theorem er:("r":Str)=⟨#[114]⟩:=by decide +kernel
def txt (cs:List Nat):Str:=⟨cs.toArray⟩
abbrev rT(cs:List Nat):List Str:=cs.map fun c=>⟨#[c]⟩
theorem KO:∀(r:List Str)(a:Array Nat),(r.foldl (fun acc p=>acc++("":Str).cps++p.cps) a).toList=a.toList++(r.map (·.cps.toList)).flatten
 |[],a=>by simp
 |x::r,a=>by
  have z:("":Str).cps=#[]:=rfl;rw[Fh,KO r,z];simp
theorem lN(zs:List Str):(Txt.join "" zs).cps.toList=(zs.map (·.cps.toList)).flatten:=by
 cases zs with
 |nil=>rfl
 |cons x r=>exact KO r x.cps
theorem dy{x y:Str}(h:x.cps.toList=y.cps.toList):x=y:=by
 obtain⟨⟨x⟩⟩:=x;obtain⟨⟨y⟩⟩:=y;simp only at h;subst h;rfl
theorem og(cs:List Nat):Txt.join "" (rT cs)=txt cs:=by
 apply dy;rw[lN,EL];show _=cs;induction cs with
 |nil=>rfl
 |cons c r ih=>rw[Ex,ER,ih];rfl
theorem KN:∀(cs:List Nat),((rT cs).map (·.length)).sum=cs.length
 |[]=>rfl
 |c::r=>by
  show 1+((rT r).map (·.length)).sum=r.length+1;rw[KN r];lia
def As (z:Str):Prop:=∀c∈z.cps.toList,c<128
theorem kZ(x y:Str):(x++y).cps.toList=x.cps.toList++y.cps.toList:=by
 show(x.cps++y.cps).toList=_;rw[Array.toList_append]
theorem rY{α:Type}(l:List α)(k:Nat):uG l none (some (k:Int))=l.take k:=by
 unfold uG;rw[HT.ND,HT.KA,GB,Nat.sub_zero];rcases Nat.le_total k l.length with h|h
 ·rw[Nat.min_eq_left h]
 ·rw[Nat.min_eq_right h,ES (DP _),ES h]
theorem d3{r:Int}(h0:0<=r)(h1:r<3):∃c,("- 0":Str).cps[r.toNat]?=some c/\c<128:=by
 have:r=0\/r=1\/r=2:=by lia
 rcases this with rfl|rfl|rfl
 ·exact⟨45,by decide +kernel,by decide⟩
 ·exact⟨32,by decide +kernel,by decide⟩
 ·exact⟨48,by decide +kernel,by decide⟩
theorem four{ns:List Int}{m:Nat}(h:ns.length=4)(hb:∀n∈ns,Lt2 m n):∃t:Tb,ns.map V.int=t.vs/\Bd m t:=by
 match ns,h with
 |[a,b,c,d],_=>exact⟨⟨a,b,c,d⟩,rfl,hb a (by simp),hb b (by simp),hb c (by simp),hb d (by simp)⟩
end
def isW (c:Nat):Prop:=c=117\/c=118\/c=85\/c=86
def bk (c:Nat):Nat:=if c=117 then 85 else if c=118 then 86 else if c=85 then 117 else 118
theorem isW.lt{c:Nat}(h:isW c):isLt c:=by
 rcases h with rfl|rfl|rfl|rfl
 ·exact .inr (.inr (.inl rfl))
 ·exact .inr (.inr (.inr (.inl rfl)))
 ·exact .inr (.inr (.inr (.inr (.inl rfl))))
 ·exact .inr (.inr (.inr (.inr (.inr rfl))))
theorem isW.bk{c:Nat}(h:isW c):isW (bk c):=by
 rcases h with rfl|rfl|rfl|rfl
 ·exact .inr (.inr (.inl rfl))
 ·exact .inr (.inr (.inr rfl))
 ·exact .inl rfl
 ·exact .inr (.inl rfl)
theorem xk{c:Nat}(h:isW c):bk (bk c)=c:=by
 rcases h with rfl|rfl|rfl|rfl<;>rfl
theorem zA{c:Nat}(h:isW c):bk c≠c:=by
 rcases h with rfl|rfl|rfl|rfl<;>decide
theorem pS(t:Tb):(eF 117).mul t=⟨t.a+2*t.c,t.b+2*t.d,t.c,t.d⟩:=by
 apply Tb.ext'<;>simp[Tb.mul,eF]<;>grind
theorem qj(t:Tb):(eF 118).mul t=⟨t.a,t.b,2*t.a+t.c,2*t.b+t.d⟩:=by
 apply Tb.ext'<;>simp[Tb.mul,eF]<;>grind
theorem qi(t:Tb):(eF 85).mul t=⟨t.a-2*t.c,t.b-2*t.d,t.c,t.d⟩:=by
 apply Tb.ext'<;>simp[Tb.mul,eF]<;>grind
theorem oY(t:Tb):(eF 86).mul t=⟨t.a,t.b,t.c-2*t.a,t.d-2*t.b⟩:=by
 apply Tb.ext'<;>simp[Tb.mul,eF]<;>grind
theorem Jt:∀a b:List Nat,wt (a++b)=(wt a).mul (wt b)
 |[],b=>(lR _).symm
 |c::a,b=>by show(eF c).mul (wt (a++b))=_;rw[Jt a b,<- ie];rfl
def Red:List Nat->Prop
 |[]=>True
 |[_]=>True
 |c::d::r=>d≠bk c/\Red (d::r)
theorem Red.tail{c:Nat}{r:List Nat}(h:Red (c::r)):Red r:=by
 cases r with
 |nil=>trivial
 |cons d r=>exact h.2
theorem Red.cons{c:Nat}{r:List Nat}(h:Red r)(n:∀d s,r=d::s->d≠bk c):Red (c::r):=by
 cases r with
 |nil=>trivial
 |cons d r=>exact⟨n d r rfl,h⟩
theorem Red.JV:∀{a b:List Nat},Red (a++b)->Red b
 |[],_,h=>h
 |_::a,_,h=>Red.JV (a:=a) (Red.tail h)
theorem Red.La:∀{a b:List Nat},Red (a++b)->Red a
 |[],_,_=>trivial
 |[_],_,_=>trivial
 |_::d::a,b,h=>⟨h.1,Red.La (a:=d::a) h.2⟩
def psh (st:List Nat)(c:Nat):List Nat:=match st with
 |[]=>[c]
 |d::s=>if d=bk c then s else c::d::s
theorem eY(d:Nat)(s:List Nat)(c:Nat):psh (d::s) c=if d=bk c then s else c::d::s:=rfl
def zf (cs:List Nat):List Nat:=cs.foldl psh []
def red (cs:List Nat):List Nat:=(zf cs).reverse
theorem kD{st:List Nat}{c x:Nat}(h:x∈psh st c):x∈st\/x=c:=by
 cases st with
 |nil=>exact .inr (by simpa [psh] using h)
 |cons d s=>
  rw[eY] at h;by_cases e:d=bk c
  ·rw[Hq e] at h;exact .inl (Eg _ h)
  ·rw[Ho e] at h;rcases Eb.mp h with h|h
   ·exact .inr h
   ·exact .inl h
theorem Kw:∀(cs st:List Nat),(∀c∈cs,isW c)->(∀c∈st,isW c)->∀c∈cs.foldl psh st,isW c
 |[],st,_,hs=>hs
 |c::cs,st,h,hs=>Kw cs (psh st c) (fun d hd=>h d (Eg _ hd)) fun x hx=>by
  rcases kD hx with h1|h1
  ·exact hs x h1
  ·rw[h1];exact h c DS
theorem oN{cs:List Nat}(h:∀c∈cs,isW c):∀c∈red cs,isW c:=fun c hc=>Kw cs [] h (fun c h=>by cases h) c (GS.mp hc)
theorem uq{st:List Nat}{c:Nat}(hc:isW c)(hs:∀x∈st,isW x)(h:Red st):Red (psh st c):=by
 cases st with
 |nil=>trivial
 |cons d s=>
  rw[eY];by_cases e:d=bk c
  ·rw[Hq e];exact h.tail
  ·rw[Ho e];exact⟨e,h⟩
theorem KW:∀(cs st:List Nat),(∀c∈cs,isW c)->(∀c∈st,isW c)->Red st->Red (cs.foldl psh st)
 |[],st,_,_,h=>h
 | c::cs,st,h,hs,hr=>KW cs (psh st c) (fun d hd=>h d (Eg _ hd)) (fun x hx=>by
  rcases kD hx with h1|h1
  ·exact hs x h1
  ·rw[h1]; exact h c DS) (uq (h c DS) hs hr)
theorem Red.snoc:∀{a:List Nat}{d:Nat},Red a->(∀s c,a=s++[c]->d≠bk c)->Red (a++[d])
 |[],_,_,_=>trivial
 |[c],d,_,n=>⟨n [] c rfl,trivial⟩
 |c::e::a,d,h,n=>⟨h.1,Red.snoc (a:=e::a) h.2 fun s x hx=>n (c::s) x (by rw[hx];rfl)⟩
theorem vm{c d:Nat}(hc:isW c)(hd:isW d):d=bk c↔c=bk d:=by
 constructor
 ·rintro rfl;exact(xk hc).symm
 ·rintro rfl;exact(xk hd).symm
theorem Red.rev:∀{a:List Nat},(∀c∈a,isW c)->Red a->Red a.reverse
 |[],_,_=>trivial
 |c::a,hw,h=>by
  rw[Fg];refine Red.snoc (Red.rev (fun x hx=>hw x (Eg _ hx)) h.tail) fun s d hs e=>?_;have ha:a=d::s.reverse:=by
   have:=congrArg List.reverse hs
   rwa [List.reverse_reverse,List.reverse_append] at this
  rw[ha] at h hw;exact h.1 ((vm (hw d (by simp)) (hw c (by simp))).mp e)
theorem iM{cs:List Nat}(h:∀c∈cs,isW c):Red (red cs):=by
 have hW:∀c∈zf cs,isW c:=fun c hc=>Kw cs [] h (fun c h=>by cases h) c hc;exact Red.rev hW (KW cs [] h (fun c h=>by cases h) trivial)
theorem uO(st:List Nat)(c:Nat):(psh st c).length<=st.length+1:=by
 cases st with
 |nil=>exact DP _
 |cons d s=>
  rw[eY];by_cases e:d=bk c
  ·rw[Hq e,EA];lia
  ·rw[Ho e];exact DP _
theorem JD:∀(cs st:List Nat),(cs.foldl psh st).length<=st.length+cs.length
 |[],st=>DP _
 |c::cs,st=>by
  have:=JD cs (psh st c);have:=uO st c;rw[Fh,EA];lia
theorem fB(cs:List Nat):(red cs).length<=cs.length:=by
 have:=JD cs [];unfold red zf;rw[FS];simpa using this
def SmS (x y:Int):Prop:=(0<=x/\0<=y)\/(x<=0/\y<=0)
def DfS (x y:Int):Prop:=(0<=x/\y<=0)\/(x<=0/\0<=y)
def Dom (c:Nat)(x y:Int):Prop:=
 (c=117/\y.natAbs<x.natAbs/\SmS x y)\/(c=85/\y.natAbs<x.natAbs/\DfS x y)\/(c=118/\x.natAbs<y.natAbs/\SmS x y)\/(c=86/\x.natAbs<y.natAbs/\DfS x y)
theorem qW{d:Nat}{x y:Int}(h:Dom d x y)(n:d≠85):Dom 117 (x+2*y) y/\x.natAbs<=(x+2*y).natAbs:=by
 have k:y.natAbs<(x+2*y).natAbs/\SmS (x+2*y) y/\x.natAbs<=(x+2*y).natAbs:=by
  rcases h with ⟨_,h,s⟩|⟨e,_⟩|⟨_,h,s⟩|⟨_,h,s⟩
  ·rcases s with s|s<;>exact⟨by lia,by first|exact .inl (by lia)|exact .inr (by lia),by lia⟩
  ·exact absurd e n
  ·rcases s with s|s<;>exact⟨by lia,by first|exact .inl (by lia)|exact .inr (by lia),by lia⟩
  ·rcases s with s|s<;>exact⟨by lia,by first|exact .inl (by lia)|exact .inr (by lia),by lia⟩
 exact⟨.inl ⟨rfl,k.1,k.2.1⟩,k.2.2⟩
theorem oX{d:Nat}{x y:Int}(h:Dom d x y):Dom (if d=117 then 85 else if d=85 then 117 else if d=118 then 86 else 118) x (-y):=by
 have n:∀z:Int,(-z).natAbs=z.natAbs:=Int.natAbs_neg;have s1:SmS x y->DfS x (-y):=fun s=>by rcases s with s|s;exact .inl (by lia);exact .inr (by lia)
 have s2:DfS x y->SmS x (-y):=fun s=>by rcases s with s|s;exact .inl (by lia);exact .inr (by lia)
 rcases h with ⟨rfl,h,s⟩|⟨rfl,h,s⟩|⟨rfl,h,s⟩|⟨rfl,h,s⟩
 ·exact .inr (.inl ⟨rfl,by rw[n];exact h,s1 s⟩)
 ·exact .inl ⟨rfl,by rw[n];exact h,s2 s⟩
 ·exact .inr (.inr (.inr ⟨rfl,by rw[n];exact h,s1 s⟩))
 ·exact .inr (.inr (.inl ⟨rfl,by rw[n];exact h,s2 s⟩))
theorem fR{d:Nat}{x y:Int}(h:Dom d x y):Dom (if d=117 then 118 else if d=118 then 117 else if d=85 then 86 else 85) y x:=by
 have s1:SmS x y->SmS y x:=fun s=>by rcases s with s|s;exact .inl ⟨s.2,s.1⟩;exact .inr ⟨s.2,s.1⟩
 have s2:DfS x y->DfS y x:=fun s=>by rcases s with s|s;exact .inr ⟨s.2,s.1⟩;exact .inl ⟨s.2,s.1⟩
 rcases h with ⟨rfl,h,s⟩|⟨rfl,h,s⟩|⟨rfl,h,s⟩|⟨rfl,h,s⟩
 ·exact .inr (.inr (.inl ⟨rfl,h,s1 s⟩))
 ·exact .inr (.inr (.inr ⟨rfl,h,s2 s⟩))
 ·exact .inl ⟨rfl,h,s1 s⟩
 ·exact .inr (.inl ⟨rfl,h,s2 s⟩)
theorem qh{d:Nat}{x y:Int}(h:Dom d x y):d=117\/d=85\/d=118\/d=86:=by
 rcases h with ⟨h,_⟩|⟨h,_⟩|⟨h,_⟩|⟨h,_⟩
 ·exact .inl h
 ·exact .inr (.inl h)
 ·exact .inr (.inr (.inl h))
 ·exact .inr (.inr (.inr h))
theorem vy{d:Nat}{x y:Int}(h:Dom d x y)(n:d≠117):Dom 85 (x-2*y) y/\x.natAbs<=(x-2*y).natAbs:=by
 have k:=qW (oX h) (by rcases qh h with rfl|rfl|rfl|rfl<;>first|exact absurd rfl n|decide);have e:x+2 * -y=x-2*y:=by lia
 rw[e] at k;have k1:=oX k.1;rw[Int.neg_neg] at k1;exact⟨k1,k.2⟩
theorem xy{d:Nat}{x y:Int}(h:Dom d x y)(n:d≠86):Dom 118 x (2*x+y)/\y.natAbs<=(2*x+y).natAbs:=by
 have k:=qW (fR h) (by rcases qh h with rfl|rfl|rfl|rfl<;>first|exact absurd rfl n|decide);rw[Int.add_comm] at k;exact⟨fR k.1,k.2⟩
theorem xm{d:Nat}{x y:Int}(h:Dom d x y)(n:d≠118):Dom 86 x (y-2*x)/\y.natAbs<=(y-2*x).natAbs:=by
 have k:=vy (fR h) (by rcases qh h with rfl|rfl|rfl|rfl<;>first|exact absurd rfl n|decide);exact⟨fR k.1,k.2⟩
theorem IA:∀{c:Nat}{r:List Nat},(∀x∈c::r,isW x)->Red (c::r)->Dom c (wt (c::r)).a (wt (c::r)).c/\Dom c (wt (c::r)).b (wt (c::r)).d
 |c,[],hW,_=>by
  have e:wt [c]=eF c:=lL _;rw[e];rcases hW c DS with rfl|rfl|rfl|rfl<;>(unfold Dom SmS DfS;simp[eF])
 |c,d::r,hW,h=>by
  obtain⟨i1,i2⟩:=IA (c:=d) (r:=r) (fun x hx=>hW x (Eg _ hx)) h.2;have n:=h.1;show Dom c ((eF c).mul (wt (d::r))).a ((eF c).mul (wt (d::r))).c/\Dom c ((eF c).mul (wt (d::r))).b ((eF c).mul (wt (d::r))).d;rcases hW c DS with rfl|rfl|rfl|rfl
  ·rw[pS];exact⟨(qW i1 n).1,(qW i2 n).1⟩
  ·rw[qj];exact⟨(xy i1 n).1,(xy i2 n).1⟩
  ·rw[qi];exact⟨(vy i1 n).1,(vy i2 n).1⟩
  ·rw[oY];exact⟨(xm i1 n).1,(xm i2 n).1⟩
structure Wide(t:Tb):Prop where
 w:t.a*t.d-t.b*t.c=1
 a:t.a % 4=1
 b:t.b % 2=0
 c:t.c % 2=0
 d:t.d % 4=1
theorem Me:Wide Tb.one:=⟨by decide,by decide,by decide,by decide,by decide⟩
theorem Wide.mul{c:Nat}(hc:isW c){t:Tb}(h:Wide t):Wide ((eF c).mul t):=by
 obtain⟨h1,h2,h3,h4,h5⟩:=h;rcases hc with rfl|rfl|rfl|rfl
 ·rw[pS];exact⟨by show(t.a+2*t.c)*t.d-(t.b+2*t.d)*t.c=1;grind,by show(t.a+2*t.c) % 4=1;lia,by show(t.b+2*t.d) % 2=0;lia,h4,h5⟩
 ·rw[qj];exact⟨by show t.a*(2*t.b+t.d)-t.b*(2*t.a+t.c)=1;grind,h2,h3,by show(2*t.a+t.c) % 2=0;lia,by show(2*t.b+t.d) % 4=1;lia⟩
 ·rw[qi];exact⟨by show(t.a-2*t.c)*t.d-(t.b-2*t.d)*t.c=1;grind,by show(t.a-2*t.c) % 4=1;lia,by show(t.b-2*t.d) % 2=0;lia,h4,h5⟩
 ·rw[oY];exact⟨by show t.a*(t.d-2*t.b)-t.b*(t.c-2*t.a)=1;grind,h2,h3,by show(t.c-2*t.a) % 2=0;lia,by show(t.d-2*t.b) % 4=1;lia⟩
theorem JN:∀{cs:List Nat},(∀c∈cs,isW c)->Wide (wt cs)
 |[],_=>Me
 |c::r,h=>(JN (cs:=r) fun x hx=>h x (Eg _ hx)).mul (h c DS)
def pw (u:Bool)(m:Int):List Nat:=if 0<=m then List.replicate m.toNat (if u then 117 else 118) else List.replicate (-m).toNat (if u then 85 else 86)
def pt (u:Bool)(m:Int):Tb:=if u then ⟨1,2*m,0,1⟩ else ⟨1,0,2*m,1⟩
theorem Ol:∀n:Nat,wt (List.replicate n 117)=⟨1,2*(n:Int),0,1⟩
 |0=>rfl
 |n+1=>by
  rw[EJ];show(eF 117).mul (wt (List.replicate n 117))=_;rw[Ol n,pS];apply Tb.ext'<;>simp<;>lia
theorem OP:∀n:Nat,wt (List.replicate n 85)=⟨1,-(2*(n:Int)),0,1⟩
 |0=>rfl
 |n+1=>by
  rw[EJ];show(eF 85).mul (wt (List.replicate n 85))=_;rw[OP n,qi];apply Tb.ext'<;>simp<;>lia
theorem OM:∀n:Nat,wt (List.replicate n 118)=⟨1,0,2*(n:Int),1⟩
 |0=>rfl
 |n+1=>by
  rw[EJ];show(eF 118).mul (wt (List.replicate n 118))=_;rw[OM n,qj];apply Tb.ext'<;>simp<;>lia
theorem Ow:∀n:Nat,wt (List.replicate n 86)=⟨1,0,-(2*(n:Int)),1⟩
 |0=>rfl
 |n+1=>by
  rw[EJ];show(eF 86).mul (wt (List.replicate n 86))=_;rw[Ow n,oY];apply Tb.ext'<;>simp<;>lia
theorem mz(u:Bool)(m:Int):wt (pw u m)=pt u m:=by
 unfold pw pt;by_cases h:0<=m
 ·rw[Hq h];cases u with
  |true=>show wt (List.replicate m.toNat 117)=(⟨1,2*m,0,1⟩:Tb);rw[Ol];apply Tb.ext'<;>simp<;>lia
  |false=>show wt (List.replicate m.toNat 118)=(⟨1,0,2*m,1⟩:Tb);rw[OM];apply Tb.ext'<;>simp<;>lia
 ·rw[Ho h];cases u with
  |true=>show wt (List.replicate (-m).toNat 85)=(⟨1,2*m,0,1⟩:Tb);rw[OP];apply Tb.ext'<;>simp<;>lia
  |false=>show wt (List.replicate (-m).toNat 86)=(⟨1,0,2*m,1⟩:Tb);rw[Ow];apply Tb.ext'<;>simp<;>lia
theorem iK(m:Int)(t:Tb):(pt true m).mul t=⟨t.a+2*m*t.c,t.b+2*m*t.d,t.c,t.d⟩:=by
 apply Tb.ext'<;>simp[Tb.mul,pt]
theorem iO(m:Int)(t:Tb):(pt false m).mul t=⟨t.a,t.b,2*m*t.a+t.c,2*m*t.b+t.d⟩:=by
 apply Tb.ext'<;>simp[Tb.mul,pt]
theorem jJ(u:Bool)(m:Int):(pw u m).length=m.natAbs:=by
 unfold pw;by_cases h:0<=m
 ·rw[Hq h,EU];lia
 ·rw[Ho h,EU];lia
theorem zS(u:Bool)(m:Int):∀c∈pw u m,isW c:=by
 unfold pw;intro c hc;by_cases h:0<=m
 ·rw[Hq h] at hc;obtain⟨_,rfl⟩:=Fv.mp hc;cases u
  ·exact .inr (.inl rfl)
  ·exact .inl rfl
 ·rw[Ho h] at hc;obtain⟨_,rfl⟩:=Fv.mp hc;cases u
  ·exact .inr (.inr (.inr rfl))
  ·exact .inr (.inr (.inl rfl))
def uK (c:Nat):Bool:=c==117||c==85
theorem Red.rep{c:Nat}(hc:isW c){r:List Nat}(h:Red r)(n:∀d s,r=d::s->d≠bk c):∀k:Nat,Red (List.replicate k c++r)
 |0=>h
 |k+1=>by
  rw[EJ,EV];refine Red.cons (Red.rep hc h n k) fun d s e=>?_;cases k with
  |zero=>exact n d s e
  |succ k=>
   rw[EJ,EV] at e;injection e with e1 _;rw[<- e1];exact HI (zA hc)
theorem sS{u:Bool}{m:Int}{r:List Nat}(hr:Red r)(n:∀d s,r=d::s->uK d=!u):Red (pw u m++r):=by
 unfold pw;by_cases h:0<=m
 ·rw[Hq h];cases u
  ·exact Red.rep (.inr (.inl rfl)) hr (fun d s e z=>by have:=n d s e;rw[z] at this;cases this) _
  ·exact Red.rep (.inl rfl) hr (fun d s e z=>by have:=n d s e;rw[z] at this;cases this) _
 ·rw[Ho h];cases u
  ·exact Red.rep (.inr (.inr (.inr rfl))) hr (fun d s e z=>by have:=n d s e;rw[z] at this;cases this) _
  ·exact Red.rep (.inr (.inr (.inl rfl))) hr (fun d s e z=>by have:=n d s e;rw[z] at this;cases this) _
theorem Lc:∀(c:Nat)(r:List Nat),(∀x∈c::r,isW x)->Red (c::r)->∃k r',c::r=List.replicate (k+1) c++r'/\∀d s,r'=d::s->d≠c/\d≠bk c
 |c,[],_,_=>⟨0,[],rfl,fun d s e=>by cases e⟩
 |c,d::r,hW,h=>by
  by_cases e:d=c
  ·subst e;obtain⟨k,r',e1,e2⟩:=Lc d r (fun x hx=>hW x (Eg _ hx)) h.2;refine⟨k+1,r',?_,e2⟩;rw[e1,EJ (n:=k+1)];rfl
  ·exact⟨0,d::r,rfl,fun x s hx=>by injection hx with h1 _;rw[<- h1];exact⟨e,h.1⟩⟩
theorem oU{c:Nat}{r:List Nat}(hW:∀x∈c::r,isW x)(h:Red (c::r)):∃m r',m≠0/\c::r=pw (uK c) m++r'/\(∀d s,r'=d::s->uK d=!uK c)/\(∀x∈r',isW x)/\Red r':=by
 obtain⟨k,r',e,n⟩:=Lc c r hW h;have hW':∀x∈r',isW x:=fun x hx=>hW x (by rw[e];exact DV _ hx);have hR:Red r':=by rw[e] at h;exact h.JV
 have hn:∀d s,r'=d::s->uK d=!uK c:=fun d s ed=>by
  obtain⟨n1,n2⟩:=n d s ed;have hd:=hW' d (by rw[ed];exact DS);rcases hW c DS with rfl|rfl|rfl|rfl<;>rcases hd with rfl|rfl|rfl|rfl<;>first|rfl|exact absurd rfl n1|exact absurd rfl n2
 rcases hW c DS with rfl|rfl|rfl|rfl
 ·refine⟨(k+1:Nat),r',by lia,?_,hn,hW',hR⟩;rw[e];unfold pw;rw[Hq (by lia),EC];rfl
 ·refine⟨(k+1:Nat),r',by lia,?_,hn,hW',hR⟩;rw[e];unfold pw;rw[Hq (by lia),EC];rfl
 ·refine⟨-((k+1:Nat):Int),r',by lia,?_,hn,hW',hR⟩;rw[e];unfold pw;rw[Ho (by lia),Int.neg_neg,EC];rfl
 ·refine⟨-((k+1:Nat):Int),r',by lia,?_,hn,hW',hR⟩;rw[e];unfold pw;rw[Ho (by lia),Int.neg_neg,EC];rfl
theorem qy{x y m:Int}(h:x.natAbs<y.natAbs):(x+2*m*y+y).fdiv (2*y)=m:=by
 by_cases hy:0<y
 ·rw[Gc _ (by lia),show x+2*m*y+y=(x+y)+m*(2*y) by grind,Int.add_mul_ediv_right _ _ (by lia),Int.ediv_eq_zero_of_lt (by lia) (by lia),EF]
 ·rw[<- Int.neg_fdiv_neg,Gc _ (by lia),show -(x+2*m*y+y)=(-x-y)+m*(-(2*y)) by grind,Int.add_mul_ediv_right _ _ (by lia),Int.ediv_eq_zero_of_lt (by lia) (by lia),EF]
theorem kQ{c:Nat}(h:isW c)(n:uK c=true):c=117\/c=85:=by
 rcases h with rfl|rfl|rfl|rfl
 ·exact .inl rfl
 ·cases n
 ·exact .inr rfl
 ·cases n
theorem lQ{c:Nat}(h:isW c)(n:uK c=false):c=118\/c=86:=by
 rcases h with rfl|rfl|rfl|rfl
 ·cases n
 ·exact .inl rfl
 ·cases n
 ·exact .inr rfl
theorem jB{c:Nat}{x y:Int}(h:Dom c x y)(n:c=117\/c=85):y.natAbs<x.natAbs:=by
 unfold Dom at h;lia
theorem jm{c:Nat}{x y:Int}(h:Dom c x y)(n:c=118\/c=86):x.natAbs<y.natAbs:=by
 unfold Dom at h;lia
theorem ze{m:Int}{r:List Nat}(hm:m≠0)(rW:∀x∈r,isW x)(rR:Red r)(n:∀d s,r=d::s->uK d=false) :
  ((wt (pw true m++r)).c=0/\r=[]/\(wt (pw true m++r)).b.fdiv 2=m/\wt (pw true m++r)=⟨1,2*m,0,1⟩) \/
  ((wt (pw true m++r)).c≠0/\(wt (pw true m++r)).c.natAbs<(wt (pw true m++r)).a.natAbs/\((wt (pw true m++r)).a+(wt (pw true m++r)).c).fdiv (2*(wt (pw true m++r)).c)=m):=by
 have e:wt (pw true m++r)=⟨(wt r).a+2*m*(wt r).c,(wt r).b+2*m*(wt r).d,(wt r).c,(wt r).d⟩:=by rw[Jt,mz,iK]
 cases r with
 |nil=>
  left
  have e2:wt (pw true m++[])=⟨1,2*m,0,1⟩:=by
   rw[e];show(⟨1+2*m*0,0+2*m*1,0,1⟩:Tb)=_;apply Tb.ext'<;>simp
  rw[e2];refine⟨rfl,rfl,?_,rfl⟩;show(2*m).fdiv 2=m;rw[Gc _ (by decide)];lia
 |cons d s=>
  right
  have dm:=jm (IA rW rR).1 (lQ (rW d DS) (n d s rfl));have hR:Red (pw true m++d::s):=sS rR fun d' s' ee=>by injection ee with e1 _;rw[<- e1];exact n d s rfl
  have dm2:(wt (pw true m++d::s)).c.natAbs<(wt (pw true m++d::s)).a.natAbs:=by
   cases q:pw true m with
   |nil=>
    have:=jJ true m;rw[q] at this;simp at this;lia
   |cons x xs=>
    have hx:x∈pw true m:=by rw[q];exact DS
    have hk:x=117\/x=85:=by
     unfold pw at hx;by_cases h:0<=m
     ·rw[Hq h] at hx;exact .inl (Fv.mp hx).2
     ·rw[Ho h] at hx;exact .inr (Fv.mp hx).2
    rw[q] at hR;refine jB (IA (c:=x) (r:=xs++d::s) (fun y hy=>?_) hR).1 hk;rw[<- EV] at hy;rcases DX.mp hy with hy|hy
    ·rw[<- q] at hy;exact zS _ _ y hy
    ·exact rW y hy
  rw[e] at dm2 ⊢;refine⟨by show(wt (d::s)).c≠0;lia,dm2,?_⟩;exact qy dm
theorem zP{m:Int}{r:List Nat}(hm:m≠0)(rW:∀x∈r,isW x)(rR:Red r)(n:∀d s,r=d::s->uK d=true) :
  (wt (pw false m++r)).c≠0/\¬(wt (pw false m++r)).c.natAbs<(wt (pw false m++r)).a.natAbs/\(wt (pw false m++r)).a≠0/\((wt (pw false m++r)).a+(wt (pw false m++r)).c).fdiv (2*(wt (pw false m++r)).a)=m:=by
 have e:wt (pw false m++r)=⟨(wt r).a,(wt r).b,2*m*(wt r).a+(wt r).c,2*m*(wt r).b+(wt r).d⟩:=by rw[Jt,mz,iO]
 have dm:(wt r).c.natAbs<(wt r).a.natAbs:=by
  cases r with
  |nil=>decide
  |cons d s=>exact jB (IA rW rR).1 (kQ (rW d DS) (n d s rfl))
 have hR:Red (pw false m++r):=sS rR n;have dm2:(wt (pw false m++r)).a.natAbs<(wt (pw false m++r)).c.natAbs:=by
  cases q:pw false m with
  |nil=>
   have:=jJ false m;rw[q] at this;simp at this;lia
  |cons x xs=>
   have hx:x∈pw false m:=by rw[q];exact DS
   have hk:x=118\/x=86:=by
    unfold pw at hx;by_cases h:0<=m
    ·rw[Hq h] at hx;exact .inl (Fv.mp hx).2
    ·rw[Ho h] at hx;exact .inr (Fv.mp hx).2
   rw[q] at hR;refine jm (IA (c:=x) (r:=xs++r) (fun y hy=>?_) hR).1 hk;rw[<- EV] at hy;rcases DX.mp hy with hy|hy
   ·rw[<- q] at hy;exact zS _ _ y hy
   ·exact rW y hy
 rw[e] at dm2 ⊢;refine⟨by lia,by lia,by show(wt r).a≠0;lia,?_⟩;have h:=qy (m:=m) dm;rw[show(wt r).a+(2*m*(wt r).a+(wt r).c)=(wt r).c+2*m*(wt r).a+(wt r).a by lia];exact h
section
variable {P:Program}{w:World}{K:PySem.W.Frag}{mg:Str->Option Value}{base:Heap}
theorem sH{α:Type}{xs:List α}{n:Nat}{v:α}(hl:xs.length=n+1)(h:xs[n]?=some v):atI xs (-1)=some v:=by
 have e:ixN xs.length (-1)=some n:=by
  unfold ixN;rw[hl,Ho (by decide),Hq (by lia)]
  congr 1
  lia
 unfold atI;rw[e];exact h
theorem LY:bootBuiltins "abs"=some (.builtin "abs"):=by decide +kernel
abbrev bkv:List (Key×V):=[(.inr "u",.str "U"),(.inr "v",.str "V"),(.inr "U",.str "u"),(.inr "V",.str "v")]
theorem e_u:("u":Str)=⟨#[117]⟩:=by decide +kernel
theorem e_v:("v":Str)=⟨#[118]⟩:=by decide +kernel
theorem e_U:("U":Str)=⟨#[85]⟩:=by decide +kernel
theorem e_V:("V":Str)=⟨#[86]⟩:=by decide +kernel
theorem tP{c:Nat}(h:isW c):bg bkv (.inr ⟨#[c]⟩)=some (.str ⟨#[bk c]⟩):=by
 unfold bkv;rcases h with rfl|rfl|rfl|rfl
 ·rw[aO (e:=(bx e_u).mpr rfl),e_U];rfl
 ·rw[aK (e:=fun z=>absurd ((bx e_u).mp z) (by decide)),aO (e:=(bx e_v).mpr rfl),e_V];rfl
 ·rw[aK (e:=fun z=>absurd ((bx e_u).mp z) (by decide)),aK (e:=fun z=>absurd ((bx e_v).mp z) (by decide)),aO (e:=(bx e_U).mpr rfl),e_u];rfl
 ·rw[aK (e:=fun z=>absurd ((bx e_u).mp z) (by decide)),aK (e:=fun z=>absurd ((bx e_v).mp z) (by decide)),aK (e:=fun z=>absurd ((bx e_U).mp z) (by decide)),aO (e:=(bx e_V).mpr rfl),e_v];rfl
theorem isW.asc{c:Nat}(h:isW c):c<128:=by rcases h with rfl|rfl|rfl|rfl<;>decide
theorem iY{cs:List Nat}(h:∀c∈cs,isW c):(txt cs).cps.all (·<128)=true:=by
 rw[<- GR,EE];intro c hc;exact Ht (h c hc).asc
theorem xA(c d:Nat):decide (V.str ⟨#[c]⟩=V.str ⟨#[d]⟩)=decide (c=d):=decide_eq_decide.mpr ⟨fun h=>by
 injection h with h;injection h with h;injection h with h;injection h,fun h=>by rw[h]⟩
theorem tE(cs:List Nat)(i:Nat):(txt cs).cps[i]?=cs[i]?:=by show cs.toArray[i]?=_;simp
theorem fN{cs:List Nat}{g:TG}{tb:TS}{D:Ends}{σ:L2.St}{H:Hp}(Pv:Nat->L2.St->Hp->Prop)(h0:Pv 0 σ H)
  (hs:∀i (hi:i<cs.length) σ H,Pv i σ H->g (.str ⟨#[cs[i]]⟩) σ H fun σ2 H2=>tb {D with nx:=Pv (i+1),ct:=Pv (i+1),bk:=D.nx} σ2 H2)(hd:∀σ H,Pv cs.length σ H->D.nx σ H) :
  ∃W:Nat->Nat->L2.St->Hp->Prop,(∃m,W 0 m σ H)/\∀i m σ H,W i m σ H ->
   ((Its (txt cs)).stop i H/\D.nx σ H)\/((Its (txt cs)).go i H/\∃N:L2.St->Hp->Prop,(∀σ' H',N σ' H'->∃m',m'<m/\W (i+1) m' σ' H')/\∀x H',(Its (txt cs)).yld i H x H'->g x σ H' fun σ2 H2=>tb {D with nx:=N,ct:=N,bk:=D.nx} σ2 H2):=by
 refine⟨fun i m σ H=>m=cs.length-i/\i<=cs.length/\Pv i σ H,⟨cs.length,by simp,Ec _,h0⟩,?_⟩;rintro i m σ H ⟨rfl,hi,p⟩;by_cases hlt:i<cs.length
 ·refine .inr ⟨hlt,Pv (i+1),fun σ' H' p'=>⟨cs.length-(i+1),by lia,rfl,hlt,p'⟩,fun x H' y=>?_⟩;obtain⟨e,c,hc,rfl⟩:=y;subst e;rw[tE,DW hlt] at hc;cases hc;exact hs i hlt σ _ p
 ·have e:i=cs.length:=by lia
  subst e;exact .inl ⟨DP _,hd σ H p⟩
theorem pW(cs:List Nat)(c:Nat):(rT (cs++[c])).map V.str=(rT cs).map V.str++[.str ⟨#[c]⟩]:=by
 rw[rT,rT,Ef,Ef];rfl
theorem ip{α:Type}{ws:List α}{i:Nat}(h:i<ws.length):ws.take (i+1)=ws.take i++[ws[i]]:=by
 rw[Eo,DW h];rfl
def oR (t:Tb):Bool:=decide (t.worth=1)&&(decide (t.a % 4=1)&&(decide (t.b % 2=0)&&(decide (t.c % 2=0)&&decide (t.d % 4=1))))
theorem Lu{t:Tb}:oR t=true↔Wide t:=by
 unfold oR;rw[Ey,Ey,Ey,Ey,decide_eq_true_iff,decide_eq_true_iff,decide_eq_true_iff,decide_eq_true_iff,decide_eq_true_iff];refine⟨fun hq73=>?_,fun h=>⟨h.w,h.a,h.b,h.c,h.d⟩⟩;obtain⟨h1,h2,h3,h4,h5⟩:=hq73;exact⟨h1,h2,h3,h4,h5⟩
def PR:Sp:=fun vs H Q _=>∃v t n,vs=[v]/\T4o H v t/\Bd n t/\n<=1048576/\∀H',Ia H H'->Q (.bl (oR t)) H'
theorem vV{c:Nat}(h:isW c):Bd 2 (eF c):=by
 rcases h with rfl|rfl|rfl|rfl<;>exact⟨by show Int.natAbs _<4;decide,by show Int.natAbs _<4;decide,by show Int.natAbs _<4;decide,by show Int.natAbs _<4;decide⟩
theorem yt{cs:List Nat}(h:∀c∈cs,isW c):Bd (3*cs.length+1) (wt cs):=by
 have:=mf (n:=2) (ts:=cs.map eF) (fun t ht=>by
  obtain⟨c,hc,rfl⟩:=Em.mp ht
  exact vV (h c hc)) cs.length
 rw[ES (by rw[DQ];exact DP _),lZ] at this;exact this
theorem wu{di dw d:DD}(BA:(dg "is_table" 21 ["thing"] di 2 JS))(AE:(dg "worth" 22 ["table"] dw 1 (oQ K)))(D:Def K mg "is_wide" (top 25) ["table"] d):(fk 3 d ["table"] PR):=by
 exists["table","a","b","c","d"]
 obtain⟨v,t,n,rfl,⟨a,rfl,ha⟩,hb,hn,q⟩:=h;have dI:∀x y:Int,decide (V.int x=V.int y)=decide (x=y):=fun x y=>decide_eq_decide.mpr ⟨fun h=>by injection h,fun h=>by rw[h]⟩;refine⟨_,(ae (br (@PW.pt _ _ _ (ke (gP (fE (bu BA.1 BA.2 (0) aC))) (gB (aB Jp (bu AE.1 AE.2 (0) aC) (ah _) (aD _))))) (aq (aH (iW _))) (HZ _)) (ae (cx (0) (cj (ax (ar 1) (ax (ar 2) (ax (ar 3) (ax (ar 4) (Ip _))))))) (aq (aH (iq (cu IX (ay Iz (1) (ah _)) (ah _) (aD _)) (iq (cu IX (ay Iz (2) (ah _)) (ah _) (aD _)) (iq (cu IX (ay Iz (3) (ah _)) (ah _) (aD _)) (@oF _ _ _ _ _ (cu IX (ay Iz (4) (ah _)) (ah _) (aD _)))))))))),?_⟩
 walk_at "d"
 refine⟨_,rfl,.ref a,true,rfl,zL ha,fun H1 S1=>⟨true,rfl,?_⟩⟩;refine⟨_,rfl,.ref a,t,n,rfl,⟨a,rfl,SqT.of (S1 _ _ ha)⟩,hb,hn,rfl,!decide (t.worth=1),by rw[dI],?_⟩;have z:=q H1 S1;unfold oR at z;cases h1:decide (t.worth=1) with
 |false=>rw[h1] at z;exact z
 |true=>
  rw[h1,Gm] at z;refine⟨_,rfl,a,_,rfl,SqT.of (S1 _ _ ha),rfl,_,_,rfl,_,_,rfl,_,_,rfl,_,_,rfl,rfl,?_⟩;refine⟨_,rfl,_,_,rfl,rfl,(by show(0:Int)<4;decide),rfl,decide (t.a % 4=1),by rw[dI],?_⟩;cases h2:decide (t.a % 4=1) with
  |false=>rw[h2] at z;exact z
  |true=>
   rw[h2,Gm] at z;refine⟨_,rfl,_,_,rfl,rfl,(by show(0:Int)<2;decide),rfl,decide (t.b % 2=0),by rw[dI],?_⟩;cases h3:decide (t.b % 2=0) with
   |false=>rw[h3] at z;exact z
   |true=>
    rw[h3,Gm] at z;refine⟨_,rfl,_,_,rfl,rfl,(by show(0:Int)<2;decide),rfl,decide (t.c % 2=0),by rw[dI],?_⟩;cases h4:decide (t.c % 2=0) with
    |false=>rw[h4] at z;exact z
    |true=>
     rw[h4,Gm] at z;refine⟨_,rfl,_,_,rfl,rfl,(by show(0:Int)<4;decide),rfl,?_⟩;rw[dI];exact z
theorem cI(c:Nat)(n:Int):Txt.mul ⟨#[c]⟩ n=txt (List.replicate n.toNat c):=by
 apply dy;rw[L2.mul_list];show(List.replicate n.toNat [c]).flatten=List.replicate n.toNat c;induction n.toNat with
 |zero=>rfl
 |succ k ih=>rw[EJ,ER,ih,EJ];rfl
def OX:Sp:=fun vs H Q _=>∃(u:Bool)(m:Int),vs=[.str ⟨#[if u then 117 else 118]⟩,.int m]/\-10000<=m/\m<=10000/\Q (.str (txt (pw u m))) H
theorem yu{d:DD}{lb:Addr}(m_lb:mg "LETTER_BACKS"=some (.ref lb))(M_lb:vN P w K lb bkv)(D:Def K mg "power" (top 26) ["letter","many"] d):(fk 1 d ["letter","many"] OX):=by
 exists["letter","many"]
 obtain⟨u,m,rfl,h1,h2,q⟩:=h;have o1:∀c:Nat,(⟨#[c]⟩:Str).length=1:=fun c=>rfl;refine⟨_,(aq (aH (eQ (aB JW (1) (ah _) (aD _)) (ay Kt (0) (1)) (ay Kt (kP M_lb (gH (.ref lb) m_lb rfl) (0)) (hZ IZ (1)))))),?_⟩
 walk_at "d"
 refine⟨_,rfl,_,_,rfl,rfl,decide (m>0),rfl,?_⟩;unfold pw at q;cases hB:decide (m>0) with
 |true=>
  have hB':=Hy hB;refine⟨_,rfl,_,rfl,_,m,rfl,rfl,by lia,by lia,by rw[o1];lia,?_⟩;rw[cI];rw[Hq (by lia)] at q;exact q
 |false=>
  have hB':=of_decide_eq_false hB;have hw:isW (if u=true then 117 else 118):=by
   cases u
   ·exact .inr (.inl rfl)
   ·exact .inl rfl
  refine⟨_,rfl,.inr ⟨#[if u=true then 117 else 118]⟩,_,rfl,rfl,tP hw,_,rfl,m,rfl,_,-m,rfl,rfl,by lia,by lia,by rw[o1];lia,?_⟩;rw[cI];have e:bk (if u=true then 117 else 118)=if u=true then 85 else 86:=by cases u<;>rfl
  rw[e];by_cases z:m=0
  ·subst z;rw[Hq (by decide)] at q;exact q
  ·rw[Ho (by lia)] at q;exact q
theorem xo{c:Bool}{A B:Prop}(a:A)(h:c=false->A->B):if c=true then A else B:=by
 cases c
 ·exact h rfl a
 ·exact a
theorem ph(xs:List (List Nat)):Txt.join "" (xs.map txt)=txt xs.flatten:=by
 apply dy;rw[lN,EL];show(xs.map fun x=>x).flatten=_;rw[List.map_id'];rfl
theorem LQ:∀xs:List (List Nat),((xs.map txt).map (·.length)).sum=xs.flatten.length
 |[]=>rfl
 |x::r=>by
  show x.length+((r.map txt).map (·.length)).sum=_;rw[LQ r,ER,DR]
theorem kU{n:Nat}{x y:Int}(h:Lt2 n y)(l:x.natAbs<=y.natAbs):Lt2 n x:=Fi l h
theorem uf{m y:Int}(hy:y≠0):(2*m).natAbs<=(2*m*y).natAbs:=by
 rw[Gz (2*m)];exact Nat.le_mul_of_pos_right _ (by lia)
theorem sZ{n:Nat}{x:Int}(h:Lt2 n x):Lt2 (n+1) (2*x):=by
 unfold Lt2 at *;rw[Nat.pow_succ,Gz];have:(2:Int).natAbs=2:=rfl;rw[this];lia
theorem two8:(2:Int).natAbs<2^8999:=DT (show 2<2^2 by decide) (Gj (by decide) (by decide))
theorem pJ{n:Nat}(h:2<=n):Lt2 n 2:=by
 unfold Lt2;exact DT (show 2<2^2 by decide) (Gj (by decide) h)
theorem tY{n:Nat}{u:Bool}{m:Int}{r:List Nat}(rW:∀x∈r,isW x)(rR:Red r)(hn:∀d s,r=d::s->uK d=!u)(n1:1<=n)(h:Bd n (wt (pw u m++r))):Bd n (wt r):=by
 have o1:Lt2 n 1:=by unfold Lt2;exact Nat.one_lt_two_pow (by lia)
 have o0:Lt2 n 0:=by unfold Lt2;exact Nat.two_pow_pos n
 cases r with
 |nil=>exact⟨o1,o0,o0,o1⟩
 |cons d s=>
  have dd:=IA rW rR;have hd:=rW d DS;have hk:=hn d s rfl;cases u with
  |true=>
   have e:wt (pw true m++d::s)=⟨(wt (d::s)).a+2*m*(wt (d::s)).c,(wt (d::s)).b+2*m*(wt (d::s)).d,(wt (d::s)).c,(wt (d::s)).d⟩:=by rw[Jt,mz,iK]
   rw[e] at h;have h1:=jm dd.1 (lQ hd hk);have h2:=jm dd.2 (lQ hd hk);exact⟨kU h.c (by show _<=(wt (d::s)).c.natAbs;lia),kU h.d (by show _<=(wt (d::s)).d.natAbs;lia),h.c,h.d⟩
  |false=>
   have e:wt (pw false m++d::s)=⟨(wt (d::s)).a,(wt (d::s)).b,2*m*(wt (d::s)).a+(wt (d::s)).c,2*m*(wt (d::s)).b+(wt (d::s)).d⟩:=by rw[Jt,mz,iO]
   rw[e] at h;have h1:=jB dd.1 (kQ hd hk);have h2:=jB dd.2 (kQ hd hk);exact⟨h.a,h.b,kU h.a (by show _<=(wt (d::s)).a.natAbs;lia),kU h.b (by show _<=(wt (d::s)).b.natAbs;lia)⟩
def xQ (st:Stmt):List Stmt:=match st with
 |.While _ b _ _=>b
 |_=>[]
theorem dI(x y:Int):decide (V.int x=V.int y)=decide (x=y):=decide_eq_decide.mpr ⟨fun h=>by injection h,fun h=>by rw[h]⟩
theorem abI(i:Int):(if i<0 then -i else i)=(i.natAbs:Int):=by split<;>lia
theorem lP{n:Nat}{m x y z:Int}(hy:y≠0)(e:z=x+2*m*y)(hx:x.natAbs<y.natAbs)(hb:Lt2 n y)(hz:Lt2 n z):Lt2 (n+1) (2*m)/\Lt2 (n+1) m:=by
 have h1:=uf (m:=m) hy;generalize hp:2*m*y=p at h1 e;unfold Lt2 at *;rw[Nat.pow_succ];lia
def Oo:Sp:=fun vs H Q _=>∃v cs m n,vs=[v,.int ((m:Nat):Int)]/\m<=10000/\(∀c∈cs,isW c)/\Red cs/\T4o H v (wt cs)/\Bd n (wt cs)/\n<=8000/\(cs.length<=m->∀H',Ia H H'->Q (.str (txt cs)) H')/\(m<cs.length->∀H',Ia H H'->Q .non H')
theorem vT{dp d:DD}(BL:(dg "power" 26 ["letter","many"] dp 1 OX))(D:Def K mg "wide_word_within" (top 27) ["table","most"] d)(Br:mg "abs"=none):(fk 2 d ["table","most"] Oo):=by
 exists["table","most","a","b","c","d","powers","length","letter","many"]
 obtain⟨v,cs,m,n,rfl,hm,hW,hR,⟨a,rfl,ha⟩,hb,hn,q1,q2⟩:=h;have n1:1<=n:=by
  have h1:=hb.a;have h2:=(JN hW).a;unfold Lt2 at h1;cases n with
  |zero=>rw[Nat.pow_zero] at h1;lia
  |succ k=>lia
 obtain⟨tt,hT,qT⟩:∃t,PSs (bW CX0 P w K mg base ["table","most","a","b","c","d","powers","length","letter","many"] "wide_word_within" (av (top 27)) d.f cdv A outer s H E).nox ((xQ ((bV (top 27)).getD 3 (.Pass ⟨0,0,0,0⟩))).drop 1) t /\
   ∀(Dn:Ends)(H2:Hp)(L:Addr)(u:Bool)(mm:Int)(xs:List (List Nat))(o2 o3 o4 o5:Option V),H2 L=some (.lst ((xs.map txt).map V.str))->xs.length<=xs.flatten.length->xs.flatten.length<=m ->
    (m<xs.flatten.length+mm.natAbs->Dn.rt .non H2) ->
    (xs.flatten.length+mm.natAbs<=m->Dn.nx [some (.ref a),some (.int m),o2,o3,o4,o5,some (.ref L),some (.int (((xs++[pw u mm]).flatten.length:Nat):Int)),some (.str ⟨#[if u=true then 117 else 118]⟩),some (.int mm)] (upd H2 L (.lst (((xs++[pw u mm]).map txt).map V.str)))) ->
    t Dn [some (.ref a),some (.int m),o2,o3,o4,o5,some (.ref L),some (.int ((xs.flatten.length:Nat):Int)),some (.str ⟨#[if u=true then 117 else 118]⟩),some (.int mm)] H2:=by
  refine⟨_,(ae (nB 7 (aS JQ Br LY (aL (9) aC)) LU) (ae (br (aB JW (7) (1) (aD _)) (aq (aH (bR _))) (HZ _)) (aq (aV (cE (6) (bz BL.1 BL.2 (ag (8) (aL (9) aC) aC)) dv))))),fun Dn H2 L u mm xs o2 o3 o4 o5 gL hxl hxm c1 c2=>?_⟩;refine⟨_,rfl,_,rfl,mm,rfl,_,_,rfl,rfl,?_⟩;rw[abI];have e1:((xs.flatten.length:Nat):Int)+(mm.natAbs:Int)=((xs.flatten.length+mm.natAbs:Nat):Int):=by lia
  refine⟨_,rfl,_,rfl,_,_,rfl,rfl,decide (m<xs.flatten.length+mm.natAbs),?_,?_⟩
  ·show V.bl (decide (((xs.flatten.length:Nat):Int)+(mm.natAbs:Int)>(m:Int)))=_
   congr 1
   exact decide_eq_decide.mpr (by lia)
  cases hB:decide (m<xs.flatten.length+mm.natAbs) with
  |true=>exact c1 (Hy hB)
  |false=>
   have hB':=of_decide_eq_false hB;refine⟨_,rfl,.inl ⟨rfl,_,SqL.of gL⟩,_,rfl,_,rfl,u,mm,rfl,by lia,by lia,L,_,_,rfl,rfl,gL,?_,?_⟩
   ·refine DT (show _<1000000 from ?_) (aJ (DP _));rw[DQ,DQ];lia
   ·have c:=c2 (by lia);have e2:(xs++[pw u mm]).flatten.length=xs.flatten.length+mm.natAbs:=by rw[GT,DR,ER,GU,Et,jJ]
    have e3:((xs++[pw u mm]).map txt).map V.str=(xs.map txt).map V.str++[.str (txt (pw u mm))]:=by rw[Ef,Ef];rfl
    rw[e2,<- e1,e3] at c;exact c
 refine⟨_,(ae (cx (0) (cj (ax (ar 2) (ax (ar 3) (ax (ar 4) (ax (ar 5) (Ip _))))))) (ae (aw 6 (aY (Ii _))) (ae (aw 7 (ah _)) (ae (dM (@PW.pt _ _ _ (ke (aB Jp (3) (ah _) (aD _)) (gB (aB Jp (4) (ah _) (aD _))))) (ae (br (aB IX (4) (ah _) (aD _)) (ae (gR 8 9 (ag (bo _) (aL (ay iQ (3) (ah _)) (by rfl)) bI)) (aq (aw 3 (ah _)))) (aq (br (aB JW (aS JQ Br LY (aL (2) aC)) (aS JQ Br LY (aL (4) aC)) (aD _)) (ae (gR 8 9 (ag (bo _) (aL (ay iQ (ay Ij (2) (4)) (ay bP (ah _) (4))) (by rfl)) bI)) (aq (gR 2 3 (ag (ay IC (2) (ay bP (ay bP (ah _) (9)) (4))) (aL (ay IC (3) (ay bP (ay bP (ah _) (9)) (5))) (by rfl)) (by rfl))))) (ae (gR 8 9 (ag (bo _) (aL (ay iQ (ay Ij (2) (4)) (ay bP (ah _) (2))) (by rfl)) bI)) (aq (gR 4 5 (ag (ay IC (4) (ay bP (ay bP (ah _) (9)) (2))) (aL (ay IC (5) (ay bP (ay bP (ah _) (9)) (3))) (by rfl)) (by rfl)))))))) hT)) (aq (aH (nH (6) aC))))))),?_⟩
 walk_at "d"
 refine⟨_,rfl,a,_,rfl,SqT.of ha,rfl,_,_,rfl,_,_,rfl,_,_,rfl,_,_,rfl,rfl,?_⟩;refine⟨Ec _,fun L nL=>?_⟩;have F0:=(Hs.start H).new nL (.lst [])
 refine⟨fun k σ H'=>∃(xs:List (List Nat)) (r:List Nat) (o8 o9:Option V),k=r.length/\cs=xs.flatten++r/\xs.flatten.length<=m/\xs.length<=xs.flatten.length/\(∀c∈r,isW c)/\Red r/\Bd n (wt r)/\σ=[some (.ref a),some (.int m),some (.int (wt r).a),some (.int (wt r).b),some (.int (wt r).c),some (.int (wt r).d),some (.ref L),some (.int (xs.flatten.length:Int)),o8,o9]/\Hs H [(L,.lst ((xs.map txt).map V.str))] H',
  ⟨cs.length,[],cs,none,none,rfl,rfl,Ec _,Ec _,hW,hR,hb,rfl,F0⟩,fun k σ H' z=>?_⟩
 obtain⟨xs,r,o8,o9,rfl,ecs,hxm,hxl,rW,rR,rB,rfl,F⟩:=z;have gL:=F.get 0;cases r with
 |nil=>
  refine⟨_,rfl,rfl,false,rfl,?_⟩;refine⟨_,rfl,rfl,false,rfl,?_⟩;rw[Et] at ecs;refine⟨rfl,_,rfl,"",L,xs.map txt,rfl,rfl,SqL.of gL,?_,?_⟩
  ·have e0:("":Str).length=0:=rfl;rw[LQ,e0,Nat.mul_zero];lia
  ·rw[ph,<- ecs];exact q1 (by rw[ecs];exact hxm) _ F.all
 |cons c0 r0=>
  obtain⟨mm,r',m0,er,hk,r'W,r'R⟩:=oU rW rR;have lr:(c0::r0).length=mm.natAbs+r'.length:=by rw[er,DR,jJ]
  have r'B:Bd n (wt r'):=tY r'W r'R hk n1 (by rw[<- er];exact rB);have ecs':cs=(xs++[pw (uK c0) mm]).flatten++r':=by
   rw[GT,ER,GU,Et,Ej,<- er];exact ecs
  have e2:(xs++[pw (uK c0) mm]).flatten.length=xs.flatten.length+mm.natAbs:=by rw[GT,DR,ER,GU,Et,jJ]
  have lcs:cs.length=xs.flatten.length+mm.natAbs+r'.length:=by rw[ecs,DR,lr];lia
  have out1:m<xs.flatten.length+mm.natAbs->Q .non H':=fun h=>q2 (by lia) _ F.all;have tru:(wt (c0::r0)).b≠0\/(wt (c0::r0)).c≠0:=by
   have D1:=IA rW rR;have w1:=JN rW;have:=w1.a;have:=w1.d;generalize wt (c0::r0)=t at D1 w1;unfold Dom at D1;lia
  have mmn:mm.natAbs≠0:=by lia
  refine⟨_,rfl,rfl,!decide ((wt (c0::r0)).b=0),(by rw[dI]),?_⟩
  refine xo ?_ (fun hb0 body=>⟨_,rfl,rfl,true,(by
   have hb1:(wt (c0::r0)).b=0:=by simpa using hb0
   rw[dI,Hu (by lia)]; rfl),body⟩)
  refine⟨fun σ' H''=>(xs++[pw (uK c0) mm]).flatten.length<=m/\(∃o8 o9,σ'=[some (.ref a),some (.int m),some (.int (wt r').a),some (.int (wt r').b),some (.int (wt r').c),some (.int (wt r').d),some (.ref L),some (.int (((xs++[pw (uK c0) mm]).flatten.length:Nat):Int)),o8,o9])/\Hs H [(L,.lst (((xs++[pw (uK c0) mm]).map txt).map V.str))] H'',fun σ' H'' z=>?_,?_⟩
  ·obtain⟨y1,⟨o8',o9',rfl⟩,F2⟩:=z;exact⟨r'.length,by lia,xs++[pw (uK c0) mm],r',o8',o9',rfl,ecs',y1,by rw[e2,DR,GK];lia,r'W,r'R,r'B,rfl,F2⟩
  have fin:∀nx:L2.St->Hp->Prop,(∀σ' H'',((xs++[pw (uK c0) mm]).flatten.length<=m/\(∃o8 o9,σ'=[some (.ref a),some (.int m),some (.int (wt r').a),some (.int (wt r').b),some (.int (wt r').c),some (.int (wt r').d),some (.ref L),some (.int (((xs++[pw (uK c0) mm]).flatten.length:Nat):Int)),o8,o9])/\Hs H [(L,.lst (((xs++[pw (uK c0) mm]).map txt).map V.str))] H'')->nx σ' H'')->xs.flatten.length+mm.natAbs<=m->nx [some (.ref a),some (.int m),some (.int (wt r').a),some (.int (wt r').b),some (.int (wt r').c),some (.int (wt r').d),some (.ref L),some (.int (((xs++[pw (uK c0) mm]).flatten.length:Nat):Int)),some (.str ⟨#[if uK c0=true then 117 else 118]⟩),some (.int mm)] (upd H' L (.lst (((xs++[pw (uK c0) mm]).map txt).map V.str))):=fun nx h hle=>
   h _ _ ⟨by lia,⟨_,_,rfl⟩,F.put 0 _⟩
  cases hu:uK c0 with
  |true=>
   rw[hu] at er hk e2 fin;have ew:wt (c0::r0)=⟨(wt r').a+2*mm*(wt r').c,(wt r').b+2*mm*(wt r').d,(wt r').c,(wt r').d⟩:=by rw[er,Jt,mz,iK]
   have sy:=ze m0 r'W r'R hk;rw[<- er] at sy;rcases sy with ⟨cz,rn,hdv,et⟩|⟨cnz,dm,hdv⟩
   ·refine⟨_,rfl,rfl,true,(by rw[dI,Ht cz]),?_⟩;refine⟨_,rfl,_,2,rfl,rfl,⟨by decide,two8⟩,_,_,rfl,?_⟩;show tt _ [some (.ref a),some (.int m),some (.int (wt (c0::r0)).a),some (.int 0),some (.int (wt (c0::r0)).c),some (.int (wt (c0::r0)).d),some (.ref L),some (.int ((xs.flatten.length:Nat):Int)),some (.str "u"),some (.int ((wt (c0::r0)).b.fdiv 2))] H';rw[hdv,e_u,et];subst rn;exact qT _ H' L true mm xs _ _ _ _ gL hxl hxm out1 (fin _ fun _ _ z=>z)
   ·refine⟨_,rfl,rfl,false,(by rw[dI,Hu cnz]),?_⟩;refine⟨_,rfl,_,rfl,_,rfl,_,rfl,_,_,rfl,rfl,true,(by show V.bl (decide _)=_;rw[abI,abI,Ht (by lia)]),?_⟩;have dm':(wt r').a.natAbs<(wt r').c.natAbs:=by
     cases r' with
     |nil=>rw[ew] at cnz;exact absurd rfl cnz
     |cons d s=>exact jm (IA r'W r'R).1 (lQ (r'W d DS) (hk d s rfl))
    have c'z:(wt r').c≠0:=by lia
    have rBa:Lt2 n ((wt r').a+2*mm*(wt r').c):=by have:=rB.a;rw[ew] at this;exact this
    obtain⟨b1,b2⟩:=lP c'z rfl dm' r'B.c rBa;have l2:Lt2 (n+1) 2:=pJ (by lia);have bc:Lt2 n (wt (c0::r0)).c:=rB.c;have bd:Lt2 n (wt (c0::r0)).d:=rB.d;refine⟨_,rfl,_,rfl,_,_,rfl,rfl,_,rfl,2,_,rfl,rfl,Lt2.big l2 bc (by lia) (by lia),_,_,rfl,rfl,⟨by lia,DT (sZ bc) (Gj (by decide) (by lia))⟩,_,_,rfl,?_⟩;refine⟨_,rfl,_,rfl,2,_,rfl,rfl,?_,_,rfl,_,_,rfl,rfl,?_,_,_,rfl,rfl,_,rfl,_,rfl,2,_,rfl,rfl,?_,_,rfl,_,_,rfl,rfl,?_,_,_,rfl,rfl,_,_,rfl,?_⟩
    ·rw[hdv];exact Lt2.big l2 b2 (by lia) (by lia)
    ·rw[hdv];exact Lt2.big b1 bc (by lia) (by lia)
    ·rw[hdv];exact Lt2.big l2 b2 (by lia) (by lia)
    ·rw[hdv];exact Lt2.big b1 bd (by lia) (by lia)
    show tt _ [some (.ref a),some (.int m),some (.int ((wt (c0::r0)).a-2*((wt (c0::r0)).a+(wt (c0::r0)).c).fdiv (2*(wt (c0::r0)).c)*(wt (c0::r0)).c)),some (.int ((wt (c0::r0)).b-2*((wt (c0::r0)).a+(wt (c0::r0)).c).fdiv (2*(wt (c0::r0)).c)*(wt (c0::r0)).d)),some (.int (wt (c0::r0)).c),some (.int (wt (c0::r0)).d),some (.ref L),some (.int ((xs.flatten.length:Nat):Int)),some (.str "u"),some (.int (((wt (c0::r0)).a+(wt (c0::r0)).c).fdiv (2*(wt (c0::r0)).c)))] H';rw[hdv,e_u,ew];simp only;rw[show(wt r').a+2*mm*(wt r').c-2*mm*(wt r').c=(wt r').a by lia,show(wt r').b+2*mm*(wt r').d-2*mm*(wt r').d=(wt r').b by lia];exact qT _ H' L true mm xs _ _ _ _ gL hxl hxm out1 (fin _ fun _ _ z=>z)
  |false=>
   rw[hu] at er hk e2 fin;have ew:wt (c0::r0)=⟨(wt r').a,(wt r').b,2*mm*(wt r').a+(wt r').c,2*mm*(wt r').b+(wt r').d⟩:=by rw[er,Jt,mz,iO]
   have sy:=zP m0 r'W r'R hk;rw[<- er] at sy;obtain⟨cnz,dm,az,hdv⟩:=sy;refine⟨_,rfl,rfl,false,(by rw[dI,Hu cnz]),?_⟩;refine⟨_,rfl,_,rfl,_,rfl,_,rfl,_,_,rfl,rfl,false,(by show V.bl (decide _)=_;rw[abI,abI,Hu (by lia)]),?_⟩;have dm':(wt r').c.natAbs<(wt r').a.natAbs:=by
    cases r' with
    |nil=>decide
    |cons d s=>exact jB (IA r'W r'R).1 (kQ (r'W d DS) (hk d s rfl))
   have a'z:(wt r').a≠0:=by lia
   have rBc:Lt2 n ((wt r').c+2*mm*(wt r').a):=by have:=rB.c;rw[ew] at this;rw[Int.add_comm];exact this
   obtain⟨b1,b2⟩:=lP a'z rfl dm' r'B.a rBc;have l2:Lt2 (n+1) 2:=pJ (by lia);have ba:Lt2 n (wt (c0::r0)).a:=rB.a;have bb:Lt2 n (wt (c0::r0)).b:=rB.b;refine⟨_,rfl,_,rfl,_,_,rfl,rfl,_,rfl,2,_,rfl,rfl,Lt2.big l2 ba (by lia) (by lia),_,_,rfl,rfl,⟨by lia,DT (sZ ba) (Gj (by decide) (by lia))⟩,_,_,rfl,?_⟩;refine⟨_,rfl,_,rfl,2,_,rfl,rfl,?_,_,rfl,_,_,rfl,rfl,?_,_,_,rfl,rfl,_,rfl,_,rfl,2,_,rfl,rfl,?_,_,rfl,_,_,rfl,rfl,?_,_,_,rfl,rfl,_,_,rfl,?_⟩
   ·rw[hdv];exact Lt2.big l2 b2 (by lia) (by lia)
   ·rw[hdv];exact Lt2.big b1 ba (by lia) (by lia)
   ·rw[hdv];exact Lt2.big l2 b2 (by lia) (by lia)
   ·rw[hdv];exact Lt2.big b1 bb (by lia) (by lia)
   show tt _ [some (.ref a),some (.int m),some (.int (wt (c0::r0)).a),some (.int (wt (c0::r0)).b),some (.int ((wt (c0::r0)).c-2*((wt (c0::r0)).a+(wt (c0::r0)).c).fdiv (2*(wt (c0::r0)).a)*(wt (c0::r0)).a)),some (.int ((wt (c0::r0)).d-2*((wt (c0::r0)).a+(wt (c0::r0)).c).fdiv (2*(wt (c0::r0)).a)*(wt (c0::r0)).b)),some (.ref L),some (.int ((xs.flatten.length:Nat):Int)),some (.str "v"),some (.int (((wt (c0::r0)).a+(wt (c0::r0)).c).fdiv (2*(wt (c0::r0)).a)))] H';rw[hdv,e_v,ew];simp only;rw[show 2*mm*(wt r').a+(wt r').c-2*mm*(wt r').a=(wt r').c by lia,show 2*mm*(wt r').b+(wt r').d-2*mm*(wt r').b=(wt r').d by lia];exact qT _ H' L false mm xs _ _ _ _ gL hxl hxm out1 (fin _ fun _ _ z=>z)
def Oz:Sp:=fun vs H Q _=>∃c,vs=[.str ⟨#[c]⟩]/\isW c/\∀H',Ia H H'->Q (.str ⟨#[bk c]⟩) H'
theorem OD:bL [] bkv=bkv:=by decide +kernel
theorem zh{d:DD}(D:Def K mg "_law_other_way" (top 44) ["letter"] d):(fk 1 d ["letter"] Oz):=by
 exists["letter"]
 obtain⟨c,rfl,hw,q⟩:=h;refine⟨_,(aq (aH (bC (bK hr) (fq (bF (bo _) (bo _) (bF (bo _) (bo _) (bF (bo _) (bo _) (bF (bo _) (bo _) (fh _))))) (by simp)) (0)))),?_⟩
 walk_at "d"
 refine fun p hp=>?_;refine⟨af,bkv,rfl,GC rfl,?_⟩;refine⟨_,rfl,p,.str ⟨#[bk c]⟩,rfl,.inl ⟨bL [] bkv,.inr ⟨#[c]⟩,.inl af,rfl,(by rw[OD,tP hw])⟩,?_⟩;refine q _ fun b o e=>?_;have nb:b≠p:=aU e hp;rw[au nb,au nb];exact e
def bw (cs:List Nat):List Nat:=cs.reverse.map bk
theorem zF{cs:List Nat}(h:∀c∈cs,isW c):∀c∈bw cs,isW c:=fun c hc=>by
 obtain⟨x,hx,rfl⟩:=Em.mp hc;exact(h x (GS.mp hx)).bk
theorem iA(cs:List Nat):(bw cs).length=cs.length:=by unfold bw;rw[DQ,FS]
def Pg:Sp:=fun vs H Q _=>∃cs,vs=[.str (txt cs)]/\(∀c∈cs,isW c)/\cs.length<=10000/\∀H',Ia H H'->Q (.str (txt (bw cs))) H'
theorem yk{dx d:DD}(D_ow:(dg "_law_other_way" 44 ["letter"] dx 1 Oz))(D:Def K mg "_law_back_word" (top 46) ["word"] d):(fk 2 d ["word"] Pg):=by
 exists["word"]
 obtain⟨cs,rfl,hW,hl,q⟩:=h;refine⟨_,(aq (aH (nH (bB (aA (ts:=["letter"]) (cap:=[]) (js:=[]) rfl rfl rfl rfl rfl rfl (by decide +kernel)) (gQ (sY Ov (0) (hZ IZ (ah _)))) (am 0 (nd ["letter"])) (@aX _) (bu D_ow.1 D_ow.2 (0) aC)) (by rfl)))),?_⟩
 walk_at "d"
 have er:Txt.rev (txt cs)=txt cs.reverse:=dy (by unfold Txt.rev;simp[txt]);have rW:∀c∈cs.reverse,isW c:=fun c hc=>hW c (GS.mp hc);have lr:cs.reverse.length=cs.length:=FS;refine⟨rfl,_,rfl,1,rfl,rfl,txt cs,rfl,aJ (by show cs.length<=1000000;lia),_,rfl,(by rw[er];exact iY rW),?_⟩;rw[er];have sz:(txt cs.reverse).cps.size=cs.reverse.length:=by show cs.reverse.toArray.size=_;simp
 refine uJ (z:=txt cs.reverse) (fun i ys H'=>Ia H H'/\ys=(rT ((cs.reverse.take i).map bk)).map V.str) ⟨Ia.refl _,rfl⟩ (fun i ys H' hi y=>by rw[y.2,DQ,DQ,DQ,Eu];lia) (aJ (by lia)) (fun i c ys H' hc' y=>?_) (fun ys H' y p hp=>?_)
 ·obtain⟨y1,rfl⟩:=y;have hi:i<(txt cs.reverse).cps.size:=(Hh.mp hc').1;rw[tE] at hc';have hw:=rW c (Ea hc');refine⟨_,rfl,c,rfl,hw,fun H1 S1=>Nx.mk hi ⟨y1.trans S1,?_⟩⟩;rw[Eo,hc',Ef];exact(pW _ _).symm
 ·obtain⟨y1,rfl⟩:=y;have e1:(cs.reverse.take (txt cs.reverse).cps.size).map bk=bw cs:=by rw[ES (by lia)];rfl
  rw[e1];refine⟨"",p,rT (bw cs),rfl,rfl,SqL.of af,?_,?_⟩
  ·have e0:("":Str).length=0:=rfl;rw[KN,e0,Nat.mul_zero,iA];lia
  ·rw[og];exact q _ (y1.trans (ao hp _))
theorem mH(s:List Nat)(d:Nat):Txt.slice (txt (s++[d])) none (some (-1))=txt s:=by
 apply dy;rw[ic];show uG (s++[d]) none (some (-1))=s;unfold uG;have e:HT.sIx (s++[d]).length (s++[d]).length (some (-1))=s.length:=by
  show(if (-1:Int)<0 then ((-1:Int)+(((s++[d]).length:Nat):Int)).toNat else min (-1:Int).toNat (s++[d]).length)=_;rw[Hq (by decide),DR,GK];lia
 rw[e,HT.KA,GB,Nat.sub_zero,List.take_left]
def Oi:Sp:=fun vs H Q _=>∃cs,vs=[.str (txt cs)]/\(∀c∈cs,isW c)/\cs.length<=10000/\∀H',Ia H H'->Q (.str (txt (red cs))) H'
theorem vY{dx d:DD}(D_ow:(dg "_law_other_way" 44 ["letter"] dx 1 Oz))(D:Def K mg "_law_short" (top 45) ["word"] d):(fk 2 d ["word"] Oi):=by
 exists["word","found","letter"]
 obtain⟨cs,rfl,hW,hl,q⟩:=h;refine⟨_,(ae (aw 1 (bo _)) (ae (bE (gQ (0)) (ar 2) (aq (br (@PW.pt _ _ _ (fF (aB Jp (1) (bo _) (aD _)) (cZ (aB IX (aN Lq (1) (hZ IZ (ah _))) (bu D_ow.1 D_ow.2 (2) aC) (aD _))))) (aq (aw 1 (dG KZ (1) (@Jh _) (eA (hZ IZ (ah _)))))) (aq (aw 1 (ay Ig (1) (2))))))) (aq (aH (1))))),?_⟩
 walk_at "d"
 refine⟨_,rfl,txt cs,rfl,iY hW,?_⟩;refine fN (cs:=cs) (fun i σ H'=>∃e2,σ=[some (.str (txt cs)),some (.str (txt ((cs.take i).foldl psh []).reverse)),e2]/\Ia H H') ⟨_,rfl,Ia.refl _⟩ (fun i hi σ H' z=>?_) (fun σ H' z=>?_)
 ·obtain⟨e2,rfl,S⟩:=z;have hWi:∀c∈cs.take i,isW c:=fun c hc=>hW c (FT hc);have stW:=Kw (cs.take i) [] hWi (fun c h=>by cases h);have stL:=JD (cs.take i) [];have et:(cs.take (i+1)).foldl psh []=psh ((cs.take i).foldl psh []) cs[i]:=by rw[ip hi,Fu];rfl
  rw[et];have hci:=hW _ (Ep hi);have l2:(cs.take i).length<=10000:=by rw[Eu];lia
  generalize (cs.take i).foldl psh []=st at stW stL ⊢;rw[Gh] at stL;cases st with
  |nil=>
   refine⟨_,rfl,rfl,false,rfl,?_⟩;refine⟨_,rfl,_,rfl,_,_,rfl,rfl,aJ (by show 0+1<=1000000;decide),_,rfl,S⟩
  |cons e s=>
   rw[Fg];have sl:s.reverse.length<=10000:=by rw[FS];rw[EA] at stL;lia
   have lz:(txt (s.reverse++[e])).length=s.reverse.length+1:=by show(s.reverse++[e]).length=_;rw[DR];rfl
   refine⟨_,rfl,rfl,true,?_,?_⟩
   ·show V.bl (!decide (V.str (txt (s.reverse++[e]))=V.str ""))=_
    rw[Hu (fun z=>by
     have z1:txt (s.reverse++[e])="":=by injection z
     have z2:=congrArg Str.length z1;rw[lz] at z2
     cases z2)]
    rfl
   refine⟨_,rfl,1,rfl,txt (s.reverse++[e]),-1,e,rfl,rfl,aJ (by lia),sH (n:=s.reverse.length) (by show(s.reverse++[e]).length=_;rw[DR];rfl) (by show(s.reverse++[e])[s.reverse.length]?=_;rw[Ff (DP _),Nat.sub_self];rfl),?_⟩;refine⟨_,rfl,cs[i],rfl,hci,fun H1 S1=>⟨rfl,decide (e=bk cs[i]),by rw[xA],?_⟩⟩;rw[eY];cases hB:decide (e=bk cs[i]) with
   |true=>
    rw[Hq (Hy hB)];refine⟨_,rfl,1,rfl,_,rfl,txt (s.reverse++[e]),rfl,aJ (by lia),some (.str ⟨#[cs[i]]⟩),?_,S.trans S1⟩
    ·show[some (V.str (txt cs)),some (V.str (Txt.slice (txt (s.reverse++[e])) none (some (-1)))),_]=_;rw[mH]
   |false=>
    rw[Ho (of_decide_eq_false hB)];refine⟨_,rfl,_,rfl,_,_,rfl,rfl,aJ (by rw[lz];show _+1<=1000000;lia),some (.str ⟨#[cs[i]]⟩),?_,S.trans S1⟩
    ·show[some (V.str (txt cs)),some (V.str (txt (s.reverse++[e])++⟨#[cs[i]]⟩)),_]=_;rw[Fg,Fg,show txt (s.reverse++[e])++⟨#[cs[i]]⟩=txt (s.reverse++[e]++[cs[i]]) from dy (kZ _ _)]
 ·obtain⟨e2,rfl,S⟩:=z;rw[ES (DP _)];exact⟨_,rfl,q _ S⟩
theorem ir(x:List Nat)(e:Nat):Txt.slice (txt x) none (some (e:Int))=txt (x.take e):=by
 apply dy;rw[ic,rY];rfl
theorem zJ{r:Int}(h0:0<=r)(h1:r<4):∃c,("uvUV":Str).cps[r.toNat]?=some c/\isW c:=by
 have:r=0\/r=1\/r=2\/r=3:=by lia
 rcases this with rfl|rfl|rfl|rfl
 ·exact⟨117,by decide +kernel,.inl rfl⟩
 ·exact⟨118,by decide +kernel,.inr (.inl rfl)⟩
 ·exact⟨85,by decide +kernel,.inr (.inr (.inl rfl))⟩
 ·exact⟨86,by decide +kernel,.inr (.inr (.inr rfl))⟩
theorem Od:("uvUV":Str).length=4:=by decide +kernel
theorem bU(x y:List Nat):txt x++txt y=txt (x++y):=dy (kZ _ _)
theorem gw(x:List Nat)(n:Nat):Txt.slice (txt x) none (some (n:Int))=txt (x.take n):=ir x n
theorem Red.take{cs:List Nat}(h:Red cs)(n:Nat):Red (cs.take n):=by
 have:cs=cs.take n++cs.drop n:=(GD n cs).symm;rw[this] at h;exact h.La
def PD:Sp:=fun vs H Q _=>∃p,∃most:Nat,vs=[.ref p,.int (most:Int)]/\Ds H p/\1<=most/\most<=200/\∀cs H',Dr p H H'->(∀c∈cs,isW c)->Red cs->cs.length<=most->Q (.str (txt cs)) H'
theorem xU{dd db dh d:DD}(Am:(dg "_law_draw" 43 ["draws","many"] dd 1 JR))(AA:(dg "_law_back_word" 46 ["word"] db 2 Pg))(Au:(dg "_law_short" 45 ["word"] dh 2 Oi))(D:Def K mg "_law_wide_text" (top 50) ["draws","most"] d)(Ai:mg "range"=none):(fk 3 d ["draws","most"] PD):=by
 exists["draws","most","text","k","stem"]
 obtain⟨p,most,rfl,hp,m1,m2,q⟩:=h;have big:∀n:Nat,n<=100000->n<=sizeLine:=fun n h=>aJ (by lia);refine⟨_,(ae (aw 2 (bo _)) (ae (bE (bA Ai (aL (ay Ij (ah _) (bz Am.1 Am.2 (ag (0) (aL (1) aC) aC))) (by rfl))) (ar 3) (aq (aw 2 (ay Ig (2) (ay Kt (dZ (bo _) (bz Am.1 Am.2 (ag (0) (aL (ah _) bI) aC))) (aN HY (aY (ag (ah _) (ag (ah _) (aL (ay Ij (ah _) (bz Am.1 Am.2 (ag (0) (aL (ah _) bI) aC))) (by rfl)) bI) bI)) (bz Am.1 Am.2 (ag (0) (aL (ah _) bI) aC)))))))) (ae (br (aB IX (bz Am.1 Am.2 (ag (0) (aL (ah _) bI) aC)) (ah _) (aD _)) (ae (aw 4 (dG KZ (2) (@Jh _) (eA (ay Ij (ah _) (bz Am.1 Am.2 (ag (0) (aL (ah _) bI) aC)))))) (aq (aw 2 (ay Ig (ay Ig (4) (2)) (bu AA.1 AA.2 (4) aC))))) (HZ _)) (aq (aH (dG KZ (bu Au.1 Au.2 (2) aC) (@Jh _) (eA (1)))))))),?_⟩
 walk_at "d"
 refine⟨_,rfl,_,rfl,p,_,rfl,hp,by lia,by lia,fun r0 H0 a0 a1 dr0=>?_⟩;refine⟨_,_,rfl,rfl,1+r0,rfl,by lia,by lia,?_⟩;refine bH (lo:=0) (n:=(1+r0).toNat) (fun i σ H'=>∃e3 e4 cs,σ=[some (.ref p),some (.int (most:Int)),some (.str (txt cs)),e3,e4]/\Dr p H H'/\(∀c∈cs,isW c)/\cs.length<=4*i) ⟨_,_,[],rfl,dr0,(fun c h=>by cases h),DP _⟩ (fun i σ H' hi z=>?_) (fun σ H' z=>?_)
 ·obtain⟨e3,e4,cs,rfl,dr,hW,hl⟩:=z;refine⟨_,rfl,_,rfl,p,4,rfl,dr.ds,by decide,by decide,fun r1 H1 b0 b1 dr1=>?_⟩;obtain⟨c,ec,wc⟩:=zJ b0 b1;refine⟨_,r1,c,rfl,rfl,b0,by lia,by rw[Od];lia,ec,?_⟩;refine⟨_,rfl,p,4,rfl,dr1.ds,by decide,by decide,fun r2 H2 c0 c1 dr2=>?_⟩;refine⟨_,_,rfl,rfl,aJ (by show 3<=1000000;decide),fun L3 nL3=>?_⟩;have D3:=Dr.new dr2.ds nL3 (.lst [.int 1,.int 1,.int (1+r2)]);have g3:=cF dr2.ds nL3 (.lst [.int 1,.int 1,.int (1+r2)]);refine⟨_,rfl,p,3,rfl,D3.ds,by decide,by decide,fun r3 H4 d0 d1 dr4=>?_⟩;obtain⟨n,en,n1,n4⟩:∃n:Int,atI [V.int 1,.int 1,.int (1+r2)] r3=some (.int n)/\0<=n/\n<=4:=by
   have:r3=0\/r3=1\/r3=2:=by lia
   rcases this with rfl|rfl|rfl
   ·exact⟨1,rfl,by decide,by decide⟩
   ·exact⟨1,rfl,by decide,by decide⟩
   ·exact⟨1+r2,rfl,by lia,by lia⟩
  refine⟨L3,_,r3,_,rfl,rfl,SqL.of (aE p _ _ _ (dr4.same _ _ g3)),en,?_⟩;refine⟨⟨#[c]⟩,n,rfl,rfl,by lia,by lia,(by show 1*n.toNat<=16777216;lia),?_⟩;rw[cI];refine⟨_,_,rfl,rfl,big _ (by show cs.length+(List.replicate n.toNat c).length<=100000;rw[EU];lia),?_⟩;rw[bU];refine⟨_,_,cs++List.replicate n.toNat c,rfl,dr.trans (dr1.trans (dr2.trans (D3.trans dr4))),fun x hx=>?_,by rw[DR,EU];lia⟩;rcases DX.mp hx with h|h
  ·exact hW x h
  ·rw[(Fv.mp h).2];exact wc
 obtain⟨e3,e4,cs,rfl,dr,hW,hl⟩:=z;have fin:∀(x:List Nat)(H':Hp),Dr p H H'->(∀c∈x,isW c)->Q (.str (Txt.slice (txt (red x)) none (some (most:Int)))) H':=fun x H' dr' xW=>by
  rw[gw];exact q _ H' dr' (fun c hc=>oN xW c (FT hc)) ((iM xW).take most) (by rw[Eu];lia)
 refine⟨_,rfl,p,3,rfl,dr.ds,by decide,by decide,fun r1 H1 b0 b1 dr1=>?_⟩;have D1:=dr.trans dr1;refine⟨rfl,decide (r1=0),by rw[dI],?_⟩;cases hB:decide (r1=0) with
 |false=>
  refine⟨_,rfl,cs,rfl,hW,by lia,fun H2 S2=>?_⟩;have rl:=fB cs;exact⟨_,rfl,_,rfl,txt (red cs),rfl,big _ (by show(red cs).length<=100000;lia),fin cs H2 (D1.trans (Dr.of_same D1.ds S2)) hW⟩
 |true=>
  refine⟨_,rfl,_,rfl,p,4,rfl,D1.ds,by decide,by decide,fun r2 H2 c0 c1 dr2=>?_⟩;refine⟨_,_,rfl,rfl,_,rfl,txt cs,rfl,big _ (by show cs.length<=100000;lia),?_⟩;have D2:=D1.trans dr2;have es:Txt.slice (txt cs) none (some (1+r2))=txt (cs.take (1+r2).toNat):=by rw[show(1+r2)=(((1+r2).toNat:Nat):Int) by lia,gw,EC]
  rw[es];have ls:(cs.take (1+r2).toNat).length<=4:=by rw[Eu];lia
  have sW:∀c∈cs.take (1+r2).toNat,isW c:=fun c hc=>hW c (FT hc);generalize cs.take (1+r2).toNat=st at ls sW;refine⟨_,rfl,_,rfl,_,_,rfl,rfl,big _ (by show st.length+cs.length<=100000;lia),?_⟩;rw[bU];refine⟨_,rfl,st,rfl,sW,by lia,fun H3 S3=>?_⟩;have bl:=iA st;refine⟨_,_,rfl,rfl,big _ (by show(st++cs).length+(bw st).length<=100000;rw[DR];lia),?_⟩;rw[bU];have aW:∀c∈st++cs++bw st,isW c:=fun c hc=>by
   rcases DX.mp hc with h|h
   ·rcases DX.mp h with h|h
    ·exact sW c h
    ·exact hW c h
   ·exact zF sW c h
  have al:(st++cs++bw st).length<=10000:=by rw[DR,DR];lia
  refine⟨_,rfl,_,rfl,aW,al,fun H4 S4=>?_⟩;have rl:=fB (st++cs++bw st);have D3:=D2.trans (Dr.of_same D2.ds S3);exact⟨_,rfl,_,rfl,txt (red (st++cs++bw st)),rfl,big _ (by show(red (st++cs++bw st)).length<=100000;lia),fin _ H4 (D3.trans (Dr.of_same D3.ds S4)) aW⟩
def ov:Option Int->V
 |none=>.non
 |some i=>.int i
abbrev Row:=List (Option Int)
abbrev gf(H:Hp)(v:V)(r:Row):Prop:=∃a,v=.ref a/\H a=some (.tup (r.map ov))
structure GrL(H:Hp)(g:Addr)(vs:List V)(G:List Row):Prop where
 lst:H g=some (.lst vs)
 rows:Paired (gf H) vs G
 four:∀r∈G,r.length=4
 few:G.length<=1000
theorem aT{α β:Type}{R:α->β->Prop}:∀{xs:List α}{ys:List β},Paired R xs ys->xs.length=ys.length
 |_,_,.nil=>rfl
 |_,_,.cons _ r=>by rw[EA,EA,aT r]
theorem jL{α β:Type}{R:α->β->Prop}:∀{xs:List α}{ys:List β}{i:Nat}{y:β},Paired R xs ys->ys[i]?=some y->∃x,xs[i]?=some x/\R x y
 |_,_,_,_,.nil,h=>by cases h
 |_,_,0,y,.cons r _,h=>by cases h;exact⟨_,rfl,r⟩
 |_,_,i+1,y,.cons _ p,h=>jL (i:=i) p h
theorem GrL.mono{H H':Hp}(S:Ia H H'){g:Addr}{vs:List V}{G:List Row}(h:GrL H g vs G):GrL H' g vs G:=
 ⟨S _ _ h.lst,Paired.IL h.rows fun v r hq74=>by obtain⟨a,e,q⟩:=hq74;exact⟨a,e,S _ _ q⟩,h.four,h.few⟩
theorem GrL.len{H:Hp}{g:Addr}{vs:List V}{G:List Row}(h:GrL H g vs G):vs.length=G.length:=aT h.rows
def ent (G:List Row)(i p:Nat):Option Int:=((G[i]?).bind fun r=>r[p]?).join
def place(c:Nat):Nat:=if c=117 then 0 else if c=118 then 1 else if c=85 then 2 else 3
theorem ja(c:Nat):place c<4:=by unfold place;split<;>(try split)<;>(try split)<;>decide
def inR (n:Nat):Option Int->Bool
 |none=>true
 |some e=>decide (0<=e)&&decide (e<n)
def vK (G:List Row)(i p:Nat):Bool:=match ent G i p with
 |none=>true
 |some e=>decide (ent G e.toNat ((p+2) % 4)=some (i:Int))
def yQ (n:Nat)(f:Nat->Nat->Bool):Bool:=(List.range n).all fun i=>(List.range 4).all fun p=>f i p
def isG (G:List Row):Bool:=!G.isEmpty&&(yQ G.length (fun i p=>inR G.length (ent G i p))&&yQ G.length (vK G))
def iR (G:List Row)(w:List Nat):Option Int:=w.foldl (fun s c=>s.bind fun e=>ent G e.toNat (place c)) (some 0)
theorem Jd{n:Nat}{f:Nat->Nat->Bool}:yQ n f=true↔∀i p,i<n->p<4->f i p=true:=by
 unfold yQ;simp only[EE,Es];exact⟨fun h i p hi hp=>h i hi p hp,fun h i hi p hp=>h i p hi hp⟩
theorem gE{G:List Row}{i p:Nat}{r:Row}(h:G[i]?=some r):ent G i p=(r[p]?).join:=by unfold ent;rw[h];rfl
theorem GrL.row{H:Hp}{g:Addr}{vs:List V}{G:List Row}(h:GrL H g vs G){i:Nat}(hi:i<G.length):∃a r,G[i]?=some r/\vs[i]?=some (.ref a)/\H a=some (.tup (r.map ov))/\r.length=4:=by
 obtain⟨x,hx,a,rfl,ha⟩:=jL h.rows (DW hi);exact⟨a,_,DW hi,hx,ha,h.four _ (Ep hi)⟩
theorem qf{r:Row}{p:Nat}(h4:r.length=4)(hp:p<4):(r.map ov)[p]?=some (ov (r[p]?).join):=by
 rw[DY,DW (by lia)];rfl
theorem lS{G:List Row}(h:isG G=true):∀(w:List Nat)(s:Option Int),inR G.length s=true->inR G.length (w.foldl (fun s c=>s.bind fun e=>ent G e.toNat (place c)) s)=true
 |[],s,hs=>hs
 |c::w,s,hs=>by
  rw[Fh];refine lS h w _ ?_;cases s with
  |none=>rfl
  |some e=>
   unfold isG at h;simp only[Ey] at h;unfold inR at hs;simp only[Ey,decide_eq_true_eq] at hs;exact Jd.mp h.2.1 e.toNat (place c) (by lia) (ja c)
theorem ym{G:List Row}(h:isG G=true):0<G.length:=by
 unfold isG at h;simp only[Ey] at h;cases G with
 |nil=>cases h.1
 |cons a b=>exact GE _
end
end K3
namespace L2
open PySem PySem.Spec PyProof.Rows
section
variable {prog:Program}{w:World}{A:Around}{R:Result->Shared->Prop}{s:Shared}{elt tg0 iter0 tg1 iter1:Expr}{ifs0 ifs1:List Expr}{scope:Scope}{pos:Pos}{it acc:Value}{env:Env}
abbrev cY(elt tg0 iter0 tg1 iter1:Expr)(ifs0 ifs1:List Expr)(scope:Scope)(pos:Pos):Expr:=.ListComp elt [⟨tg0,iter0,ifs0,0⟩,⟨tg1,iter1,ifs1,0⟩] scope pos
theorem Kl:compTurn (cY elt tg0 iter0 tg1 iter1 ifs0 ifs1 scope pos) 1 it acc env=(do
   standAt iter1.pos
   match <- pyNext it with
   |none=>pure (.done .next)
   |some v=>
    letOwnedTupleGo tg1 it v
    assign tg1 env v
    let mut ok:=true
    for c in ifs1 do
     if ok then ok <- isTrue c env (eval c env)
    if ok then
     (do let _ <- call (.builtin "list.append") [acc,<- eval elt env])
    again (.compLoop (cY elt tg0 iter0 tg1 iter1 ifs0 ifs1 scope pos) 1 it acc env)):=by rfl
theorem Ka:compTurn (cY elt tg0 iter0 tg1 iter1 ifs0 ifs1 scope pos) 0 it acc env=(do
   standAt iter0.pos
   match <- pyNext it with
   |none=>pure (.done .next)
   |some v=>
    letOwnedTupleGo tg0 it v
    assign tg0 env v
    let mut ok:=true
    for c in ifs0 do
     if ok then ok <- isTrue c env (eval c env)
    if ok then
     let x <- eval iter1 env
     standAt iter1.pos
     let x <- foldedSetIterable iter1 env x
     let _ <- runOwn (.compStart (cY elt tg0 iter0 tg1 iter1 ifs0 ifs1 scope pos) 1 (<- holding [x] (pyIter x)) acc env) env
    again (.compLoop (cY elt tg0 iter0 tg1 iter1 ifs0 ifs1 scope pos) 0 it acc env)):=by rfl
theorem vC(I:Nat->Shared->Prop)
  (turn:∀n s,I n s->wpAny (model prog w) A (pyNext it) (fun r s₁=>match r with
   |none=>R (.ok .next) s₁
   | some v=>wpAny (model prog w) A (letOwnedTupleGo tg1 it v) (fun _ s₁'=>wpAny (model prog w) A (assign tg1 env v) (fun _ s₂ =>
     wpAny (model prog w) A (forIn ifs1 true fun c r=>if r=true then do let ok <- isTrue c env (eval c env); pure (ForInStep.yield ok) else pure (ForInStep.yield r)) (fun ok s₃ =>
      if ok=true then wpAny (model prog w) A (eval elt env) (fun x s₄ =>
       wpAny (model prog w) A (call (.builtin "list.append") [acc,x]) (fun _ s₅=>∃m,m < n/\I m s₅) (fun _ _=>False) s₄) (fun _ _=>False) s₃
      else ∃m,m < n/\I m s₃) (fun _ _=>False) s₂) (fun _ _=>False) s₁') (fun _ _=>False) s₁) (fun _ _=>False) s)
  (n:Nat) (h:I n s):codeAny (model prog w) A (.compLoop (cY elt tg0 iter0 tg1 iter1 ifs0 ifs1 scope pos) 1 it acc env) R s:=by
 refine codeAny_loop rfl I (fun n s hI=>?_) n h;show wpAny _ A ((compTurn (cY elt tg0 iter0 tg1 iter1 ifs0 ifs1 scope pos) 1 it acc env).onRaise (fun x=>do noteFrame x env;theTreesLotGoes x)) _ _ s;refine wpAny_noted ?_;rw[Kl];refine Hm (wpAny_standAt (Hm (Hv (turn n s hI) (fun r s₁ h₁=>?_) fun _ _ h'=>h'.elim)));cases r with
 |none=>exact Hn h₁
 |some v=>
  refine Hm (Hv h₁ (fun _ s₁' h₁'=>?_) fun _ _ h'=>h'.elim);refine Hm (Hv h₁' (fun _ s₂ h₂=>Hm (Hv h₂ (fun ok s₃ h₃=>?_) fun _ _ h'=>h'.elim)) fun _ _ h'=>h'.elim);cases ok with
  |false=>exact Hn ⟨rfl,h₃⟩
  |true=>
   exact Hm (Hm (Hv h₃ (fun x s₄ h₄=>Hm (Hv h₄ (fun _ s₅ h₅=>Hn (Hn ⟨rfl,h₅⟩)) fun _ _ h'=>h'.elim)) fun _ _ h'=>h'.elim))
theorem rA(hs:∀x,foldedSetIterable iter1 env x=pure x)(I:Nat->Shared->Prop)
  (turn:∀n s,I n s->wpAny (model prog w) A (pyNext it) (fun r s₁=>match r with
   |none=>R (.ok .next) s₁
   | some v=>wpAny (model prog w) A (letOwnedTupleGo tg0 it v) (fun _ s₁'=>wpAny (model prog w) A (assign tg0 env v) (fun _ s₂ =>
     wpAny (model prog w) A (forIn ifs0 true fun c r=>if r=true then do let ok <- isTrue c env (eval c env); pure (ForInStep.yield ok) else pure (ForInStep.yield r)) (fun ok s₃ =>
      if ok=true then wpAny (model prog w) A (eval iter1 env) (fun x s₄ =>
       wpAny (model prog w) A (pyIter x) (fun itv s₅=>codeAny (model prog w) A (.compStart (cY elt tg0 iter0 tg1 iter1 ifs0 ifs1 scope pos) 1 itv acc env) (fun r s₆=>r=.ok .next/\∃m,m < n/\I m s₆) s₅) (fun _ _=>False) s₄) (fun _ _=>False) s₃
      else ∃m,m < n/\I m s₃) (fun _ _=>False) s₂) (fun _ _=>False) s₁') (fun _ _=>False) s₁) (fun _ _=>False) s)
  (n:Nat) (h:I n s):codeAny (model prog w) A (.compLoop (cY elt tg0 iter0 tg1 iter1 ifs0 ifs1 scope pos) 0 it acc env) R s:=by
 refine codeAny_loop rfl I (fun n s hI=>?_) n h;show wpAny _ A ((compTurn (cY elt tg0 iter0 tg1 iter1 ifs0 ifs1 scope pos) 0 it acc env).onRaise (fun x=>do noteFrame x env;theTreesLotGoes x)) _ _ s;refine wpAny_noted ?_;rw[Ka];refine Hm (wpAny_standAt (Hm (Hv (turn n s hI) (fun r s₁ h₁=>?_) fun _ _ h'=>h'.elim)));cases r with
 |none=>exact Hn h₁
 |some v=>
  refine Hm (Hv h₁ (fun _ s₁' h₁'=>?_) fun _ _ h'=>h'.elim);refine Hm (Hv h₁' (fun _ s₂ h₂=>Hm (Hv h₂ (fun ok s₃ h₃=>?_) fun _ _ h'=>h'.elim)) fun _ _ h'=>h'.elim);cases ok with
  |false=>exact Hn ⟨rfl,h₃⟩
  |true=>
   refine Hm (Hv h₃ (fun x s₄ h₄=>Hm (wpAny_standAt ?_)) fun _ _ h'=>h'.elim);rw[hs];refine Hm (Hn (Hm (Hw (Hv h₄ (fun itv s₅ h₅=>?_) fun _ _ h'=>h'.elim))));refine Hm (wpAny_runOwn (codeAny_mono h₅ fun r s₆ h₆=>?_));obtain⟨rfl,h7⟩:=h₆;exact Hn ⟨rfl,h7⟩
theorem qX(h0:codeAny (model prog w) A (.compLoop (cY elt tg0 iter0 tg1 iter1 ifs0 ifs1 scope pos) 1 it acc env) R s)
  (h:wpAny (model prog w) A (pyIter it) (fun it' s'=>codeAny (model prog w) A (.compLoop (cY elt tg0 iter0 tg1 iter1 ifs0 ifs1 scope pos) 1 it' acc env) R s')
   (notedBy (model prog w) A env fun x s'=>R (.error x) s') s) :
  codeAny (model prog w) A (.compStart (cY elt tg0 iter0 tg1 iter1 ifs0 ifs1 scope pos) 1 it acc env) R s:=by
 refine codeAny_of_tree ?_;show wpAny _ _ ((compStart (cY elt tg0 iter0 tg1 iter1 ifs0 ifs1 scope pos) 1 it acc env).onRaise (fun x=>do noteFrame x env;standAt theWindowsPlace)) _ _ s;refine wpAny_notedAt ?_;unfold compStart;show wpAny _ _ (ask >>= _) _ _ s;refine Hm (wpAny_askSetting (wpAny_ite ?_));split
 ·first
   |exact Hm (Hn (Hn (And.intro rfl h0)))
   |exact Hn (And.intro rfl h0)
 ·first
   |exact Hm (HS (Hm (wpAny_standAt (Hm (Hv h (fun it' s' h'=>Hn (And.intro rfl h')) fun _ _ x=>x)))))
   |(refine Hm (HS ?_);show wpAny _ _ (standAt iter1.pos >>= _) _ _ s;exact Hm (wpAny_standAt (Hm (Hv h (fun it' s' h'=>Hn (And.intro rfl h')) fun _ _ x=>x))))
end
def jU (J:It)(g:TG)(tc:TT)(te:TE)(σ:St)(H:Hp)(ys:List V)(Q:List V->Hp->Prop):Prop:=
 ∃W:Nat->Nat->St->List V->Hp->Prop,(∃m,W 0 m σ ys H)/\∀j m σ ys H,W j m σ ys H ->
  (J.stop j H/\ys.length<=sizeLine/\Q ys H) \/
  (J.go j H/\ys.length<sizeLine/\∀x H',J.yld j H x H'->g x σ H' fun σ2 H2=>tc σ2 H2 fun b H3=>if b=true then te σ2 H3 fun y H4=>∃m',m'<m/\W (j+1) m' σ2 (ys++[y]) H4 else ∃m',m'<m/\W (j+1) m' σ2 ys H3)
def oJ (J:It)(k:Nat)(js:List Nat)(g:TG)(tc:TT)(wi1:TI)(g1:TG)(tc1:TT)(te:TE)(σ:St)(H1:Hp)(Q:VK):Prop:=
 ∃W:Nat->Nat->List V->Hp->Prop,(∃m,W 0 m [] H1)/\∀i m ys H,W i m ys H ->
  (J.stop i H/\ys.length<=sizeLine/\∀p,H p=none->Q (.ref p) (upd H p (.lst ys))) \/
  (J.go i H/\∀x H',J.yld i H x H'->g x (List.replicate k none++cS js σ) H' fun σ2 H2=>tc σ2 H2 fun b H3 =>
   if b=true then wi1 σ2 H3 fun J1 H4=>jU J1 g1 tc1 te σ2 H4 ys fun ys' H5=>∃m',m' < m/\W (i+1) m' ys' H5 else ∃m',m' < m/\W (i+1) m' ys H3)
def yq (wi:TI)(k:Nat)(js:List Nat)(g:TG)(tc:TT)(wi1:TI)(g1:TG)(tc1:TT)(te:TE):TE:=fun σ H Q=>wi σ H fun J H1=>oJ J k js g tc wi1 g1 tc1 te σ H1 Q
section
variable {X:Cx}{scope:Scope}{ts cap:List Str}{js:List Nat}{elt tg0 iter0 tg1 iter1:Expr}{ifs0 ifs1:List Expr}{pos:Pos}
theorem mM{s0:Shared}{H0:Hp}{C:Addr}{fp:List Addr}{P:List (Addr×Obj)}{D:Addr}{its0:List Value}{n0:Nat}{ys0:List V}{σ:St}{H:Hp}{s:Shared}{J:It}{fp1:List Addr}{it1:Addr}{tn1:Nat->Heap->Prop}{g1:TG}{tc1:TT}{te:TE}{Q:List V->Hp->Prop}{R:Result->Shared->Prop}
  (hc:X.calm=true)(I:Inv (aI X scope C fp (ts++cap) s0 H0) ([(D,dC its0 n0)]++P) σ H s)(v0:Vals ys0 its0)(T:Turn X.prog X.w X.K tg1 J fp1 it1 tn1)(st:tn1 0 s.heap)(hf:∀b∈fp1,ID (aI X scope C fp (ts++cap) s0 H0) ([(D,dC its0 n0)]++P) H b)
  (hD0:D∈(aI X scope C fp (ts++cap) s0 H0).ex\/s0.heap.get? D=none)(hDc:∀x c,(aI X scope C fp (ts++cap) s0 H0).env.cells.lookup x=some c->c≠D)(hDp:∀p∈X.pn++P,p.1≠D)
  (hg:PG (aI X scope C fp (ts++cap) s0 H0) tg1 g1)(ht:PTs (aI X scope C fp (ts++cap) s0 H0) ifs1 tc1)(he:PE (aI X scope C fp (ts++cap) s0 H0) elt te)
  (cv:jU J g1 tc1 te σ H ys0 Q)
  (hR:∀σ' ys its n H' s',Inv (aI X scope C fp (ts++cap) s0 H0) ([(D,dC its n)]++P) σ' H' s'->Vals ys its->Q ys H'->R (.ok .next) s') :
  codeAny (model X.prog X.w) X.A (.compStart (cY elt tg0 iter0 tg1 iter1 ifs0 ifs1 scope pos) 1 (.ref it1) (.ref D) (compEnvC scope (eE X.env.cells scope.names []) C X.env)) R s:=by
 obtain⟨W,⟨m0,w0⟩,turn⟩:=cv;have stat:∀{H':Hp}{its:List Value}{n:Nat},(∀b∈fp1,H' b=none)->∀b∈fp1,ID (aI X scope C fp (ts++cap) s0 H0) ([(D,dC its n)]++P) H' b:=fun {H' its n} hn b hb=>by
  obtain⟨f0,f1,f2,f3,f4,f5⟩:=hf b hb;refine⟨hn b hb,f1,f2,f3,f4,fun p hp=>?_⟩;rcases DX.mp hp with z|z
  ·exact f5 p (Eh _ z)
  ·rcases DX.mp z with z|z
   ·have e:p=(D,dC its n):=by simpa using z
    subst e;exact f5 (D,dC its0 n0) (DV _ (Eh _ DS))
   ·exact f5 p (DV _ (DV _ z))
 have nfp:∀b∈fp1,b≠D:=fun b hb=>by
  obtain⟨f0,f1,f2,f3,f4,f5⟩:=hf b hb;exact HI (f5 (D,dC its0 n0) (DV _ (Eh _ DS)))
 have loop:∀s3:Shared,s3=s->codeAny (model X.prog X.w) X.A (.compLoop (cY elt tg0 iter0 tg1 iter1 ifs0 ifs1 scope pos) 1 (.ref it1) (.ref D) (compEnvC scope (eE X.env.cells scope.names []) C X.env)) R s3:=by
  rintro s3 rfl;refine vC (fun k s'=>∃j σ' H' ys its n,Inv (aI X scope C fp (ts++cap) s0 H0) ([(D,dC its n)]++P) σ' H' s'/\Vals ys its/\tn1 j s'.heap/\(∀b∈fp1,H' b=none)/\W j k σ' ys H') ?_ m0
   ⟨0,σ,H,ys0,its0,n0,I,v0,st,fun b hb=>(hf b hb).1,w0⟩
  rintro k s3 ⟨j,σ3,H3,ys,its,n,I3,v3,st3,fr3,w3⟩;rcases turn j k σ3 ys H3 w3 with ⟨stop,hz,fin⟩|⟨go,hz,step⟩
  ·refine thn (T.done (aI X scope C fp (ts++cap) s0 H0) rfl rfl rfl hc j _ s3 _ H3 _ I3 (stat fr3) st3 stop) fun r s4 hq75=>?_;obtain⟨hr,I4⟩:=hq75;subst hr;exact hR _ _ _ _ _ _ I4 v3 fin
  ·refine thn (T.item (aI X scope C fp (ts++cap) s0 H0) rfl rfl rfl hc j _ s3 _ H3 _ I3 (stat fr3) st3 go) fun r s4 hq76=>?_;obtain⟨u,hr,h4⟩:=hq76;subst hr;refine thn h4 fun _ s5 hq77=>?_;obtain⟨x,H5,I5,r5,y5,st5,fr5⟩:=hq77;have I5':=I5.pinned (stat fr5) (T.obj _ _ st5);refine thn (hg _ s5 _ H5 x u _ I5' r5 (step x H5 y5)) fun _ s6 hq78=>?_;obtain⟨σ6,H6,I6,q6⟩:=hq78;refine thn (ht _ s6 σ6 H6 _ I6 q6) fun ok s7 hq79=>?_;obtain⟨H7,I7,q7⟩:=hq79;have pinned:∀{σ':St}{H':Hp}{s':Shared},Inv (aI X scope C fp (ts++cap) s0 H0) ([(D,dC its n)]++P++dz fp1 s5.heap) σ' H' s'->tn1 (j+1) s'.heap/\∀b∈fp1,H' b=none:=fun {σ' H' s'} J'=>by
    refine⟨T.keep _ _ _ st5 fun b hb o e=>(J'.pin (b,o) (DV _ (DV _ (bq hb e)))).1,fun b hb=>?_⟩;obtain⟨o,e,d⟩:=T.obj _ _ st5 b hb;exact(J'.pin (b,o) (DV _ (DV _ (bq hb e)))).2.1
   cases ok with
   |false=>
    rw[Ho Ek] at q7 ⊢;obtain⟨m',hm,w7⟩:=q7;obtain⟨st7,fr7⟩:=pinned I7;exact⟨m',hm,j+1,σ6,H7,ys,its,n,I7.Im,v3,st7,fr7,w7⟩
   |true=>
    rw[Hq rfl] at q7 ⊢;refine thn (he _ s7 σ6 H7 _ I7 q7) fun yv s8 hq80=>?_;obtain⟨y,H8,I8,r8,m',hm,w8⟩:=hq80;obtain⟨st8,fr8⟩:=pinned I8;have I8':=I8.Im;obtain⟨hDg,hDn,hDC',hDs,hDd⟩:=I8'.pin (D,dC its n) (DV _ (Eh _ DS));have hl:=v3.length;refine append_at (hsz:=by rw[Ed];lia) hDg fun h9 hs9 hD9=>?_;have tracked:∀b o,b≠D->s8.heap.get? b=some o->h9.get? b=some o:=fun b o hb e=>hs9.extBut b o hb e;have I9:Inv (aI X scope C fp (ts++cap) s0 H0) ([(D,dC (its++[yv]) (n+1))]++P) σ6 H8 {s8 with heap:=h9}:=by
     have J0:Inv (aI X scope C fp (ts++cap) s0 H0) P σ6 H8 s8:=I8'.IU (fun p hp=>I8'.pin p (DV _ (DV _ hp)));have J1:Inv (aI X scope C fp (ts++cap) s0 H0) P σ6 H8 {s8 with heap:=h9,toks:=s8.toks}:=J0.turned (it:=D) tracked hDn hDC' hD0 hDc hDp;refine J1.IU fun p hp=>?_;rcases DX.mp hp with z|z
     ·have e:p=(D,dC (its++[yv]) (n+1)):=by simpa using z
      subst e;refine⟨?_,hDn,hDC',hDs,fun v z=>by cases z⟩;show h9.get? D=_;rw[hD9];simp[dC,List.push_toArray]
     ·exact J1.pin p (DV _ z)
    have st9:tn1 (j+1) h9:=T.keep _ _ _ st8 fun b hb o e=>tracked b o (nfp b hb) e;exact⟨m',hm,j+1,σ6,H8,ys++[y],its++[yv],n+1,I9,v3.append (.cons r8 .nil),st9,fr8,w8⟩
 exact qX (loop _ rfl) (T.self _ _ _ _ _ st (loop _ rfl))
theorem kz{pins:List (Addr×Obj)}{σ:St}{H:Hp}{s:Shared}{fp:List Addr}{g:TG}{tc:TT}{wi1:TI}{g1:TG}{tc1:TT}{te:TE}{J:It}{it:Addr}{tn:Nat->Heap->Prop}{W:Nat->Nat->List V->Hp->Prop}{m0:Nat}{E:Value->Shared->Prop}
  {RR:Value->Addr->Result->Shared->Prop}{Fin:List V->Hp->Prop}(hc:X.calm=true)
  (I:Inv X pins σ H s)(T:Turn X.prog X.w X.K tg0 J fp it tn)(st:tn 0 s.heap)(hf:∀b∈fp,ID X pins H b)(CS:bM X scope ts cap js)
  (hg:∀C fp s H,PG (aI X scope C fp (ts++cap) s H) tg0 g)(ht:∀C fp s H,PTs (aI X scope C fp (ts++cap) s H) ifs0 tc)(hi1:∀C fp s H,PI (aI X scope C fp (ts++cap) s H) tg1 iter1 wi1)
  (hg1:∀C fp s H,PG (aI X scope C fp (ts++cap) s H) tg1 g1)(ht1:∀C fp s H,PTs (aI X scope C fp (ts++cap) s H) ifs1 tc1)(he:∀C fp s H,PE (aI X scope C fp (ts++cap) s H) elt te)
  (hs1:∀C x,foldedSetIterable iter1 (compEnvC scope (eE X.env.cells scope.names []) C X.env) x=pure x)
  (w0:W 0 m0 [] H)
  (turn:∀i m ys H,W i m ys H->(J.stop i H/\ys.length<=sizeLine/\Fin ys H)\/(J.go i H/\∀x H',J.yld i H x H'->g x (List.replicate ts.length none++cS js σ) H' fun σ2 H2=>tc σ2 H2 fun b H3 =>
   if b=true then wi1 σ2 H3 fun J1 H4=>jU J1 g1 tc1 te σ2 H4 ys fun ys' H5=>∃m',m' < m/\W (i+1) m' ys' H5 else ∃m',m' < m/\W (i+1) m' ys H3))
  (hRR:∀D C s' H' ys m,Inv X pins σ (upd H' D (.lst ys)) s'->s'.heap.Ns C m->s.heap.objs.size<=C->s.heap.objs.size<=D->C≠D->H' C=none->H' D=none->Fin ys H'->RR (.ref D) C (.ok .next) s') :
  (wq X) (newList []) (fun acc s₃=>(wq X) (newFunctionEnv scope X.env.globals (eE X.env.cells scope.names []) [] X.env.qual none .none (some X.env)) (fun cenv s₄ =>
   codeAny (model X.prog X.w) X.A (.compStart (cY elt tg0 iter0 tg1 iter1 ifs0 ifs1 scope pos) 0 (.ref it) acc { cenv with scope:=relabel scope X.env }) (RR acc cenv.locals) s₄) E s₃) E s:=by
 have TA:∀C,LH (aI X scope C fp (ts++cap) s H) tg0 J fp it tn:=fun C=>⟨T.item (aI X scope C fp (ts++cap) s H) rfl rfl rfl hc,T.done (aI X scope C fp (ts++cap) s H) rfl rfl rfl hc⟩
 refine wpAny_newObj_type (wpAny_newFunctionEnv CS.Of (by intro y hy;simp at hy) (fun h₁ hns₁ hsb₁=>?_) CS.kind);dsimp only at hns₁ hsb₁ ⊢;generalize hH2:s.heap.push {cls:=.type "list",dict:=none,data:=.seq ([]:List Value).toArray}=H2 at hns₁ hsb₁ ⊢;have hCs:H2.objs.size=s.heap.objs.size+1:=by rw[<- hH2,HR]
 have hDC:s.heap.objs.size≠H2.objs.size:=by rw[hCs];exact DZ (Fm _)
 have hCle:s.heap.objs.size<=H2.objs.size:=by rw[hCs];exact EO _
 have below:∀b,b<s.heap.objs.size->b≠H2.objs.size:=fun b hb=>by rw[hCs];exact DZ (Fn hb)
 have old:∀b o,s.heap.get? b=some o->h₁.get? b=some o:=fun b o e=>hsb₁.extBut b o (below b (Hz e)) (HJ _ (hH2▸HJ _ e));have hacc:h₁.get? s.heap.objs.size=some (dC [] 0):=hsb₁.extBut _ _ hDC (HJ _ (hH2▸HK _ rfl));have hfl:∀b∈fp,b<s.heap.objs.size:=fun b hb=>by obtain⟨o,e,_⟩:=T.obj _ _ st b hb;exact Hz e
 have st₁:tn 0 h₁:=T.keep _ _ _ st fun b _ o e=>old b o e;have hDstk:s.heap.objs.size∉frs X.stack:=fun z=>by
  obtain⟨_,o,ho,_⟩:=I.stack.mem z;exact absurd (Hz ho) (Er _)
 have I0:Inv (aI X scope H2.objs.size fp (ts++cap) s H) [(s.heap.objs.size,dC [] 0)] (List.replicate ts.length none++cS js σ) H {s with heap:=h₁,toks:=s.toks+([]:List (Str×Value)).length}:=
  rJ I CS hf hfl hCle old hns₁ rfl I.bare fun p hp=>by
   have e:p=(s.heap.objs.size,dC [] 0):=by simpa using hp
   subst e;exact⟨hacc,I.hok.fresh (DP _),hDC,hDstk,fun v z=>by cases z⟩
 have stat:∀{H':Hp}{ys:List Value}{n:Nat},(∀b∈fp,H' b=none)->∀b∈fp,ID (aI X scope H2.objs.size fp (ts++cap) s H) [(s.heap.objs.size,dC ys n)] H' b:=fun {H' ys n} hn b hb=>by
  obtain⟨f0,f1,f2,f3,f4,f5⟩:=hf b hb;refine⟨hn b hb,below b (hfl b hb),?_,.inl hb,fun x c e=>f4 x c (CS.look I.ok e),fun p hp=>?_⟩
  ·exact(iL I CS hf hfl hCle).MI b hb
  ·rcases DX.mp hp with z|z
   ·exact f5 p (Eh _ z)
   ·have e:p=(s.heap.objs.size,dC ys n):=by simpa using z
    subst e;intro q;have q':s.heap.objs.size=b:=q;exact absurd (hfl b hb) (by rw[<- q'];exact Er _)
 have loop:∀s₃:Shared,s₃={s with heap:=h₁,toks:=s.toks+([]:List (Str×Value)).length} ->
   codeAny (model X.prog X.w) X.A (.compLoop (cY elt tg0 iter0 tg1 iter1 ifs0 ifs1 scope pos) 0 (.ref it) (.ref s.heap.objs.size) (compEnvC scope (eE X.env.cells scope.names []) H2.objs.size X.env))
    (RR (.ref s.heap.objs.size) H2.objs.size) s₃:=by
  rintro s₃ rfl;refine rA (hs1 _) (fun k s'=>∃i H' ys its n,Inv (aI X scope H2.objs.size fp (ts++cap) s H) [(s.heap.objs.size,dC its n)] (List.replicate ts.length none++cS js σ) H' s'/\Vals ys its/\tn i s'.heap/\(∀b∈fp,H' b=none)/\W i k ys H') ?_ m0
   ⟨0,H,[],[],0,I0,.nil,st₁,fun b hb=>(hf b hb).1,w0⟩
  rintro k s3 ⟨i,H3,ys,its,n,I3,v3,st3,fr3,w3⟩;rcases turn i k ys H3 w3 with ⟨stop,hz,fin⟩|⟨go,step⟩
  ·refine thn ((TA _).done i _ s3 _ H3 _ I3 (stat fr3) st3 stop) fun r s4 hq81=>?_;obtain⟨hr,I4⟩:=hq81;subst hr;obtain⟨m4,hn4,_⟩:=I4.loc;exact hRR _ _ s4 H3 ys m4 (jE I hf hCle (DP _) I4 v3 hz) hn4 hCle (DP _) (HI hDC) I4.free (I4.pin (s.heap.objs.size,dC its n) (DV _ DS)).2.1 fin
  ·refine thn ((TA _).item i _ s3 _ H3 _ I3 (stat fr3) st3 go) fun r s4 hq82=>?_;obtain⟨u,hr,h4⟩:=hq82;subst hr;refine thn h4 fun _ s5 hq83=>?_;obtain⟨x,H5,I5,r5,y5,st5,fr5⟩:=hq83;have I5':=I5.pinned (stat fr5) (T.obj _ _ st5);refine thn (hg _ _ _ _ _ s5 _ H5 x u _ I5' r5 (step x H5 y5)) fun _ s6 hq84=>?_;obtain⟨σ6,H6,I6,q6⟩:=hq84;refine thn (ht _ _ _ _ _ s6 σ6 H6 _ I6 q6) fun ok s7 hq85=>?_;obtain⟨H7,I7,q7⟩:=hq85;have pinned:∀{σ':St}{H':Hp}{s':Shared},Inv (aI X scope H2.objs.size fp (ts++cap) s H) ([(s.heap.objs.size,dC its n)]++dz fp s5.heap) σ' H' s'->tn (i+1) s'.heap/\∀b∈fp,H' b=none:=fun {σ' H' s'} J=>by
    refine⟨T.keep _ _ _ st5 fun b hb o e=>(J.pin (b,o) (DV _ (DV _ (bq hb e)))).1,fun b hb=>?_⟩;obtain⟨o,e,d⟩:=T.obj _ _ st5 b hb;exact(J.pin (b,o) (DV _ (DV _ (bq hb e)))).2.1
   cases ok with
   |false=>
    rw[Ho Ek] at q7 ⊢;obtain⟨m',hm,w7⟩:=q7;obtain⟨st7,fr7⟩:=pinned I7;exact⟨m',hm,i+1,H7,ys,its,n,cq I CS hf I7.Im,v3,st7,fr7,w7⟩
   |true=>
    rw[Hq rfl] at q7 ⊢;refine thn (hi1 _ _ _ _ _ s7 σ6 H7 _ I7 q7) fun xv s8 h8=>thn h8 fun itv s9 h9=>?_;obtain⟨it1,fp1,tn1,J1,H9,e9,I9,T1,st9,f9,cv⟩:=h9;subst e9;refine mM (D:=s.heap.objs.size) (its0:=its) (n0:=n) (P:=dz fp s5.heap) hc I9 v3 T1 st9 f9 (.inr (Heap.get?_none_of_le (DP _))) (fun x c e q=>?_) (fun p hp q=>?_) (hg1 _ _ _ _) (ht1 _ _ _ _) (he _ _ _ _) cv (fun σ' ys' its' n' H' s' I' v' q'=>⟨rfl,?_⟩)
    ·obtain⟨v,o,ho,_⟩:=I.cell x c (CS.look I.ok e);rw[q] at ho;exact absurd (Hz ho) (Er _)
    ·rcases DX.mp hp with z|z
     ·obtain⟨e,_⟩:=I.pin p (Eh _ z);rw[q] at e;exact absurd (Hz e) (Er _)
     ·obtain⟨hb,_⟩:=jq z;exact absurd (hfl _ hb) (by rw[q];exact Er _)
    ·obtain⟨m',hm,w8⟩:=q';have st8:tn (i+1) s'.heap:=T.keep _ _ _ st5 fun b hb o e=>(I'.pin (b,o) (DV _ (DV _ (bq hb e)))).1;have fr8:∀b∈fp,H' b=none:=fun b hb=>by
      obtain⟨o,e,d⟩:=T.obj _ _ st5 b hb;exact(I'.pin (b,o) (DV _ (DV _ (bq hb e)))).2.1
     exact⟨m',hm,i+1,H',ys',its',n',cq I CS hf I'.Im,v',st8,fr8,w8⟩
 exact codeAny_compStart_list (loop _ rfl) (T.self _ _ _ _ _ st₁ (loop _ rfl))
end
def NxV (n j:Nat)(P:Nat->St->List V->Hp->Prop)(σ:St)(ys:List V)(H:Hp):Prop:=∃m',m'<n-j/\(m'=n-(j+1)/\j+1<=n/\P (j+1) σ ys H)
theorem NxV.mk{n j:Nat}{P:Nat->St->List V->Hp->Prop}{σ:St}{ys:List V}{H:Hp}(hj:j<n)(h:P (j+1) σ ys H):NxV n j P σ ys H:=⟨n-(j+1),by lia,rfl,hj,h⟩
theorem sg{J:It}{n:Nat}{g:TG}{tc:TT}{te:TE}{σ0:St}{H0:Hp}{ys0:List V}{Q:List V->Hp->Prop}(P:Nat->St->List V->Hp->Prop)(h0:P 0 σ0 ys0 H0)(hz:∀j σ ys H,j<=n->P j σ ys H->ys.length<sizeLine)
  (hgo:∀j σ ys H,j<n->P j σ ys H->J.go j H)(hstop:∀σ ys H,P n σ ys H->J.stop n H)
  (hs:∀j σ ys H x H',j<n->P j σ ys H->J.yld j H x H'->g x σ H' fun σ2 H2=>tc σ2 H2 fun b H3=>if b=true then te σ2 H3 fun y H4=>NxV n j P σ2 (ys++[y]) H4 else NxV n j P σ2 ys H3)
  (hd:∀σ ys H,P n σ ys H->Q ys H):jU J g tc te σ0 H0 ys0 Q:=by
 refine⟨fun j m σ ys H=>m=n-j/\j<=n/\P j σ ys H,⟨n,by simp,Ec _,h0⟩,?_⟩;rintro j m σ ys H ⟨rfl,hj,p⟩;have hy:=hz j σ ys H hj p;by_cases hlt:j<n
 ·exact .inr ⟨hgo j σ ys H hlt p,hy,fun x H' y=>hs j σ ys H x H' hlt p y⟩
 ·have e:j=n:=by lia
  subst e;exact .inl ⟨hstop σ ys H p,EH hy,hd σ ys H p⟩
theorem sC{J:It}{n k:Nat}{js:List Nat}{g:TG}{tc:TT}{wi1:TI}{g1:TG}{tc1:TT}{te:TE}{σ:St}{H:Hp}{Q:VK}(P:Nat->List V->Hp->Prop)(h0:P 0 [] H)(hz:∀i ys H,i<=n->P i ys H->ys.length<=sizeLine)
  (hgo:∀i ys H,i<n->P i ys H->J.go i H)(hstop:∀ys H,P n ys H->J.stop n H)
  (hs:∀i ys H x H',i<n->P i ys H->J.yld i H x H'->g x (List.replicate k none++cS js σ) H' fun σ2 H2=>tc σ2 H2 fun b H3=>if b=true then wi1 σ2 H3 fun J1 H4=>jU J1 g1 tc1 te σ2 H4 ys fun ys' H5=>Nx n i P ys' H5 else Nx n i P ys H3)
  (hd:∀ys H,P n ys H->∀p,H p=none->Q (.ref p) (upd H p (.lst ys))):oJ J k js g tc wi1 g1 tc1 te σ H Q:=by
 refine⟨fun i m ys H=>m=n-i/\i<=n/\P i ys H,⟨n,by simp,Ec _,h0⟩,?_⟩;rintro i m ys H ⟨rfl,hi,p⟩;have hy:=hz i ys H hi p;by_cases hlt:i<n
 ·exact .inr ⟨hgo i ys H hlt p,fun x H' y=>hs i ys H x H' hlt p y⟩
 ·have e:i=n:=by lia
  subst e;exact .inl ⟨hstop ys H p,hy,hd ys H p⟩
section
variable {X:Cx}
def NF:V->List V->Hp->VK->Prop:=fun x vs H Q=>∃z y i,x=.str z/\vs=[.str y]/\iH z.cps.toList y.cps.toList=some i/\Q (.int (i:Nat)) H
theorem LA:MtR X "str.index" NF:=by
 intro pins s σ H x vs v us Q I rx rv h;obtain⟨z,y,i,rfl,rfl,hi,q⟩:=h;obtain⟨t,rfl⟩:=rx;obtain⟨u,rfl,t',rfl⟩:=rv.one;exact SC.index (i:=i) (rest:=[]) (by rw[mZ,hi];rfl) ⟨.int _,H,I.tok _,⟨_,rfl⟩,q⟩
def uw (K:W.Frag):V->List V->Hp->VK->Prop:=fun x vs H Q=>∃a,∃ns:List Int,∃k,x=.ref a/\vs=[.int k]/\SqL K H a (ns.map V.int)/\PyData.layable0 (.list (ns.map .int))=true/\k∈ns/\Q (.int (ns.idxOf k:Nat)) H
theorem JX:MtR X "list.index" (uw X.K):=by
 intro pins s σ H x vs v us Q I rx rv h;obtain⟨a,ns,k,rfl,rfl,ha,hy,hk,q⟩:=h;cases rx;obtain⟨u,rfl,t',rfl⟩:=rv.one;obtain⟨its,r,pl,hz⟩:=I.list ha;exact index_list_ints pl.isList (ik r) hy hk ⟨.int _,H,I.tok _,⟨_,rfl⟩,q⟩
end
end L2
namespace K3
open PySem PySem.Spec PyProof.Rows L2
section
variable {P:Program}{w:World}{K:PySem.W.Frag}{mg:Str->Option Value}{base:Heap}
def OA:Sp:=fun vs H Q _=>∃v cs,vs=[v]/\(∀c∈cs,isW c)/\Red cs/\cs.length<=10/\T4o H v (wt cs)/\∀H',Ia H H'->Q (.str (txt cs)) H'
theorem xB{di dw d:DD}{lt:Tok}(m_lm:mg "LONGEST_WIDE_MAKER"=some (.int 10 lt))(BB:(dg "is_wide" 25 ["table"] di 3 PR))(BS:(dg "wide_word_within" 27 ["table","most"] dw 2 Oo))(D:Def K mg "wide_maker_word" (top 31) ["maker"] d):(fk 4 d ["maker"] OA):=by
 exists["maker","word"]
 obtain⟨v,cs,rfl,hW,hR,hl,h4,q⟩:=h;have hb:=yt hW;refine⟨_,(ae (br (gP (fE (bu BB.1 BB.2 (0) aC))) (aq (@JE _ _)) (HZ _)) (ae (aw 1 (bz BS.1 BS.2 (ag (0) (aL (gH (.int 10) m_lm ⟨_,rfl⟩) aC) aC))) (ae (br (aB Kd (1) (bR _) (aD _)) (aq (@JE _ _)) (HZ _)) (aq (aH (1)))))),?_⟩
 walk_at "d"
 refine⟨_,rfl,v,wt cs,_,rfl,h4,hb,by lia,fun H1 S1=>⟨oR (wt cs),rfl,?_⟩⟩;rw[Lu.mpr (JN hW)];refine⟨_,rfl,v,cs,10,_,rfl,by decide,hW,hR,h4.mono S1,hb,by lia,fun _ H2 S2=>?_,fun hlt=>absurd hlt (by lia)⟩;refine⟨_,rfl,rfl,false,rfl,?_⟩;exact⟨_,rfl,q H2 (S1.trans S2)⟩
abbrev Mks(H:Hp)(vs:List V)(ws:List (List Nat)):Prop:=Paired (fun v cs=>T4o H v (wt cs)) vs ws
structure Wds(ws:List (List Nat)):Prop where
 n1:1<=ws.length
 n8:ws.length<=8
 w:∀cs∈ws,∀c∈cs,isW c
 r:∀cs∈ws,Red cs
 l10:∀cs∈ws,cs.length<=10
abbrev aR(ws:List (List Nat)):List V:=ws.map fun cs=>.str (txt cs)
theorem Mks.at{H:Hp}:∀{vs:List V}{ws:List (List Nat)}{i:Nat}{v:V},Mks H vs ws->vs[i]?=some v->∃cs,ws[i]?=some cs/\T4o H v (wt cs)
 |_,_,_,_,.nil,e=>by simp at e
 |_,_,0,_,.cons h _,e=>by simp at e;subst e;exact⟨_,rfl,h⟩
 |_,_,i+1,v,.cons _ r,e=>by
  obtain⟨cs,h1,h2⟩:=Mks.at (i:=i) (v:=v) r (by simpa using e);exact⟨cs,by simpa using h1,h2⟩
def OG:Sp:=fun vs H Q _=>∃l us ws,vs=[.ref l]/\H l=some (.lst us)/\Mks H us ws/\Wds ws/\∀p H',Ia H H'->H' p=some (.lst (aR ws))->Q (.ref p) H'
theorem wV{dm d:DD}{lt:Tok}(m_mm:mg "MOST_WIDE_MAKERS"=some (.int 8 lt))(BQ:(dg "wide_maker_word" 31 ["maker"] dm 4 OA))(D:Def K mg "wide_maker_words" (top 32) ["makers"] d)(Ak:mg "isinstance"=none)(Ao:mg "list"=none)(Aj:mg "len"=none):(fk 5 d ["makers"] OG):=by
 exists["makers"]
 obtain⟨l,us,ws,rfl,hl,hm,hw,q⟩:=h;have el:us.length=ws.length:=hm.length;have h1:=hw.n1;have h8:=hw.n8;refine⟨_,(ae (br (@PW.pt _ _ _ (ke (gP (fE (aS IW Ak Io (ag (0) (aL (fm (.ty "list") Ao Jk) aC) aC)))) (gB (gP (@sD _ _ _ _ _ _ _ _ _ _ _ _ NM NM (ah _) (aP HW Aj (0) aC) (gH (.int 8) m_mm ⟨_,rfl⟩) (by with_unfolding_all rfl)))))) (aq (@JE _ _)) (HZ _)) (aq (aH (bB (aA (ts:=["maker"]) (cap:=[]) (js:=[]) rfl rfl rfl rfl rfl rfl (by decide +kernel)) (bp (0)) (am 0 (nd ["maker"])) (@aX _) (bu BQ.1 BQ.2 (0) aC))))),?_⟩
 walk_at "d"
 refine⟨_,rfl,.ref l,.ty "list",.type "list",.type "list",true,rfl,rfl,.lst hl,rfl,true,rfl,?_⟩;refine⟨_,rfl,l,us,rfl,.inl (SqL.of hl),_,_,rfl,rfl,true,?_,?_⟩
 ·show V.bl (decide ((1:Int)<=(us.length:Int)))=_;rw[Ht (by lia)]
 refine⟨_,_,rfl,rfl,true,?_,?_⟩
 ·show V.bl (decide ((us.length:Int)<=8))=_;rw[Ht (by lia)]
 refine⟨_,rfl,l,rfl,⟨_,SqL.of hl⟩,?_⟩;refine fH (K:=K) (a:=l) (xs:=us) (fun i ys H'=>Ia H H'/\ys=aR (ws.take i)) ⟨Ia.refl H,rfl⟩ (fun i ys H' hi z=>by rw[z.2,DQ,Eu];lia) (aJ (by lia)) (fun i ys H' hi z=>SqL.of (z.1 _ _ hl)) (fun i x ys H' hx z=>?_) (fun ys H' z p hp=>?_)
 ·obtain⟨z1,rfl⟩:=z;have hi:i<us.length:=(DU.mp hx).1;obtain⟨cs,ec,h4⟩:=hm.at hx;have mc:=Ea ec;refine⟨_,rfl,x,cs,rfl,hw.w cs mc,hw.r cs mc,hw.l10 cs mc,h4.mono z1,fun H2 S2=>Nx.mk hi ⟨z1.trans S2,?_⟩⟩;rw[Eo,ec];simp[aR]
 ·obtain⟨z1,rfl⟩:=z;have e:ws.take us.length=ws:=ES (by lia);rw[e];exact q p _ (z1.trans (ao hp _)) af
def NL:Sp:=fun vs H Q _=>∃p:Nat,vs=[.int (p:Int)]/\p<4/\Q (.int (((p+2) % 4:Nat):Int)) H
theorem yd{d:DD}(D:Def K mg "back_place" (top 5) ["place"] d):(fk 1 d ["place"] NL):=by
 exists["place"]
 obtain⟨p,rfl,hp,q⟩:=h;refine⟨_,(aq (aH (ay Iz (ay Ij (0) (ah _)) (ah _)))),?_⟩
 walk_at "d"
 refine⟨_,rfl,_,_,rfl,rfl,_,_,rfl,rfl,(by show(0:Int)<4;decide),?_⟩;have e:((p:Int)+2) % 4=(((p+2) % 4:Nat):Int):=by lia
 show Q (.int (((p:Int)+2) % 4)) H;rw[e];exact q
abbrev lpv:List (Key×V):=[(.inr "u",.int 0),(.inr "v",.int 1),(.inr "U",.int 2),(.inr "V",.int 3)]
theorem wX{c:Nat}(h:isW c):bg lpv (.inr ⟨#[c]⟩)=some (.int (place c:Nat)):=by
 unfold lpv;rcases h with rfl|rfl|rfl|rfl
 ·rw[aO (e:=(bx e_u).mpr rfl)];rfl
 ·rw[aK (e:=fun z=>absurd ((bx e_u).mp z) (by decide)),aO (e:=(bx e_v).mpr rfl)];rfl
 ·rw[aK (e:=fun z=>absurd ((bx e_u).mp z) (by decide)),aK (e:=fun z=>absurd ((bx e_v).mp z) (by decide)),aO (e:=(bx e_U).mpr rfl)];rfl
 ·rw[aK (e:=fun z=>absurd ((bx e_u).mp z) (by decide)),aK (e:=fun z=>absurd ((bx e_v).mp z) (by decide)),aK (e:=fun z=>absurd ((bx e_U).mp z) (by decide)),aO (e:=(bx e_V).mpr rfl)];rfl
theorem nY{G:List Row}{w:List Nat}{i:Nat}(h:i<w.length):iR G (w.take (i+1))=(iR G (w.take i)).bind fun e=>ent G e.toNat (place w[i]):=by
 unfold iR;rw[ip h,Fu];rfl
end
end K3
namespace L2
open PySem PySem.Spec PyProof.Rows
section
variable {X:Cx}
theorem KU:bootBuiltins "list"=some (.type "list"):=by decide +kernel
theorem JM:∀(xs:List V)(us:List Value),xs.length=us.length->(∀(j:Nat) x u,xs[j]?=some x->us[j]?=some u->RelV x u)->Vals xs us
 |[],[],_,_=>.nil
 |[],_::_,h,_=>by cases h
 |_::_,[],h,_=>by cases h
 |x::xs,u::us,h,r=>.cons (r 0 x u rfl rfl) (JM xs us (by simpa using h) fun j a b h1 h2=>r (j+1) a b h1 h2)
theorem mT(acc:Array Value)(n:Nat)(h:ItemsOf (fun i v=>∃t,v=.int (0+i*1) t) acc n):Vals ((List.range n).map fun i=>V.int ((i:Nat):Int)) acc.toList:=by
 refine JM _ _ (by rw[DQ,EG,EY,h.1]) fun j x u h1 h2=>?_;rw[DY] at h1;obtain⟨i,hi,rfl⟩:=EB.mp h1;have hj:j<n:=by have:=(DU.mp hi).1;rwa [EG] at this
 rw[GF hj] at hi;cases hi;obtain⟨t,rfl⟩:=h.2 j u (by rw[<- Fk];exact h2);exact⟨t,by congr 1;lia⟩
def vD (ta:TA):TE:=fun σ H Q=>ta σ H fun vs H1=>∃n:Nat,vs=[.int (n:Int)]/\n<=1000000/\∀l,H1 l=none->Q (.ref l) (upd H1 l (.lst ((List.range n).map fun i=>V.int ((i:Nat):Int))))
theorem du{a:Expr}{ta:TA}{p p2 pos pos2:Pos}(hc:X.calm=true)(hg:Gl X "list")(hm:X.mg "list"=none)(hg2:Gl X "range")(hm2:X.mg "range"=none)(ha:PA X [a] ta)
  (hs:starEach [a] X.env=[(false,eval a X.env)]:=by rfl)(hs2:starEach [.Call (.Name "range" p2) [a] [] pos2] X.env=[(false,eval (.Call (.Name "range" p2) [a] [] pos2) X.env)]:=by rfl) :
  PE X (.Call (.Name "list" p) [.Call (.Name "range" p2) [a] [] pos2] [] pos) (vD ta):=by
 intro pins s σ H Q I h;refine wpAny_Call_Name_kw (cX I hg hm KU ?_ (by decide) (by decide));refine PyProof.Rows.callWith_type1 ?_ hs2 rfl;rw[hs2];refine Calls.spliced_cons (Call_ (cX I hg2 hm2 boot_range (PyProof.Rows.callWith_type1 (thn (ha pos2 pins s σ H _ I h) fun us s1 hq86=>?_) hs rfl)));obtain⟨vs,H1,I1,r1,q1⟩:=hq86;obtain⟨n,e,hn,q⟩:=q1;subst e;cases r1 with
 |cons r rr=>
  cases rr;obtain⟨t,rfl⟩:=r;refine call_range_1 (Calls.spliced_nil ?_);refine call_list_range (n:=n) (I1.ok.hd hc) (IsRange.new ..) (small_one (by lia) (by lia) (by lia) (by lia)) ?_ (by lia) fun h' tk acc' c' hk hS' hacc=>?_
  ·rw[rangeSize_one];split<;>lia
  ·have hsz:(s1.heap.push {cls:=.type "range",data:=.fields #[.int 0 s1.toks,.int (n:Int) t,.int 1 (s1.toks+1)]}).objs.size=s1.heap.objs.size+1:=HR ..;have vv:Vals ((List.range n).map fun i=>V.int ((i:Nat):Int)) acc'.toList:=mT acc' n hacc;have fr:=I1.hok.fresh (EO s1.heap.objs.size);refine⟨.ref _,_,I1.laid (t':=tk) (o:=.lst ((List.range n).map fun i=>V.int ((i:Nat):Int))) (fun b o e=>hk b o (HJ _ e)) (by rw[HR];exact EO _) ⟨by rw[DQ,EG,sizeLine_eq];lia,acc'.toList,c',vv,hS'⟩,rfl,q _ (I1.hok.fresh (by rw[HR];exact EO _))⟩
end
section
variable {X:Cx}{scope:Scope}{ts cap:List Str}{js:List Nat}{tg0 tg1 elt iter0 iter1:Expr}{ifs0 ifs1:List Expr}{pos:Pos}
theorem sG{wi:TI}{g:TG}{tc:TT}{wi1:TI}{g1:TG}{tc1:TT}{te:TE}{i:Nat}{y:Str}{py spos:Pos}(hc:X.calm=true)(CS:bM X scope ts cap js)(hi:PI X tg0 iter0 wi)(hg:∀C fp s H,PG (aI X scope C fp (ts++cap) s H) tg0 g)
  (ht:∀C fp s H,PTs (aI X scope C fp (ts++cap) s H) ifs0 tc)(hi1:∀C fp s H,PI (aI X scope C fp (ts++cap) s H) tg1 iter1 wi1)
  (hg1:∀C fp s H,PG (aI X scope C fp (ts++cap) s H) tg1 g1)(ht1:∀C fp s H,PTs (aI X scope C fp (ts++cap) s H) ifs1 tc1)(he:∀C fp s H,PE (aI X scope C fp (ts++cap) s H) elt te)
  (hN:X.N.Nodup)(hy:X.N[i]?=some y)(hx:Loc X.env.scope y)(hsw:swapsWith (.ListComp elt [⟨tg0,iter0,ifs0,0⟩,⟨tg1,iter1,ifs1,0⟩] scope pos) (some (.Name y py)) spos.line X.env=pure true)
  (hs1:∀C x,foldedSetIterable iter1 (compEnvC scope (eE X.env.cells scope.names []) C X.env) x=pure x:=by intro _ _;rfl)
  (hs:∀x,foldedSetIterable iter0 X.env x=pure x:=by intro _;rfl)(hf:X.fn y=true\/X.env.scope.names.lookup y=some .local:=by first|exact .inl rfl|exact .inr rfl|assumption) :
  PS X (.Assign [.Name y py] (.ListComp elt [⟨tg0,iter0,ifs0,0⟩,⟨tg1,iter1,ifs1,0⟩] scope pos) spos) (vI (yq wi ts.length js g tc wi1 g1 tc1 te) i):=by
 intro pins s σ H D I h;rw[exec_Assign_Name_used _ _ _ _ hsw];refine Hm (wpAny_standAt (Hm ?_));show wpAny _ X.A (do let _ <- comprehension (.ListComp elt [⟨tg0,iter0,ifs0,0⟩,⟨tg1,iter1,ifs1,0⟩] scope pos) scope X.env _ (newList []) false (eval iter0 X.env) (some (assign (.Name y py) X.env))) _ _ s
 refine Hm (Hv (wpAny_comprehension_free (use:=some (assign (.Name y py) X.env)) (Q:=fun _ s'=>SP X pins D .next s') rfl hs (bJ (CS.cells I.ok)) CS.kind CS.names
  (thn (hi pins s σ H _ I h) fun v s1 h1=>thn h1 fun itv s2 h2=>?_)) (fun _ s' hq=>Hn (Hn hq)) fun _ _ e=>e)
 obtain⟨it,fp,tn,J,H2,e,I2,T,st2,f2,W,⟨m0,w0⟩,turn⟩:=h2;subst e;refine kz (RR:=fun acc C=>compPost (model X.prog X.w) X.A X.xe (some (assign (.Name y py) X.env)) (fun _ s'=>SP X pins D .next s') acc C) hc I2 T st2 f2 CS hg ht hi1 hg1 ht1 he hs1 w0 turn ?_;intro D' C s' H' ys m I' hn hC hD hCD hHC hHD fin;have szL:=I2.lt;have low:∀b o,s2.heap.get? b=some o->b≠C:=fun b o e=>DZ (DT (Hz e) hC);have hCL:X.env.locals≠C:=DZ (DT szL hC);have hcell:∀x c,X.env.cells.lookup x=some c->c≠C:=fun x c e=>by
  obtain⟨v,o,ho,_⟩:=I2.cell x c e;exact low c o ho
 show wpAny _ X.A (assign (.Name y py) X.env (.ref D')) _ _ _;refine wpAny_assign_Name (eV (v:=.ref D') I' hN hy hx rfl (fun s'' I'' hch=>?_) hf);obtain⟨a,hsb,ha⟩:=hch;have hCa:C≠a:=by
  rcases ha with z|z
  ·rw[z];exact HI hCL
  ·exact HI (hcell _ _ z)
 refine⟨m,hn.sameBut hsb hCa,fun h' hs'=>⟨_,_,cL (n0:=0) I'' (Heap.get?_none_of_le (Ee I2.sz hC)) hCL hcell (fun p hp=>low _ _ (I2.pin p hp).1) (by rw[au hCD];exact hHC) hs',fin D' hHD⟩⟩
end
def tMid (t:TS):TS:=fun D σ H=>∃M:St->Hp->Prop,t {D with nx:=M} σ H/\∀σ' H',M σ' H'->D.nx σ' H'
theorem fZ{X:Cx}{st:Stmt}{t:TS}(h:PS X st t):PS X st (tMid t):=by
 intro pins s σ H D I hw;obtain⟨M,h1,h2⟩:=hw;refine Hv (h pins s σ H {D with nx:=M} I h1) (fun fl s' hs=>?_) fun _ _ e=>e;cases fl with
 |next=>
  obtain⟨σ',H',J,q⟩:=hs;exact⟨σ',H',J,h2 σ' H' q⟩
 |ret u=>exact hs
 |brk=>exact hs
 |cont=>exact hs
def zx (t:TE):TE:=fun σ H Q=>∃M:VK,t σ H M/\∀v H',M v H'->Q v H'
theorem xa{X:Cx}{e:Expr}{t:TE}(h:PE X e t):PE X e (zx t):=by
 intro pins s σ H Q I hw;obtain⟨M,h1,h2⟩:=hw;refine Hv (h pins s σ H M I h1) (fun v s' hq87=>?_) fun _ _ e=>e;obtain⟨x,H',J,r,q⟩:=hq87;exact⟨x,H',J,r,h2 x H' q⟩
section
variable {X:Cx}{scope:Scope}{ts cap:List Str}{js:List Nat}{tg elt iter:Expr}{ifs:List Expr}{pos:Pos}{wi:TI}{g:TG}{tc:TT}{te:TE}
abbrev OF:=St->Hp->(List Str->Hp->Prop)->Prop
end
section
variable {X:Cx}{k v:Expr}{pos:Pos}{tk tv:TE}
theorem Om:bootBuiltins "any"=some (.builtin "any"):=by decide +kernel
def za (K:W.Frag):List V->Hp->VK->Prop:=fun xs H Q=>∃(p:Addr)(bs:List Bool),xs=[.ref p]/\SqL K H p (bs.map V.bl)/\Q (.bl (bs.any id)) H
theorem qY(hc:X.calm=true):cP X (.builtin "any") (za X.K):=by
 intro pins s σ H xs us Q I r h;obtain⟨p,bs,rfl,hq,q⟩:=h;obtain⟨u,rfl,rx⟩:=fw r;cases rx;obtain⟨its,rv,pl,hz⟩:=I.list hq;have hh:X.A.in1.handled=none:=I.ok.hd hc;have e:=boolsOf rv;subst e;have hp:p<s.heap.objs.size:=by obtain⟨o,n,e,_⟩:=pl;exact Hz e
 refine call_any_walk (wpAny_pyIter_list pl.isList ⟨s.heap.objs.size,_,_,_,_,_,fun i=>bs.getD i false,rfl,Walks.list hh s.heap.objs.size p (DZ hp) _,⟨⟨_,HK _ rfl,rfl,rfl⟩,pl.isList.push _⟩,?_,fun h' tk hk=>?_⟩)
 ·intro i v s' Q' E' hv q';have hv':(bs.map Value.bool)[i]?=some v:=by simpa using hv
  rw[DY] at hv';cases eb:bs[i]? with
  |none=>rw[eb] at hv';cases hv'
  |some b=>
   rw[eb] at hv';cases hv';refine wpAny_truthy_bool ?_;have q2:Q' (bs.getD i false) s':=q';rw[ED,eb] at q2;exact q2
 ·have e:(List.range (bs.map Value.bool).toArray.size).any (fun i=>bs.getD i false)=bs.any id:=by
   rw[HL,Fo,Fo];constructor
   ·rintro⟨i,hi,h⟩;have hi':i<bs.length:=by simpa using Es.mp hi
    rw[ED,DW hi'] at h;exact⟨_,Ep hi',h⟩
   ·rintro⟨b,hb,h⟩;obtain⟨i,hi,rfl⟩:=FP.mp hb;refine⟨i,Es.mpr (by simpa using hi),?_⟩;rw[ED,DW hi];exact h
  rw[e];refine⟨.bl _,H,?_,rfl,q⟩;have I1:Inv X pins σ H {s with heap:=s.heap.push {cls:=.type "list_iterator",data:=.fields #[.ref p,.int 0 0]},toks:=s.toks}:=I.kept fun b o e=>HJ _ e;refine I1.turned (it:=s.heap.objs.size) (fun b o hb e=>hk b o (by simpa using hb) e) (I.hok.fresh (DP _)) (Fy I.lt) (.inr (Heap.get?_none_of_le I.sz)) (fun x c e z=>?_) fun p hp z=>?_
  ·obtain⟨v,o,ho,_⟩:=I.cell x c e;rw[z] at ho;exact absurd (Hz ho) (Er _)
  ·have:=(I.pin p hp).1;rw[z] at this;exact absurd (Hz this) (Er _)
end
theorem kg{prog:Program}{w:World}{A:Around}{R:Result->Shared->Prop}{s:Shared}{kx vx target iter:Expr}{ifs:List Expr}{scope:Scope}{pos:Pos}{it:Value}{D:Addr}{env:Env}(I:Nat->Shared->Prop)
  (turn:∀n s,I n s->wpAny (model prog w) A (pyNext it) (fun r s₁=>match r with
   |none=>R (.ok .next) s₁
   | some v=>wpAny (model prog w) A (letOwnedTupleGo target it v) (fun _ s₁'=>wpAny (model prog w) A (assign target env v) (fun _ s₂ =>
     wpAny (model prog w) A (forIn ifs true fun c r=>if r=true then do let ok <- isTrue c env (eval c env); pure (ForInStep.yield ok) else pure (ForInStep.yield r)) (fun ok s₃ =>
      if ok=true then wpAny (model prog w) A (eval kx env) (fun kv s₄=>wpAny (model prog w) A (eval vx env) (fun vv s₅ =>
       wpAny (model prog w) A (dictSet D kv vv) (fun _ s₆=>∃m,m < n/\I m s₆) (fun _ _=>False) s₅) (fun _ _=>False) s₄) (fun _ _=>False) s₃
      else ∃m,m < n/\I m s₃) (fun _ _=>False) s₂) (fun _ _=>False) s₁') (fun _ _=>False) s₁) (fun _ _=>False) s)
  (n:Nat) (h:I n s):codeAny (model prog w) A (.compLoop (.DictComp kx vx [⟨target,iter,ifs,0⟩] scope pos) 0 it (.ref D) env) R s:=by
 refine codeAny_loop rfl I (fun n s hI=>?_) n h;show wpAny _ A ((compTurn (.DictComp kx vx [⟨target,iter,ifs,0⟩] scope pos) 0 it (.ref D) env).onRaise (fun x=>do noteFrame x env;theTreesLotGoes x)) _ _ s;refine wpAny_noted ?_;rw[PySem.compTurn_dict];refine Hm (wpAny_standAt (Hm (Hv (turn n s hI) (fun r s₁ h₁=>?_) fun _ _ h'=>h'.elim)));cases r with
 |none=>exact Hn h₁
 |some v=>
  refine Hm (Hv h₁ (fun _ s₁' h₁'=>?_) fun _ _ h'=>h'.elim);refine Hm (Hv h₁' (fun _ s₂ h₂=>Hm (Hv h₂ (fun ok s₃ h₃=>?_) fun _ _ h'=>h'.elim)) fun _ _ h'=>h'.elim);cases ok with
  |false=>exact Hn ⟨rfl,h₃⟩
  |true=>
   exact Hm (Hm (Hv h₃ (fun kv s₄ h₄=>Hm (Hw (Hv h₄ (fun vv s₅ h₅=>Hm (wpAny_standAt (Hw (Hv h₅ (fun _ s₆ h₆=>Hn ⟨rfl,h₆⟩) fun _ _ h'=>h'.elim)))) fun _ _ h'=>h'.elim))) fun _ _ h'=>h'.elim))
def Jz(P:Program)(w:World)(o:Obj)(kvs:List (Key×V)):Prop:=∃vs,KV kvs vs/\o.IsDictOf (aM P w) vs
theorem Jz.fresh(P:Program)(w:World):Jz P w {cls:=.type "dict",data:=.dict #[]} []:=by
 obtain⟨o,ho,r⟩:=Heap.dictOf_iff.mp (Heap.DictOf.new (knd:=aM P w) (h:={objs:=#[]}));rw[HK _ rfl] at ho;cases ho;exact⟨[],.nil,r⟩
section
variable {prog:Program}{w:World}{A:Around}{E:Value->Shared->Prop}{s:Shared}{a:Addr}{o:Obj}{kvs:List (Key×V)}{k:Key}{v:V}{u r:Value}
theorem Jz.nc(h:Jz prog w o kvs):∀v,o.data≠.cell v:=fun v q=>by
 obtain⟨vs,_,es,ep,h1,h2,_⟩:=h;rw[h2] at q;cases q
theorem putL{Q:Unit->Shared->Prop}(ho:s.heap.get? a=some o)(h:Jz prog w o kvs)(rk:RelV (kV k) u)(rv:RelV v r)(hz:kvs.length<=sizeLine)
  (hQ:∀h' o',Heap.SameBut a s.heap h'->h'.get? a=some o'->Jz prog w o' (cB kvs k v)->Q () {s with heap:=h',toks:=s.toks+1}) :
  wpAny (model prog w) A (dictSet a u r) Q E s:=by
 obtain⟨vs,rel,d⟩:=h;refine wpAny_dictSet_pairs (hsz:=by rw[<- rel.length];exact hz) (gh rk) (Heap.dictOf_iff.mpr ⟨o,ho,d⟩) fun h' dd hs=>?_;obtain⟨o',ho',d'⟩:=Heap.dictOf_iff.mp dd;exact hQ h' o' hs ho' ⟨_,rel.put k rv,d'⟩
theorem sI{Q:Value->Shared->Prop}(h:Q (.ref s.heap.objs.size) {s with heap:=s.heap.push {cls:=.type "dict",data:=.dict #[]}}):wpAny (model prog w) A newDict Q E s:=by
 unfold newDict;simp only[newObj]
 (first|exact Hm (wpAny_alloc (Hn h))|exact wpAny_alloc h)
end
section
variable {X:Cx}{pins:List (Addr×Obj)}{σ:St}{H:Hp}{s:Shared}{scope:Scope}{t:Option Str}{ts cap:List Str}{js:List Nat}{fp:List Addr}{C D:Addr}
theorem mJ{s':Shared}{σ':St}{H':Hp}{ys:List (Key×V)}{o:Obj}(I:Inv X pins σ H s)(hf:∀b∈fp,ID X pins H b)
  (hC:s.heap.objs.size<=C)(hD:s.heap.objs.size<=D)(I':Inv (aG X scope t C fp (ts++cap) s H) [(D,o)] σ' H' s')(hv:Jz X.prog X.w o ys)(hz:ys.length<=sizeLine):Inv X pins σ (upd H' D (.dK ys)) s':=by
 obtain⟨hDg,hDn,hDC,hDs,hDd⟩:=I'.pin (D,o) (DV _ DS);have nD:∀b o,s.heap.get? b=some o->b≠D:=fun b o e=>DZ (DT (Hz e) hD);have nDt:∀b o,H b=some o->b≠D:=fun b o e=>DZ (DT (I.hok.lt e) hD);have u:=I'.base;refine I.OC (ch:=fp) I'.os ⟨fun b o e n hb hx=>u.keep b o e n hb hx,fun b o e n hb hx=>u.slot b o e n hb hx,fun b o e n hx=>?_,fun b o e hx=>u.there b o e hx,fun b xs e=>?_,fun b o xs e=>?_,fun b ps e=>?_⟩ ?_ I'.bare fun b hb=>?_
 ·rw[au (nD b o e)];exact u.free b o e n hx
 ·rw[au (nDt b _ e)];exact u.LI b xs e
 ·rw[au (nDt b _ e)];exact u.Ln b o xs e
 ·rw[au (nDt b _ e)];exact u.Ly b ps e
 ·intro b o e;by_cases hb:b=D
  ·subst hb;rw[af] at e;cases e;obtain⟨vs,rel,dd⟩:=hv;exact⟨hz,beq_eq_false_iff_ne.mpr (HI (DZ (DT I.big hD))),vs,rel,Heap.dictOf_iff.mpr ⟨_,hDg,dd⟩⟩
  ·rw[au hb] at e;refine(I'.hok b o e).Lf (fun _ _ _ q=>q) (fun c q=>?_) fun c xs q=>?_
   ·by_cases hc:c=D
    ·subst hc;rw[hDn] at q;cases q
    ·rw[au hc];exact q
   ·by_cases hc:c=D
    ·subst hc;rw[hDn] at q;cases q
    ·rw[au hc];exact q
 ·obtain⟨f0,f1,f2,f3,f4,f5⟩:=hf b hb;exact⟨f3,f1,f4,f5⟩
theorem gX{tg kx vx iter:Expr}{ifs:List Expr}{pos:Pos}{g:TG}{tc:TT}{tk tv:TE}{J:It}{it:Addr}{tn:Nat->Heap->Prop}{W:Nat->Nat->List (Key×V)->Hp->Prop}{m0:Nat}{E:Value->Shared->Prop}
  {RR:Value->Addr->Result->Shared->Prop}{Fin:List (Key×V)->Hp->Prop}
  (I:Inv X pins σ H s)(T:TurnOk X.prog X.w fp it tn)(TA:∀C,LH (aG X scope t C fp (ts++cap) s H) tg J fp it tn)(st:tn 0 s.heap)(hf:∀b∈fp,ID X pins H b)(CS:Ib X scope t ts cap js)
  (hg:∀C fp s H,PG (aG X scope t C fp (ts++cap) s H) tg g)(ht:∀C fp s H,PTs (aG X scope t C fp (ts++cap) s H) ifs tc)(hk:∀C fp s H,PE (aG X scope t C fp (ts++cap) s H) kx tk)(he:∀C fp s H,PE (aG X scope t C fp (ts++cap) s H) vx tv)
  (w0:W 0 m0 [] H)
  (turn:∀i m ys H,W i m ys H->(J.stop i H/\ys.length<=4000000/\Fin ys H)\/(J.go i H/\ys.length < 4000000/\∀x H',J.yld i H x H'->g x (List.replicate ts.length none++cS js σ) H' fun σ2 H2=>tc σ2 H2 fun b H3 =>
   if b=true then tk σ2 H3 fun y H4=>∃z,y=kV z/\tv σ2 H4 fun v H5=>∃m',m' < m/\W (i+1) m' (cB ys z v) H5 else ∃m',m' < m/\W (i+1) m' ys H3))
  (hRR:∀D C s' H' ys m,Inv X pins σ (upd H' D (.dK ys)) s'->s'.heap.Ns C m->s.heap.objs.size<=C->s.heap.objs.size<=D->C≠D->H' C=none->H' D=none->Fin ys H'->RR (.ref D) C (.ok .next) s') :
  (wq X) (newDict) (fun acc s₃=>(wq X) (newFunctionEnv scope X.env.globals (eE X.env.cells scope.names []) [] X.env.qual none .none (some X.env)) (fun cenv s₄ =>
   codeAny (model X.prog X.w) X.A (.compStart (.DictComp kx vx [⟨tg,iter,ifs,0⟩] scope pos) 0 (.ref it) acc { cenv with scope:=relabel scope X.env }) (RR acc cenv.locals) s₄) E s₃) E s:=by
 refine sI ?_;refine(oZ CS.one CS.kind (fun h₁ hns₁ hcl₁ hold₁=>?_));dsimp only at hns₁ hcl₁ hold₁ ⊢;generalize hH2:s.heap.push {cls:=.type "dict",data:=.dict #[]}=H2 at hns₁ hcl₁ hold₁ ⊢;generalize ho0:({cls:=.type "dict",data:=.dict #[]}:Obj)=o0 at hH2;have hs0:Jz X.prog X.w o0 []:=by rw[<- ho0];exact Jz.fresh _ _
 have hnc:∀v,o0.data≠.cell v:=by rw[<- ho0];intro v z;cases z
 have hfz:o0.isFreed=false:=by rw[<- ho0];rfl
 clear ho0;have hCs:H2.objs.size=s.heap.objs.size+1:=by rw[<- hH2,HR]
 have hDC:s.heap.objs.size≠H2.objs.size:=by rw[hCs];exact DZ (Fm _)
 have hCle:s.heap.objs.size<=H2.objs.size:=by rw[hCs];exact EO _
 have below:∀b,b<s.heap.objs.size->b≠H2.objs.size:=fun b hb=>by rw[hCs];exact DZ (Fn hb)
 have old:∀b o,s.heap.get? b=some o->h₁.get? b=some o:=fun b o e=>hold₁ b o (hH2▸HJ _ e);have hacc:h₁.get? s.heap.objs.size=some (o0):=hold₁ _ _ (hH2▸HK _ hfz);have hfl:∀b∈fp,b<s.heap.objs.size:=fun b hb=>by obtain⟨o,e,_⟩:=T.obj _ _ st b hb;exact Hz e
 have st₁:tn 0 h₁:=T.keep _ _ _ st fun b _ o e=>old b o e;have hDstk:s.heap.objs.size∉frs X.stack:=fun z=>by
  obtain⟨_,o,ho,_⟩:=I.stack.mem z;exact absurd (Hz ho) (Er _)
 have I0:Inv (aG X scope t H2.objs.size fp (ts++cap) s H) [(s.heap.objs.size,o0)] (List.replicate ts.length none++cS js σ) H {s with heap:=h₁,toks:=s.toks}:=
  fX I CS hf hfl hCle old hns₁ hcl₁ rfl I.bare fun p hp=>by
   have e:p=(s.heap.objs.size,o0):=by simpa using hp
   subst e;exact⟨hacc,I.hok.fresh (DP _),hDC,hDstk,hnc⟩
 have stat:∀{H':Hp}{o:Obj},(∀b∈fp,H' b=none)->∀b∈fp,ID (aG X scope t H2.objs.size fp (ts++cap) s H) [(s.heap.objs.size,o)] H' b:=fun {H' o} hn b hb=>by
  obtain⟨f0,f1,f2,f3,f4,f5⟩:=hf b hb;refine⟨hn b hb,below b (hfl b hb),?_,.inl hb,fun x c e=>?_,fun p hp=>?_⟩
  ·exact(iL I CS hf hfl hCle).MI b hb
  ·rcases CS.Jx I.ok e with ⟨_,q⟩|q
   ·rw[q];exact HI (DZ (DT (hfl b hb) (Fe hCle)))
   ·exact f4 x c q
  ·rcases DX.mp hp with z|z
   ·exact f5 p (Eh _ z)
   ·have e:p=(s.heap.objs.size,o):=by simpa using z
    subst e;intro q;have q':s.heap.objs.size=b:=q;exact absurd (hfl b hb) (by rw[<- q'];exact Er _)
 have loop:∀s₃:Shared,s₃={s with heap:=h₁,toks:=s.toks} ->
   codeAny (model X.prog X.w) X.A (.compLoop (.DictComp kx vx [⟨tg,iter,ifs,0⟩] scope pos) 0 (.ref it) (.ref s.heap.objs.size) (compEnvC scope (vO t H2.objs.size (eE X.env.cells scope.names [])) H2.objs.size X.env))
    (RR (.ref s.heap.objs.size) H2.objs.size) s₃:=by
  rintro s₃ rfl;refine kg (fun k s'=>∃i H' ys o,Inv (aG X scope t H2.objs.size fp (ts++cap) s H) [(s.heap.objs.size,o)] (List.replicate ts.length none++cS js σ) H' s'/\Jz X.prog X.w o ys/\tn i s'.heap/\(∀b∈fp,H' b=none)/\W i k ys H') ?_ m0
   ⟨0,H,[],o0,I0,hs0,st₁,fun b hb=>(hf b hb).1,w0⟩
  rintro k s3 ⟨i,H3,ys,o,I3,v3,st3,fr3,w3⟩;rcases turn i k ys H3 w3 with ⟨stop,hz,fin⟩|⟨go,hz,step⟩
  ·refine thn ((TA _).done i _ s3 _ H3 _ I3 (stat fr3) st3 stop) fun r s4 hq88=>?_;obtain⟨hr,I4⟩:=hq88;subst hr;obtain⟨m4,hn4,_⟩:=I4.loc;exact hRR _ _ s4 H3 ys m4 (mJ I hf hCle (DP _) I4 v3 (Ee hz (by have:=sizeLine_eq;lia))) hn4 hCle (DP _) (HI hDC) I4.free (I4.pin (s.heap.objs.size,o) (DV _ DS)).2.1 fin
  ·refine thn ((TA _).item i _ s3 _ H3 _ I3 (stat fr3) st3 go) fun r s4 hq89=>?_;obtain⟨u,hr,h4⟩:=hq89;subst hr;refine thn h4 fun _ s5 hq90=>?_;obtain⟨x,H5,I5,r5,y5,st5,fr5⟩:=hq90;have I5':=I5.pinned (stat fr5) (T.obj _ _ st5);refine thn (hg _ _ _ _ _ s5 _ H5 x u _ I5' r5 (step x H5 y5)) fun _ s6 hq91=>?_;obtain⟨σ6,H6,I6,q6⟩:=hq91;refine thn (ht _ _ _ _ _ s6 σ6 H6 _ I6 q6) fun ok s7 hq92=>?_;obtain⟨H7,I7,q7⟩:=hq92;have pinned:∀{σ':St}{H':Hp}{s':Shared},Inv (aG X scope t H2.objs.size fp (ts++cap) s H) ([(s.heap.objs.size,o)]++dz fp s5.heap) σ' H' s'->tn (i+1) s'.heap/\∀b∈fp,H' b=none:=fun {σ' H' s'} J=>by
    refine⟨T.keep _ _ _ st5 fun b hb o e=>(J.pin (b,o) (DV _ (DV _ (bq hb e)))).1,fun b hb=>?_⟩;obtain⟨o,e,d⟩:=T.obj _ _ st5 b hb;exact(J.pin (b,o) (DV _ (DV _ (bq hb e)))).2.1
   cases ok with
   |false=>
    rw[Ho Ek] at q7 ⊢;obtain⟨m',hm,w7⟩:=q7;obtain⟨st7,fr7⟩:=pinned I7;exact⟨m',hm,i+1,H7,ys,o,cq I CS hf I7.Im,v3,st7,fr7,w7⟩
   |true=>
    rw[Hq rfl] at q7 ⊢;refine thn (hk _ _ _ _ _ s7 σ6 H7 _ I7 q7) fun kv s7' hq93=>?_;obtain⟨y,H7',I7',r7,z,ez,q7'⟩:=hq93;subst ez;refine thn (he _ _ _ _ _ s7' σ6 H7' _ I7' q7') fun yv s8 hq94=>?_;obtain⟨v,H8,I8,r8,m',hm,w8⟩:=hq94;obtain⟨st8,fr8⟩:=pinned I8;have I8':=cq I CS hf I8.Im;obtain⟨hDg,hDn,hDC',hDs,hDd⟩:=I8'.pin (s.heap.objs.size,o) (DV _ DS);refine putL hDg v3 r7 r8 (Ee (EH hz) (by have:=sizeLine_eq;lia)) fun h9 o9 hs9 hD9 v9=>?_;have nc9:=v9.nc;have tracked:∀b o,b≠s.heap.objs.size->s8.heap.get? b=some o->h9.get? b=some o:=fun b o hb e=>hs9.extBut b o hb e;have I9:Inv (aG X scope t H2.objs.size fp (ts++cap) s H) [(s.heap.objs.size,o9)] (List.replicate ts.length none++cS js σ) H8 {s8 with heap:=h9,toks:=s8.toks+1}:=by
     have J0:Inv (aG X scope t H2.objs.size fp (ts++cap) s H) [] (List.replicate ts.length none++cS js σ) H8 s8:=I8'.IU (fun p hp=>absurd hp (by simp))
     have J:Inv (aG X scope t H2.objs.size fp (ts++cap) s H) [] (List.replicate ts.length none++cS js σ) H8 { s8 with heap:=h9,toks:=s8.toks+1 }:=J0.turned (it:=s.heap.objs.size) tracked hDn hDC' (.inr (Heap.get?_none_of_le (DP _))) (fun x c e q=>by
      rcases CS.Jx I.ok e with ⟨_,z⟩|z
      ·rw[z,hCs] at q;exact absurd q (HI (DZ (Fn (Fm _))))
      ·obtain⟨v,o,ho,_⟩:=I.cell x c z;rw[q] at ho;exact absurd (Hz ho) (Er _)) (fun p hp q=>by
       rw[Et] at hp;obtain⟨e,_⟩:=I.pin p (Eh _ hp);rw[q] at e
       exact absurd (Hz e) (Er _))
     refine J.IU fun p hp=>?_;have e:p=(s.heap.objs.size,o9):=by simpa using hp
     subst e;exact⟨hD9,hDn,hDC',hDs,nc9⟩
    have st9:tn (i+1) h9:=T.keep _ _ _ st8 fun b hb o e=>tracked b o (DZ (hfl b hb)) e;exact⟨m',hm,i+1,H8,cB ys z v,o9,I9,v9,st9,fr8,w8⟩
 exact codeAny_compStart_dict (loop _ rfl) (T.self _ _ _ _ _ st₁ (loop _ rfl))
end
section
variable {X:Cx}{scope:Scope}{ts cap:List Str}{js:List Nat}{tg kx vx iter:Expr}{ifs:List Expr}{pos:Pos}{wi:TI}{g:TG}{tc:TT}{tk tv:TE}
def tf (J:It)(k:Nat)(js:List Nat)(g:TG)(tc:TT)(tk tv:TE)(σ:St)(H1:Hp)(Q:List (Key×V)->Hp->Prop):Prop:=
 ∃W:Nat->Nat->List (Key×V)->Hp->Prop,(∃m,W 0 m [] H1)/\∀i m ys H,W i m ys H ->
  (J.stop i H/\ys.length<=4000000/\Q ys H) \/
  (J.go i H/\ys.length<4000000/\∀x H',J.yld i H x H'->g x (List.replicate k none++cS js σ) H' fun σ2 H2=>tc σ2 H2 fun b H3=>if b=true then tk σ2 H3 fun y H4=>∃z,y=kV z/\tv σ2 H4 fun v H5=>∃m',m'<m/\W (i+1) m' (cB ys z v) H5 else ∃m',m'<m/\W (i+1) m' ys H3)
def tO (wi:TI)(k:Nat)(js:List Nat)(g:TG)(tc:TT)(tk tv:TE):TE:=fun σ H Q=>wi σ H fun J H1=>tf J k js g tc tk tv σ H1 fun ys H2=>∀l,H2 l=none->Q (.ref l) (upd H2 l (.dK ys))
theorem qJ(hc:X.calm=true)(CS:bM X scope ts cap js)(hi:PI X tg iter wi)(hg:∀C fp s H,PG (aI X scope C fp (ts++cap) s H) tg g)
  (ht:∀C fp s H,PTs (aI X scope C fp (ts++cap) s H) ifs tc)(hk:∀C fp s H,PE (aI X scope C fp (ts++cap) s H) kx tk)(he:∀C fp s H,PE (aI X scope C fp (ts++cap) s H) vx tv)
  (hs:∀x,foldedSetIterable iter X.env x=pure x:=by intro _;rfl):PE X (.DictComp kx vx [⟨tg,iter,ifs,0⟩] scope pos) (tO wi ts.length js g tc tk tv):=by
 intro pins s σ H Q I h;refine wpAny_comprehension_free (e:=.DictComp kx vx [⟨tg,iter,ifs,0⟩] scope pos) (use:=none) rfl hs (bJ (CS.cells I.ok)) CS.kind CS.names (thn (hi pins s σ H _ I h) fun v s1 h1=>thn h1 fun itv s2 h2=>?_);obtain⟨it,fp,tn,J,H2,e,I2,T,st2,f2,W,⟨m0,w0⟩,turn⟩:=h2;subst e;refine gX (Fin:=fun ys H2=>∀l,H2 l=none->Q (.ref l) (upd H2 l (.dK ys))) (RR:=fun acc C=>compPost (model X.prog X.w) X.A X.xe none (EP X pins σ Q) acc C) I2 ⟨T.obj,T.keep,T.self⟩ (fun C=>⟨T.item (aI X scope C fp (ts++cap) s2 H2) rfl rfl rfl hc,T.done (aI X scope C fp (ts++cap) s2 H2) rfl rfl rfl hc⟩) st2 f2 CS hg ht hk he w0 turn ?_;intro D C s' H' ys m I' hn hC hD hCD hHC hHD fin;have szL:=I2.lt;have low:∀b o,s2.heap.get? b=some o->b≠C:=fun b o e=>DZ (DT (Hz e) hC);refine⟨m,hn,fun h' hs'=>⟨.ref D,_,cL (n0:=0) I' (Heap.get?_none_of_le (Ee I2.sz hC)) (DZ (DT szL hC)) (fun x c e=>?_) (fun p hp=>?_) (by rw[au hCD];exact hHC) hs',rfl,fin D hHD⟩⟩
 ·obtain⟨v,o,ho,_⟩:=I2.cell x c e;exact low c o ho
 ·exact low _ _ (I2.pin p hp).1
end
theorem mK{P:Program}{w:World}{es:List DictEntry}{vs:List (Key×Value)}(h:Pairs (aM P w) es vs):es.length=vs.length:=by
 induction h with
 |nil=>rfl
 |cons _ _ _ ih=>exact congrArg (·+1) ih
theorem qN{P:Program}{w:World}{es:List DictEntry}{vs:List (Key×Value)}(h:Pairs (aM P w) es vs):∀{i:Nat}{e:DictEntry}{q:Key×Value},es[i]?=some e->vs[i]?=some q->(aM P w).is q.1 e.key=true:=by
 induction h with
 |nil=>intro i e q h1;simp at h1
 |cons a _ _ ih=>
  intro i e q h1 h2;cases i with
  |zero=>simp at h1 h2;subst h1 h2;exact a
  |succ i=>exact ih (by simpa using h1) (by simpa using h2)
theorem KV.at:∀{kvs:List (Key×V)}{xs:List (Key×Value)}{i:Nat}{p:Key×V},KV kvs xs->kvs[i]?=some p->∃q,xs[i]?=some q/\p.1=q.1/\RelV p.2 q.2
 |_,_,_,_,.nil,h=>by simp at h
 |_,_,0,_,.cons r _,h=>by simp at h;subst h;exact⟨_,rfl,r⟩
 |_,_,i+1,p,.cons _ t,h=>by
  obtain⟨q,e,r⟩:=KV.at (i:=i) (p:=p) t (by simpa using h);exact⟨q,by simpa using e,r⟩
abbrev NxD(n i:Nat)(P:Nat->List (Key×V)->Hp->Prop)(ys:List (Key×V))(H:Hp):Prop:=∃m',m'<n-i/\(m'=n-(i+1)/\i+1<=n/\P (i+1) ys H)
theorem NxD.mk{n i:Nat}{P:Nat->List (Key×V)->Hp->Prop}{ys:List (Key×V)}{H:Hp}(hi:i<n)(h:P (i+1) ys H):NxD n i P ys H:=⟨n-(i+1),by lia,rfl,hi,h⟩
def Itz (K:W.Frag)(a b:Addr):It:=
  ⟨fun i H=>∃xs ys x y,SqL K H a xs/\SqL K H b ys/\xs[i]?=some x/\ys[i]?=some y,
   fun i H v H'=>∃p x y,H p=none/\v=.ref p/\H'=upd H p (.tup [x,y])/\(∀xs,SqL K H a xs->xs[i]?=some x)/\∀ys,SqL K H b ys->ys[i]?=some y,
   fun i H=>∃xs ys,SqL K H a xs/\SqL K H b ys/\(xs.length<=i\/ys.length<=i)⟩
theorem rD{P:Program}{w:World}{K:PySem.W.Frag}{elts:List Expr}{x1}{pos:Pos}(z TI TO i1 i2 a b:Addr)(ap:ZipApart z TI TO i1 i2 a b) :
  Turn P w K (.Tuple elts x1 pos) (Itz K a b) [z,TI,TO,i1,i2] z (fun i h=>IsZip h z TI TO .none/\IsPair h TI (.ref i1) (.ref i2)/\(∃u v,IsPair h TO u v)/\h.IsListIter i1 a i/\h.IsListIter i2 b i) where
 mem:=by simp
 obj:=fun i h st c hc=>by
  obtain⟨s1,s2,⟨u,v,s3⟩,s4,s5⟩:=st;simp only[Eb,EI,or_false] at hc;rcases hc with rfl|rfl|rfl|rfl|rfl
  ·exact⟨_,s1,fun v z=>by cases z⟩
  ·exact⟨_,s2,fun v z=>by cases z⟩
  ·exact⟨_,s3,fun v z=>by cases z⟩
  ·obtain⟨o,e,c,d⟩:=s4;exact⟨o,e,fun v z=>by rw[d] at z;cases z⟩
  ·obtain⟨o,e,c,d⟩:=s5;exact⟨o,e,fun v z=>by rw[d] at z;cases z⟩
 keep:=fun i h h' st k=>by
  obtain⟨s1,s2,⟨u,v,s3⟩,s4,s5⟩:=st;exact⟨k z (by simp) _ s1,k TI (by simp) _ s2,⟨u,v,k TO (by simp) _ s3⟩,s4.at fun o q=>k i1 (by simp) o q,s5.at fun o q=>k i2 (by simp) o q⟩
 item:=by
  intro X hP hw hK hc i pins s σ H E I hf st hg;subst hP hw hK;obtain⟨s1,s2,s3,s4,s5⟩:=st;obtain⟨xs,ys,x,y,hqx,hqy,hx,hy⟩:=hg;obtain⟨itx,rvx,px,hzx⟩:=I.list hqx;obtain⟨ity,rvy,py,hzy⟩:=I.list hqy;obtain⟨u,hu,ru⟩:=rvx.get hx;obtain⟨v,hv,rv⟩:=rvy.get hy;have W:=WalksT.zip2 (prog:=X.prog) (w:=X.w) (I.ok.hd hc) z TI TO i1 i2 a b ap itx.toArray ity.toArray;have hi:i<min itx.toArray.size ity.toArray.size:=by
   have e1:=(DU.mp hu).1;have e2:=(DU.mp hv).1;simp only[Ed];lia
  refine W.item i s _ E hi ⟨s1,s2,s3,s4,s5,px.isList,py.isList⟩ fun T vals h1 tk pt hT tup mid fr=>⟨_,rfl,W.go elts x1 pos i T _ _ E mid fun h2 st2 fr2=>?_⟩
  obtain⟨u',v',e1,e2,rfl⟩:=pt;have eu:u'=u:=by
   have:itx[i]?=some u':=by simpa using e1
   rw[this] at hu;exact HC hu
  have ev:v'=v:=by
   have:ity[i]?=some v':=by simpa using e2
   rw[this] at hv;exact HC hv
  subst eu ev;have wr:∀c,ID X pins H c\/c∉([z,TO,i1,i2]:List Addr):=fun c=>by
   by_cases q:c∈([z,TO,i1,i2]:List Addr)
   ·refine .inl (hf c ?_);simp only[Eb,EI,or_false] at q ⊢;rcases q with q|q|q|q<;>simp[q]
   ·exact .inr q
  have there:∀c o,s.heap.get? c=some o->∃o',h2.get? c=some o':=fun c o q=>by
   by_cases m:c∈([z,TO,i1,i2]:List Addr)
   ·obtain⟨t1,t2,⟨u3,v3,t3⟩,t4,t5,_⟩:=st2;simp only[Eb,EI,or_false] at m;rcases m with rfl|rfl|rfl|rfl
    ·exact⟨_,t1⟩
    ·exact⟨_,t3⟩
    ·obtain⟨o4,g,_⟩:=t4;exact⟨o4,g⟩
    ·obtain⟨o5,g,_⟩:=t5;exact⟨o5,g⟩
   ·exact⟨o,fr2 c o m (fr c o m q)⟩
  have I1:Inv X pins σ H { s with heap:=h2,toks:=tk }:=I.MJ ⟨fun c o q n _=>by
    rcases wr c with f|m
    ·exact absurd f n
    ·exact fr2 c o m (fr c o m q),fun c o q n=>by
    rcases wr c with f|m
    ·exact absurd f n
    ·exact⟨o.slots,fr2 c o m (fr c o m q)⟩,there⟩
  have hnT:H T=none:=I.hok.fresh hT;obtain⟨oT,gT,cT,nT,dT⟩:=tup;have gT2:=fr2 T oT (W.apart i T h1 mid) gT;have I2:Inv X pins σ (upd H T (.tup [x,y])) {s with heap:=h2,toks:=tk}:=I1.NX (I.Ml _ hT) ⟨by show 2<=sizeLine;decide,[u',v'],.cons ru (.cons rv .nil),oT,gT2,cT,nT,dT⟩;obtain⟨t1,t2,t3,t4,t5,_⟩:=st2;refine⟨.ref T,_,I2,rfl,⟨T,x,y,hnT,rfl,rfl,fun xs' h'=>by rw[I.Jq h' hqx];exact hx,fun ys' h'=>by rw[I.Jq h' hqy];exact hy⟩,⟨t1,t2,t3,t4,t5⟩,fun c hcm=>?_⟩;have nc:c≠T:=fun q=>by
   have f:=hf c hcm;subst q;simp only[Eb,EI,or_false] at hcm;have lt:∀{o:Obj},s.heap.get? c=some o->False:=fun g=>absurd (DT (Hz g) hT) (Er _);obtain⟨u3,v3,s3⟩:=s3;rcases hcm with rfl|rfl|rfl|rfl|rfl
   ·exact lt s1
   ·exact lt s2
   ·exact lt s3
   ·obtain⟨o4,g,_⟩:=s4;exact lt g
   ·obtain⟨o5,g,_⟩:=s5;exact lt g
  rw[au nc];exact(hf c hcm).1
 done:=by
  intro X hP hw hK hc i pins s σ H E I hf st hg;subst hP hw hK;obtain⟨s1,s2,⟨u,v,s3⟩,s4,s5⟩:=st;obtain⟨xs,ys,hqx,hqy,hle⟩:=hg;obtain⟨itx,rvx,px,hzx⟩:=I.list hqx;obtain⟨ity,rvy,py,hzy⟩:=I.list hqy;have lx:=rvx.length;have ly:=rvy.length;have hn:itx.toArray[i]?=none\/ity.toArray[i]?=none:=by
   rcases hle with h|h
   ·exact .inl (by simp;lia)
   ·exact .inr (by simp;lia)
  refine wpAny_pyNext_zip_end (I.ok.hd hc) ap s1 s2 s3 s4 s5 px.isList py.isList hn ?_;intro h' kp;have keep:∀c o,c∉([z,TO,i1,i2]:List Addr)->s.heap.get? c=some o->h'.get? c=some o:=fun c o m q=>by
   simp only[Eb,EI,or_false,not_or] at m;exact kp c o m.1 m.2.1 m.2.2.1 m.2.2.2 q
  have hfm:∀c∈([z,TO,i1,i2]:List Addr),ID X pins H c:=fun c q=>hf c (by
   simp only[Eb,EI,or_false] at q ⊢
   rcases q with q | q | q | q <;> simp [q])
  have nt:∀c o,H c=some o->c∉([z,TO,i1,i2]:List Addr):=fun c o e q=>by
   rw[(hfm c q).1] at e;cases e
  refine⟨rfl,I.step (g':=s.gens) (d':=s.drawn) (t':=s.toks) (ch:=[z,TO,i1,i2]) (fun c hcm=>?_) (fun c o hL hb hc e n=>keep c o hc e) (fun c o hL hb hc e n=>⟨o.slots,keep c o hc e⟩) (fun c o hc e n=>n) (fun c o hc e=>⟨o,keep c o hc e⟩) (fun _ _ e=>e) (fun _ _ _ e=>e) (fun b ps e=>⟨#[],by rw[e];simp⟩) (fun m hm=>?_) (fun c o e=>?_) I.bare⟩
  ·obtain⟨f0,f1,f2,f3,f4,f5⟩:=hfm c hcm;exact⟨f3,f1,f4,f5⟩
  ·obtain⟨o,es,ep,ho,r⟩:=hm;exact⟨o,es,ep,keep _ o (fun q=>(hfm _ q).2.1 rfl) ho,r⟩
  ·refine(I.hok c o e).Lf (fun d u hd q=>?_) (fun _ q=>q) fun _ _ q=>q;rcases hd with r|r
   ·subst r;exact keep _ u (nt _ _ e) q
   ·exact keep d u (nt _ _ r) q
 self:=fun _ _ _ _ _ st h=>wpAny_pyIter_zip st.1 h
section
variable {X:Cx}
theorem MP:bootBuiltins "zip"=some (.type "zip"):=by decide +kernel
def iZip (K:W.Frag)(ta:TA):TI:=fun σ H R=>ta σ H fun vs H1=>∃a b,vs=[.ref a,.ref b]/\(∃xs,SqL K H1 a xs)/\(∃ys,SqL K H1 b ys)/\R (Itz K a b) H1
theorem xM{elts:List Expr}{x1}{tpos:Pos}{a b:Expr}{ta:TA}{p pos:Pos}(hg:Gl X "zip")(hm:X.mg "zip"=none)(ha:PA X [a,b] ta)(hs:starEach [a,b] X.env=(false,eval a X.env)::starEach [b] X.env:=by rfl)(hpl:(backTo pos (starEach [b] X.env)).any (·.1)=false:=by rfl) :
  PI X (.Tuple elts x1 tpos) (.Call (.Name "zip" p) [a,b] [] pos) (iZip X.K ta):=by
 intro pins s σ H R I h;refine Call_ (cX I hg hm MP (PyProof.Rows.callWith_type1 (thn (ha pos pins s σ H _ I h) fun us s1 hq95=>?_) hs hpl));obtain⟨vs,H1,I1,r1,q1⟩:=hq95;obtain⟨l1,l2,e,⟨xs,hq1⟩,⟨ys,hq2⟩,q⟩:=q1;subst e;cases r1 with
 |cons ru rr=>
  cases rr with
  |cons rv rr=>
   cases rr;cases ru;cases rv;obtain⟨it1,rv1,p1,hz1⟩:=I1.list hq1;obtain⟨it2,rv2,p2,hz2⟩:=I1.list hq2;refine call_zip_2 p1.isList p2.isList fun h' g1 g2 g3 g4 g5 hsz hk=>?_;refine wpAny_pyIter_zip g1 ?_;have I2:Inv X pins σ H1 {s1 with heap:=h',toks:=s1.toks}:=I1.kept hk;obtain⟨o1,e1,_⟩:=p1.isList;obtain⟨o2,e2,_⟩:=p2.isList;have lt1:=Hz e1;have lt2:=Hz e2;have bb:∀j k:Nat,j≠k->s1.heap.objs.size+j≠s1.heap.objs.size+k:=fun j k h e=>h (Nat.add_left_cancel e);have a1:∀k,l1≠s1.heap.objs.size+k:=fun k=>DZ (DT lt1 (Fw _ _));have a2:∀k,l2≠s1.heap.objs.size+k:=fun k=>DZ (DT lt2 (Fw _ _));refine⟨s1.heap.objs.size+4,[s1.heap.objs.size+4,s1.heap.objs.size+2,s1.heap.objs.size+3,s1.heap.objs.size,s1.heap.objs.size+1],_,Itz X.K l1 l2,H1,rfl,I2,rD _ _ _ _ _ l1 l2 ⟨bb 2 4 (by decide),bb 3 4 (by decide),bb 0 4 (by decide),bb 1 4 (by decide),bb 2 3 (by decide),bb 2 0 (by decide),bb 2 1 (by decide),bb 3 0 (by decide),bb 3 1 (by decide),bb 0 1 (by decide),a1 4,a1 3,a1 0,a1 1,a2 4,a2 3,a2 0,a2 1⟩,⟨g1,g2,⟨_,_,g3⟩,g4,g5⟩,fun b hb=>?_,q⟩;have hb':s1.heap.objs.size<=b:=by
    simp only[Eb,EI,or_false] at hb;rcases hb with rfl|rfl|rfl|rfl|rfl<;>first|exact DP _|exact Fw _ _
   exact I1.Ma hb' (I1.hok.fresh hb')
end
section
variable {prog:Program}{w:World}{A:Around}{E:Value->Shared->Prop}{s:Shared}
theorem ki{l sl:Addr}{n:Nat}{vl vu:Value}{lo hi:Option Int}{Q:Unit->Shared->Prop}(ho:s.heap.get? l=some {cls:=.type "list",data:=.seq (([]:List Value).toArray) n})
  (hs:s.heap.IsSliceOf sl vl vu .none)(pl:IsPart vl lo)(pu:IsPart vu hi)(f:Obj->Obj)
  (h:∀f:Obj->Obj,f {cls:=.type "list",data:=.seq (([]:List Value).toArray) n}={cls:=.type "list",data:=.seq (([]:List Value).toArray) n}->Q () {s with heap:=s.heap.update l f}):wpAny (model prog w) A (delItem (.ref l) (.ref sl)) Q E s:=by
 obtain⟨os,hos,hcs,hds⟩:=id hs;have hT:s.TypeIs (.ref l) "list":=⟨_,ho,rfl⟩
 have hTs:s.TypeIs (.ref sl) "slice":=⟨os,hos,hcs⟩
 refine wpAny_delItem_slot hT (by decide) PySem.F.slot_list_delitem (HQ PySem.F.slot_list_delitem hT PySem.F.entry_list_delitem ?_ (PySem.F.args_list_delitem_2 _ _));show wpAny _ _ (Builtin.List.listSubscript? (.ref sl) >>= _) _ _ s;refine Hm ?_;unfold Builtin.List.listSubscript?;refine Hm (wpAny_specialOf hTs slice_no_index ?_);simp only[Option.isNone_none,if_true];refine Hn ?_;show wpAny _ _ (typeOf (.ref sl) >>= _) _ _ s;refine Hm (wpAny_typeOf hTs ?_);rw[Ho (by decide)];rw[listSliceParts_eq];refine Hm (Hm (wpAny_field hos hds (x:=.none) rfl (Hm (wpAny_listPart .none ?_))));have hstep:¬((rawPart none==rawInt 0)=true):=Ek;rw[Ho hstep];refine Hm (wpAny_field hos hds (x:=vl) rfl (Hm (wpAny_listPart pl ?_)));refine Hm (wpAny_field hos hds (x:=vu) rfl (Hm (wpAny_listPart pu (Hn ?_))));refine Hm (m:=Builtin.List.listItems (.ref l)) ?_;unfold Builtin.List.listItems;refine Hm (wpAny_seqItems ho rfl (Hn ?_));refine Hm (wpAny_of_eq (sliceIndices_raw lo hi none 0 (by simp)) ?_);refine Hm (HS ?_);refine Hm ?_;show wpAny _ _ (updateSeq l _) _ _ s;refine wpAny_updateSeq (hz:=Ec _) (_hz':=Ec _) ho rfl ?_;refine Hm (wpAny_letGo ?_);exact Hn ⟨_,rfl,h _ rfl⟩
end
section
variable {X:Cx}{o lo:Expr}{p2 tpos pos:Pos}{td tl:TE}
def ue (td tl:TE):TS:=fun D σ H=>td σ H fun x H1=>yw tl σ H1 fun _ H2=>∃p,x=.ref p/\H2 p=some (.lst [])/\D.nx σ (upd H2 p (.lst []))
theorem qe(ho:PE X o td)(hi:PE X lo tl):PS X (.Delete [.Subscript o (.Slice (some lo) none none p2) tpos] pos) (ue td tl):=by
 intro pins s σ H D I h;refine wpAny_Delete (wpAny_deleteEach_cons (wpAny_delete_Subscript (thn (ho pins s σ H _ I h) fun u s1 hq96=>?_)));obtain⟨x,H1,I1,rx,q1⟩:=hq96;refine wpAny_Slice (thn (eA hi pins s1 σ H1 _ I1 q1) fun vl s2 hq97=>?_);obtain⟨l,H2,I2,pl,q2⟩:=hq97;obtain⟨p,rfl,hp,q⟩:=q2;cases rx;rw[evalPart_none];refine Hn (Hn ?_);have I4:Inv X pins σ H2 {s2 with heap:=s2.heap.push {cls:=.type "slice",data:=.fields #[vl,.none,.none]}}:=I2.kept (t':=s2.toks) fun b ob q=>HJ _ q;obtain⟨its,n,r,e,hz⟩:=I4.lst hp;cases r;refine ki e (Heap.IsSliceOf.new ..) pl .none id fun f hf=>wpAny_deleteEach_nil ⟨σ,_,I4.Mr (t:=s2.toks) hp e hf .nil (Ec _),q⟩
end
theorem xr{P:Program}{w:World}{k:Key}{v:Value}(h:(aM P w).is k v=true):RelV (kV k) v:=by
 rcases Ih h with ⟨i,t,e,e2⟩|⟨x,t,e,e2⟩
 ·subst e;subst e2;exact⟨t,rfl⟩
 ·subst e;subst e2;exact⟨t,rfl⟩
def ItM (a:Addr)(o:Obj)(kvs:List (Key×V)):It:=
 ⟨fun i H=>H a=some (.frz o (.dK kvs))/\i<kvs.length,fun i H x H'=>H'=H/\∃p,kvs[i]?=some p/\x=kV p.1,fun i H=>H a=some (.frz o (.dK kvs))/\kvs.length<=i⟩
theorem mC{P:Program}{w:World}{K:W.Frag}{tg:Expr}(a it:Addr)(o:Obj)(kvs:List (Key×V)):Turn P w K tg (ItM a o kvs) [it] it (fun i h=>∃es ep,o.data=.dict es ep/\es.size=kvs.length/\h.IsKeyIter it a i es.size ep) where
 mem:=by simp
 obj:=fun i h st b hb=>by
  have e:b=it:=by simpa using hb
  subst e;obtain⟨es,ep,_,_,o',e,c,d⟩:=st;exact⟨o',e,fun v z=>by rw[d] at z;cases z⟩
 keep:=fun i h h' st k=>by
  obtain⟨es,ep,e1,e2,st⟩:=st;exact⟨es,ep,e1,e2,st.at fun o e=>k it (by simp) o e⟩
 item:=by
  intro X hP hw hK hc i pins s σ H E I hf st hg;subst hP hw hK;obtain⟨es,ep,hd,hn,st⟩:=st;obtain⟨ha,hi⟩:=hg;obtain⟨hoa,hz,hm,xs,kt,o',es',ep',ho',hc',hd',hks,he',_⟩:=I.hok a _ ha;rw[hoa] at ho';cases ho';rw[hd] at hd';cases hd';have hi':i<es.size:=by lia
  obtain⟨f0,f1,f2,f3,f4,f5⟩:=hf it (by simp);refine kW st hoa hd hi' fun h' st' sb=>?_;have I1:Inv X pins σ H {s with heap:=h'}:=I.turned (t':=s.toks) (fun b o hb e=>(sb.2 b hb).trans e) f0 f1 f3 f4 f5;obtain⟨q,eq,e1,e2⟩:=KV.at kt (DW hi);have e4:(aM X.prog X.w).is q.1 es[i].key=true:=qN he' (by simp[hi']) eq;rw[<- e1] at e4;obtain⟨oi,e,c,d⟩:=id st';exact⟨_,rfl,kF (s:={s with heap:=h'}) e c d (by decide) ⟨kV kvs[i].1,H,I1,xr e4,⟨rfl,kvs[i],DW hi,rfl⟩,⟨es,ep,hd,hn,st'⟩,fun b hb=>(hf b hb).1⟩⟩
 done:=by
  intro X hP hw hK hc i pins s σ H E I hf st hg;subst hP hw hK;obtain⟨es,ep,hd,hn,st⟩:=st;obtain⟨ha,hi⟩:=hg;obtain⟨hoa,_⟩:=I.hok a _ ha;obtain⟨f0,f1,f2,f3,f4,f5⟩:=hf it (by simp);exact pU (I.ok.hd hc) st hoa hd (by lia) fun h' eb=>⟨rfl,I.turned (t':=s.toks) (fun b o hb e=>eb b o hb e) f0 f1 f3 f4 f5⟩
 self:=fun _ _ _ _ _ st h=>by
  obtain⟨es,ep,_,_,st⟩:=st;exact wpAny_pyIter_keyiter st h
section
variable {X:Cx}{tg:Expr}
def ya (tl:TE):TI:=fun σ H R=>tl σ H fun x H1=>∃a kvs,x=.ref a/\H1 a=some (.dK kvs)/\∀o,R (ItM a o kvs) (upd H1 a (.frz o (.dK kvs)))
theorem iP{l:Expr}{tl:TE}(hl:PE X l tl):PI X tg l (ya tl):=by
 intro pins s σ H R I h;refine thn (hl pins s σ H _ I h) fun v s1 hq98=>?_;obtain⟨x,H1,I1,r1,q1⟩:=hq98;obtain⟨a,kvs,e,hd,q⟩:=q1;subst e;cases r1;obtain⟨hz,hm,xs,kt,o,es,ep,ho,hc,hdd,hks,he,_⟩:=I1.hok a _ hd;refine lK hm ho hc hdd ?_;have I2:=I1.freeze hd ho (fun _ z=>by cases z) (fun _ _ z=>by cases z) (fun _ z=>by cases z) (fun _ z=>by cases z);have hn:es.size=kvs.length:=by
  have h1:es.toList.length=xs.length:=mK he;rw[EY] at h1;rw[h1];exact kt.length.symm
 refine⟨s1.heap.objs.size,[s1.heap.objs.size],_,_,upd H1 a (.frz o (.dK kvs)),rfl,I2.kept (t':=s1.toks) fun b o e=>HJ _ e,mC a _ o kvs,⟨es,ep,hdd,hn,_,HK _ rfl,rfl,rfl⟩,fun b hb=>?_,q o⟩;have e:b=s1.heap.objs.size:=by simpa using hb
 subst e;exact I2.Ma (DP _) (I2.hok.fresh (DP _))
end
section
variable {X:Cx}
def Pu:List V->Hp->VK->Prop:=fun xs H Q=>∃p kvs,xs=[.ref p]/\Rd H p (.dK kvs)/\∀l,H l=none->Q (.ref l) (upd H l (.lst (kvs.map fun kv=>kV kv.1)))
theorem pK(hc:X.calm=true):cP X (.type "list") Pu:=by
 intro pins s σ H xs us Q I r h;obtain⟨p,kvs,rfl,hd,q⟩:=h;obtain⟨u,rfl,rx⟩:=fw r;cases rx;obtain⟨hz,lo,vs,rel,dd⟩:=hX I.hok hd;obtain⟨ep,hat⟩:=dd.dictAt;refine W.kdl_call (W.kdl_dict (knd:=aM X.prog X.w) lo) (I.ok.hd hc) hat (by rw[<- rel.length];exact hz) fun h' tk acc' c' kp e ha=>?_;have vv:Vals (kvs.map fun kv=>kV kv.1) acc'.toList:=by
  refine JM _ _ (by rw[DQ,EY];exact rel.length.trans ha.1.symm) fun j y u h1 h2=>?_;rw[DY] at h1;obtain⟨kv,hkv,rfl⟩:=EB.mp h1;obtain⟨k,x,e1,e2⟩:=ha.2 j u (by rw[<- Fk];exact h2);obtain⟨q',eq,e3,_⟩:=KV.at rel hkv;rw[e1] at eq;cases eq;rw[e3];exact xr e2
 exact⟨.ref _,_,I.laid (t':=tk) (o:=.lst (kvs.map fun kv=>kV kv.1)) kp (DP _) ⟨by rw[DQ];exact hz,acc'.toList,c',vv,e⟩,rfl,q _ (I.hok.fresh (DP _))⟩
end
section
variable {prog:Program}{w:World}{A:Around}{E:Value->Shared->Prop}{s:Shared}
theorem ko{Q:Int->Shared->Prop}(h:Q 0xFCA86420 {s with toks:=s.toks+1}):wpAny (model prog w) A (pyHash .none) Q E s:=by
 have hT:s.TypeIs .none "NoneType":=rfl;unfold pyHash;have hv:[Value.none].any Value.onHeap=false:=rfl;refine Hm ?_;rw[cRoomFor,Ho (by rw[hv];exact Ek)];refine Hn ?_;refine Hm (wpAny_specialOf hT PySem.F.slot_NoneType_hash.lookup ?_);show wpAny _ _ (if (some (Value.builtin "NoneType.__hash__")==some Value.none)=true then _ else _) Q E s;rw[Ho (by rw[beq_builtin_none];exact Ek)];refine Hm (wpAny_specialOf hT PySem.F.slot_NoneType_hash.lookup ?_);show wpAny _ _ (callSpecialIfBoundUnlessNone? .none "__hash__" _ >>= _) Q E s
 refine Hm (wpAny_callSpecialIfBoundUnlessNone?_slot hT PySem.F.slot_NoneType_hash
  (HQ PySem.F.slot_NoneType_hash hT PySem.F.entry_NoneType_hash
   (show wpAny _ _ (do ret (<- mkInt 0xFCA86420)) _ _ s from wpAny_ret_mkInt ?_) (PySem.F.args_NoneType_hash_1 _)))
 exact Hn h
end
abbrev LZ:=Option Key
def PB:LZ->Value->Bool
 |none,.none=>true
 |some k,v=>Km k v
 |_,_=>false
theorem Iw:∀{k:LZ}{v:Value},PB k v=true->(k=none/\v=.none)\/(∃i t,k=some (Sum.inl i)/\v=Value.int i t)\/(∃x t,k=some (Sum.inr x)/\v=Value.str x t)
 |none,v,h=>by cases v<;>first|exact .inl ⟨rfl,rfl⟩|cases h
 |some k,v,h=>by
  rcases Ih (k:=k) (v:=v) h with ⟨i,t,rfl,rfl⟩|⟨x,t,rfl,rfl⟩
  ·exact .inr (.inl ⟨i,t,rfl,rfl⟩)
  ·exact .inr (.inr ⟨x,t,rfl,rfl⟩)
def okH (w:World):LZ->Int
 |none=>0xFCA86420
 |some k=>zR w k
def jY (prog:Program)(w:World):PySem.KeyKind prog w LZ where
 is:=PB
 hash:=okH w
 inj:=fun v a b ha hb=>by
  rcases Iw ha with ⟨rfl,rfl⟩|⟨i,t,rfl,rfl⟩|⟨x,t,rfl,rfl⟩<;>rcases Iw hb with ⟨rfl,e⟩|⟨j,u,rfl,e⟩|⟨y,u,rfl,e⟩<;>first|rfl|(injection e with e1 _;rw[e1])|exact nomatch e
 byValue:=fun k v h=>by
  rcases Iw h with ⟨rfl,rfl⟩|⟨i,t,rfl,rfl⟩|⟨x,t,rfl,rfl⟩<;>rfl
 pyHash:=fun hv h=>by
  rcases Iw hv with ⟨rfl,rfl⟩|⟨i,t,rfl,rfl⟩|⟨x,t,rfl,rfl⟩
  ·exact ko h
  ·exact wpAny_pyHash_int h
  ·exact wpAny_pyHash_str h
 eqBool:=fun hu hv h=>by
  rcases Iw hu with ⟨rfl,rfl⟩|⟨i,t,rfl,rfl⟩|⟨x,t,rfl,rfl⟩<;>rcases Iw hv with ⟨rfl,rfl⟩|⟨j,u,rfl,rfl⟩|⟨y,u,rfl,rfl⟩
  ·exact SeqAt.EqAt.same _ _ _ _ _ h
  ·exact SeqAt.EqAt.none_int j u _ _ _ _ h
  ·exact SeqAt.EqAt.none_str y u _ _ _ _ h
  ·exact SeqAt.EqAt.int_none i t _ _ _ _ h
  ·have e:decide (some (Sum.inl i:Key)=some (Sum.inl j))=(i==j):=by rw[<- tI];simp
   rw[e] at h;exact wpAny_eqBool_int h
  ·have e:decide (some (Sum.inl i:Key)=some (Sum.inr y))=false:=by simp
   rw[e] at h;exact SeqAt.EqAt.int_str i t y u _ _ _ _ h
  ·exact SeqAt.EqAt.str_none x t _ _ _ _ h
  ·have e:decide (some (Sum.inr x:Key)=some (Sum.inl j))=false:=by simp
   rw[e] at h;exact SeqAt.EqAt.str_int x t j u _ _ _ _ h
  ·have e:decide (some (Sum.inr x:Key)=some (Sum.inr y))=decide (x=y):=by rw[<- tm];simp
   rw[e] at h;exact wpAny_eqBool_str h
 «strs»:=fun k x t v h=>by
  rcases Iw h with ⟨rfl,e⟩|⟨i,u,rfl,e⟩|⟨y,u,rfl,e⟩
  ·exact nomatch e
  ·exact nomatch e
  ·injection e with e1 _;subst e1;cases v<;>rfl
theorem nK{P:Program}{w:World}{es:List DictEntry}{vs:List (Key×Value)}(h:Pairs (aM P w) es vs):Pairs (jY P w) es (vs.map fun kv=>((some kv.1:LZ),kv.2)):=by
 induction h with
 |nil=>exact .nil
 |cons a b _ ih=>exact .cons a b ih
theorem zi{P:Program}{w:World}{h:Heap}{a:Addr}{vs:List (Key×Value)}(d:h.DictOf (aM P w) a vs):h.DictOf (jY P w) a (vs.map fun kv=>((some kv.1:LZ),kv.2)):=by
 obtain⟨o,es,ep,h1,h2,h3,h4,h5,h6⟩:=d;refine⟨o,es,ep,h1,h2,h3,fun e he=>?_,nK h5,?_⟩
 ·obtain⟨k,a1,a2⟩:=h4 e he;exact⟨some k,a1,a2⟩
 ·rw[EL];have:(List.map ((fun x:LZ×Value=>x.1) ∘ fun kv:Key×Value=>((some kv.1:LZ),kv.2)) vs)=(vs.map (·.1)).map some:=by rw[EL];rfl
  rw[this];exact List.Pairwise.map _ (fun a b n e=>n (HC e)) h6
theorem valO{vs:List (Key×Value)}:valueAt (vs.map fun kv=>((some kv.1:LZ),kv.2)) (none:LZ)=none:=by
 unfold valueAt;rw[Option.map_eq_none_iff,List.find?_eq_none];intro x hx;obtain⟨kv,_,rfl⟩:=Em.mp hx;simp
section
variable {X:Cx}{o e:Expr}{apos cpos:Pos}{td ty:TE}
def vp (td ty:TE):TE:=fun σ H Q=>td σ H fun x H1=>∃a,x=.ref a/\IsD H1 a/\ty σ H1 fun y H2=>(∃o,IE H2 a y o/\Q (o.getD .non) H2)\/(y=.non/\(∃kvs,Rd H2 a (.dK kvs))/\Q .non H2)
theorem mY(hu:X.A.units+1<cLine)(ho:PE X o td)(he:PE X e ty)(m:M1 X o "get" apos e cpos):PE X (.Call (.Attribute o "get" apos) [e] [] cpos) (vp td ty):=by
 intro pins s σ H Q I h;refine wpAny_Call_method m.base m.few m.line PySem.F.plainAttrs_dict PySem.F.slot_dict_get PySem.F.type_dict_get (thn (ho pins s σ H _ I h) fun u s1 hq99=>?_);obtain⟨x,H1,I1,rx,a,ex,d,q1⟩:=hq99;subst ex;obtain rfl:u=Value.ref a:=rx;obtain⟨t1,t2,t3⟩:=kI I1 d;refine⟨t1,t2,?_⟩;rw[m.trees];refine Calls.callWith_builtin rfl (Calls.evalArgs_plain (Calls.spliced_cons (thn (he pins s1 σ H1 _ I1 q1) fun iv s2 hq100=>?_)));obtain⟨y,H2,I2,ry,q2⟩:=hq100;refine Calls.spliced_nil ?_;rcases q2 with ⟨ov,g,q3⟩|⟨rfl,⟨kvs,hd⟩,q3⟩
 ·exact sR hu I2 g ry fun w' s4 I4 rw'=>⟨_,H2,I4,rw',q3⟩
 ·cases ry;obtain⟨z,lo,vs,rel,dd⟩:=hX I2.hok hd;have dO:=zi dd;refine call_meetsIn PySem.F.slot_dict_get dd.typeIs PySem.F.entry_dict_get (PySem.F.args_dict_get_2 _ _) (meets_dict_get (jY X.prog X.w) a (k:=none) rfl lo) ⟨_,dO.mapOf,?_⟩;rw[valO];exact⟨.non,H2,I2.tok _,rfl,q3⟩
end
end L2
namespace L2
open PySem PySem.Spec PyProof.Rows
open PySem.AutoSeq1 (wpAny_loadPart')
open PySem.MeetsSeq PySem.SeqAt
theorem uE(l:Addr)(its:Array Value)(n:Nat)(x:Value)(e:Value->Bool)(j:Nat)(hj:j<its.size)(hit:e its[j]=true)(hz:its.size<=sizeLine)(c:Nat) :
  ∀i:Nat,j-i=c->i<=j->(∀m (h:m<its.size),i<=m->m<j->e its[m]=false) ->
   Meets (Builtin.«list.remove.loop» ⟨[.ref l,x,rawInt i],[]⟩) (fun A R s=>s.heap.get? l=some { cls:=.type "list",dict:=none,data:=.seq its n,slots:=#[] } /\
    (∀y,y∈its->EqAt A.in1 s y x (e y))/\R (.ok (.ret .none)) { s with heap:=s.heap.update l (Obj.mapSeq fun xs=>xs.eraseIdxIfInBounds j) }):=by
 induction c with
 |zero=>
  intro i hc hi no P w A R s hs;obtain⟨hp,g,d,tk,os⟩:=s;obtain⟨at1,eq1,fin1⟩:=hs;obtain rfl:i=j:=by lia
  wp_walk using wpAny_loadPart' at1
  rw[show its[((i:Nat):Int).toNat]?=some its[i] by simp[hj]];refine Hm (eq1 _ (Array.getElem_mem hj) P w _ _ ?_);rw[hit];have z2:(its.eraseIdxIfInBounds i).size<=sizeLine+1:=Ee (size_erased its _) (Fe hz)
  wp_walk using(wpAny_updateSeq at1 rfl (hz:=hz) (_hz':=z2)),wpAny_loadPart' at1
  simpa using fin1
 |succ c ih=>
  intro i hc hi no P w A R s hs;obtain⟨hp,g,d,tk,os⟩:=s;obtain⟨at1,eq1,fin1⟩:=hs;have lt:i<its.size:=by lia
  wp_walk using wpAny_loadPart' at1
  rw[show its[((i:Nat):Int).toNat]?=some its[i] by simp[lt]];refine Hm (eq1 _ (Array.getElem_mem lt) P w _ _ ?_);rw[no i lt (DP _) (by lia)]
  wp_walk
  rw[show((i:Int)+1)=((i+1:Nat):Int) by push_cast;rfl];refine⟨plainId_quiet plain_remove_loop _,codeAny_builtin entry_remove_loop ?_⟩;rw[Around.under_plainId plain_remove_loop _];exact ih (i+1) (by lia) (by lia) (fun m h h1 h2=>no m h (by lia) h2) P w A R _ ⟨at1,eq1,fin1⟩
theorem vc(l:Addr)(its:Array Value)(n:Nat)(x:Value)(e:Value->Bool)(j:Nat)(hj:j<its.size)(hit:e its[j]=true)(no:∀m (h:m<its.size),m<j->e its[m]=false)(hz:its.size<=sizeLine) :
  Meets (Builtin.«list.remove» ⟨[.ref l,x],[]⟩) (fun A R s=>s.heap.get? l=some { cls:=.type "list",dict:=none,data:=.seq its n,slots:=#[] } /\
    (∀y,y∈its->EqAt A.in1 s y x (e y))/\R (.ok (.ret .none)) { s with heap:=s.heap.update l (Obj.mapSeq fun xs=>xs.eraseIdxIfInBounds j) }):=by
 intro P w A R s hs;obtain⟨hp,g,d,tk,os⟩:=s;obtain⟨at1,eq1,fin1⟩:=hs
 wp_walk using wpAny_loadPart' at1
 refine⟨plainId_quiet plain_remove_loop _,codeAny_builtin entry_remove_loop ?_⟩;rw[Around.under_plainId plain_remove_loop _];exact uE l its n x e j hj hit hz _ 0 rfl (Ec _) (fun m h _ h2=>no m h h2) P w A R _ ⟨at1,eq1,fin1⟩
section
variable {X:Cx}{pins:List (Addr×Obj)}{σ:St}{H:Hp}{s:Shared}
theorem fj{K:W.Frag}:∀{xs:List V}{ds:List PyData},DatAll K H xs ds->xs.length=ds.length
 |_,_,.nil=>rfl
 |_,_,.cons _ r=>by rw[EA,EA,fj r]
theorem hV{K:W.Frag}:∀{xs:List V}{ds:List PyData}{i:Nat}{x:V}{d:PyData},DatAll K H xs ds->xs[i]?=some x->ds[i]?=some d->IY K H x d
 |_,_,i,x,d,.nil,h,_=>by cases h
 |_,_,0,x,d,.cons a _,h,k=>by cases h;cases k;exact a
 |_,_,i+1,x,d,.cons _ r,h,k=>hV (i:=i) r h k
def vt (K:W.Frag):V->List V->Hp->VK->Prop:=fun x vs H Q=>∃l y xs ds d j dj,x=.ref l/\vs=[y]/\H l=some (.lst xs)/\DatAll K H xs ds/\IY K H y d/\PyData.canLayAll0 ds=true/\d.canLay0=true/\d.depth<=60 /\
 ds[j]?=some dj/\PyData.eqv dj d=true/\(∀(m:Nat) dm,m<j->ds[m]?=some dm->PyData.eqv dm d=false)/\Q .non (upd H l (.lst (xs.eraseIdx j)))
theorem Je:∀{ds:List PyData}{i:Nat}{d:PyData},PyData.canLayAll0 ds=true->ds[i]?=some d->d.canLay0=true
 |[],i,d,_,h=>by cases h
 |a::r,0,d,l,h=>by cases h;exact(FI.mp l).1
 |a::r,i+1,d,l,h=>Je (i:=i) (FI.mp l).2 h
theorem oz(hu:X.A.units+64<cLine):MtM X "list.remove" (vt X.K):=by
 intro pins s σ H x vs v us Q I rx rv h;obtain⟨l,y,xs,ds,d,j,dj,rfl,rfl,hH,hD,hy,lD,ly,dep,hj,hit,no,q⟩:=h;cases rx;obtain⟨u,rfl,ru⟩:=rv.one;obtain⟨z,its,n,r,hl,e⟩:=I.Ll hH;obtain⟨bs,rb⟩:=I.reads hy ru;have ln:=fj hD;have rdAt:∀(m:Nat)(h:m<its.length),∃dm as,ds[m]?=some dm/\Reads s.heap its[m] dm as:=fun m h=>by
  have h1:xs[m]?=some xs[m]:=DW (by lia);have h2:ds[m]?=some ds[m]:=DW (by lia);obtain⟨w',hw,rw'⟩:=r.get h1;obtain⟨as,ra⟩:=I.reads (hV hD h1 h2) rw';rw[DW h] at hw;cases hw;exact⟨_,as,h2,ra⟩
 classical
 let ev:Value->Bool:=fun w'=>if k:∃d':PyData,d'.canLay0=true/\∃as,Reads s.heap w' d' as then PyData.eqv k.choose d else false
 have evAt:∀(w':Value)(d':PyData)(as:List Addr),d'.canLay0=true->Reads s.heap w' d' as->ev w'=PyData.eqv d' d:=fun w' d' as c rr=>by
  have k:∃d':PyData,d'.canLay0=true/\∃as,Reads s.heap w' d' as:=⟨d',c,as,rr⟩
  show(if k:_ then _ else _)=_;rw[dif_pos k];obtain⟨as',rr'⟩:=k.choose_spec.2;rw[Reads.unique _ _ _ _ _ k.choose_spec.1 rr' rr]
 have jl:j<its.length:=by have:=(DU.mp hj).1;lia
 refine call_meets PySem.F.slot_list_remove ⟨_,e,rfl⟩ PySem.F.entry_list_remove (PySem.F.args_list_remove_2 _ _) (vc l its.toArray n u ev j (by simpa using jl) ?_ ?_ (by simp;lia)) ⟨e,fun w' hw=>?_,?_⟩
 ·obtain⟨dm,as,h2,ra⟩:=rdAt j jl;rw[hj] at h2;cases h2;show ev its[j]=true;rw[evAt _ _ _ (Je lD hj) ra];exact hit
 ·intro m hm mj;have hm':m<its.length:=by simpa using hm
  obtain⟨dm,as,h2,ra⟩:=rdAt m hm';show ev its[m]=false;rw[evAt _ _ _ (Je lD h2) ra];exact no m dm mj h2
 ·obtain⟨m,hm,rfl⟩:=FP.mp (show w'∈its by simpa using hw);obtain⟨dm,as,h2,ra⟩:=rdAt m hm;rw[evAt _ _ _ (Je lD h2) ra];refine eqAt_reads dm d _ s its[m] u as bs ra rb (Je lD h2) ly ?_;have:=Gv dm.depth d.depth;show X.A.units+1+_<_;lia
 ·refine⟨.non,_,I.OV (its':=its.eraseIdx j) hH e (by simp[jl]) ?_ ?_,rfl,q⟩
  ·exact r.eraseIdx j
  ·have:=List.length_eraseIdx_le xs j;lia
end
end L2
namespace L2
open PySem PySem.Spec PyProof.Rows SeqAt
def zH (X:Cx)(σ:St)(H:Hp)(q:Addr)(key:Addr->Int)(ks:List Addr):Prop:=
 ∀(pins:List (Addr×Obj))(s:Shared)(a:Addr),Inv X pins σ H s->a∈ks->wpAny (model X.prog X.w) X.A.in1 (call (.ref q) [.ref a]) (EP X pins σ fun v H'=>v=.int (key a)/\H'=H) (fun _ _=>False) s
section
variable {X:Cx}{pins:List (Addr×Obj)}{σ:St}{H:Hp}
theorem nP{q l IT S:Addr}{key:Addr->Int}{ks:List Addr}(hl:H l=some (.lst (ks.map V.ref)))(hq:zH X σ H q key ks)(hc:X.calm=true)
  (hIS:IT≠S)(hlI:l≠IT){R:Result->Shared->Prop} :
  ∀(n j:Nat)(s:Shared)(rb:Addr)(ti:Tok)(c:Nat),ks.length-j=n->j<=ks.length->Inv X pins σ H s ->
   ID X pins H IT->ID X pins H S->s.heap.IsListIter IT l j->s.heap.get? S=some (seqObj "list" #[.ref rb,.int (key rb) ti] c)->rb∈ks ->
   (∀(k:Addr)(s':Shared),k∈ks->Inv X pins σ H s'->R (.ok (.ret (.ref k))) s') ->
   codeAny (model X.prog X.w) X.A (.builtin "min.loop" ⟨[.ref IT,.ref q,.ref S],[]⟩) R s:=by
 have hname:(toString "min"++toString ".loop":String)="min.loop":=by decide
 intro n;induction n with
 |zero=>
  intro j s rb ti c hn hj I fI fS hit hS hrb hR;obtain rfl:j=ks.length:=by lia
  obtain⟨_,its,nl,rl,el,gl⟩:=I.Ll hl;have ei:=eW id rl;have W:=Walks.list (prog:=X.prog) (w:=X.w) (A:=X.A.in1) (I.ok.hd hc) IT l hlI its.toArray;have hsz:its.toArray.size=ks.length:=by rw[Ed,ei,DQ]
  refine codeAny_builtin PySem.F.entry_min_loop ?_;rw[Around.under_plainId PySem.F.plain_min_loop _];show wpAny _ X.A.in1 (seqItems? (.ref S) >>= _) _ _ _;refine Hm (wpAny_seqItems hS rfl ?_);show wpAny _ X.A.in1 (tryCatch (pyNext (.ref IT)) _ >>= _) _ _ _;refine Hm (wpAny_tryCatch (W.done _ _ _ ⟨by rw[hsz];exact hit,⟨_,gl,rfl,_,rfl⟩⟩ fun h' tk' hk'=>?_));have I1:Inv X pins σ H {s with heap:=h',toks:=tk'}:=fI.turn I fun b o hb e=>hk' b o (by simpa using hb) e;have hS':=hk' S _ (by simpa using HI hIS) hS;have s1:=Heap.SameBut.update h' S (Obj.mapSeq fun _=>(#[]:Array Value));show wpAny _ X.A.in1 (updateSeq S (fun _=>#[]) >>= _) _ _ _;refine Hm ?_;refine wpAny_updateSeq hS' rfl (Hm (wpAny_letGo (Hn ?_)));exact hR rb _ hrb (fS.turn I1 fun b o hb e=>by rw[s1.2 b hb];exact e)
 |succ n ih=>
  intro j s rb ti c hn hj I fI fS hit hS hrb hR;have hlt:j<ks.length:=by lia
  obtain⟨_,its,nl,rl,el,gl⟩:=I.Ll hl;have ei:=eW id rl;have W:=Walks.list (prog:=X.prog) (w:=X.w) (A:=X.A.in1) (I.ok.hd hc) IT l hlI its.toArray;have hsz:its.toArray.size=ks.length:=by rw[Ed,ei,DQ]
  refine codeAny_builtin PySem.F.entry_min_loop ?_;rw[Around.under_plainId PySem.F.plain_min_loop _];show wpAny _ X.A.in1 (seqItems? (.ref S) >>= _) _ _ _;refine Hm (wpAny_seqItems hS rfl ?_);show wpAny _ X.A.in1 (tryCatch (pyNext (.ref IT)) _ >>= _) _ _ _;refine Hm (wpAny_tryCatch (W.item j _ _ _ (by rw[hsz];exact hlt) ⟨hit,⟨_,gl,rfl,_,rfl⟩⟩ fun v h' tk' hP hst' hk'=>?_));have hv:v=.ref ks[j]:=by
   rw[Gk,ei,DY,DW hlt] at hP;exact(HC hP).symm
  subst hv;have hmem:ks[j]∈ks:=Ep hlt;obtain⟨oI,hoI,hoc,hod⟩:=id hst'.1;have I1:Inv X pins σ H {s with heap:=h',toks:=tk'}:=fI.turn I fun b o hb e=>hk' b o (by simpa using hb) e;have hS':=hk' S _ (by simpa using HI hIS) hS
  have IP:=I1.pinned (fp:=[IT,S]) (fun b hb=>by
   rcases Eb.mp hb with rfl|hb
   ·exact fI
   ·rw[Ei.mp hb];exact fS) (fun b hb=>by
   rcases Eb.mp hb with rfl|hb
   ·exact⟨oI,hoI,fun v e=>by rw[hod] at e;cases e⟩
   ·rw[Ei.mp hb]; exact⟨_,hS',fun v e=>by cases e⟩)
  show wpAny _ X.A.in1 (tryCatch (holding [_] (call (.ref q) [_])) _ >>= _) _ _ _;refine Hm (wpAny_tryCatch (Hw (Hv (hq _ _ _ IP hmem) (fun x s2 he=>?_) fun _ _ hF=>hF.elim)));obtain⟨_,_,I2,r2,rfl,rfl⟩:=he;obtain⟨tn,rfl⟩:=r2;have pin:∀b o,b∈[IT,S]->h'.get? b=some o->s2.heap.get? b=some o:=fun b o hb e=>by
   have m:(b,o)∈dz [IT,S] h':=Gu.mpr ⟨b,hb,by rw[e];rfl⟩;exact(I2.pin (b,o) (DV _ (DV _ m))).1
  have gI2:=pin IT oI (.head _) hoI;have gS2:=pin S _ (.tail _ (.head _)) hS';have I3:=I2.Im;show wpAny _ X.A.in1 (tryCatch (holding [_,.int (key ks[j]) tn] (richCompare .Lt (.int (key ks[j]) tn) (.int (key rb) ti) >>= _)) _ >>= _) _ _ _;refine Hm (wpAny_tryCatch (Hw (Hm (HT.Mh _ _ _ _ _ _ _ _ _ _ ?_))));refine Hm (Hw (wpAny_truthy_bool ?_));refine Hm (wpAny_letGo (Hn ?_));by_cases hb':key ks[j]<key rb
  ·have s1:=Heap.SameBut.update s2.heap S (Obj.mapSeq fun _=>#[.ref ks[j],.int (key ks[j]) tn]);obtain⟨c2,hc2⟩:∃c2,(s2.heap.update S (Obj.mapSeq fun _=>#[.ref ks[j],.int (key ks[j]) tn])).get? S=some (seqObj "list" #[.ref ks[j],.int (key ks[j]) tn] c2):=⟨_,get?_update_seq gS2 fun _=>#[.ref ks[j],.int (key ks[j]) tn]⟩
   simp only[Ht hb',if_true];refine Hm ?_;refine wpAny_updateSeq gS2 rfl (Hm (wpAny_letGo ?_));rw[hname];refine Hn ⟨plainId_quiet PySem.F.plain_min_loop _,ih (j+1) _ _ tn c2 (by lia) hlt (fS.turn (t':=s2.toks) I3 fun b o hb e=>by rw[s1.2 b hb];exact e) fI fS ⟨oI,(s1.2 IT hIS).trans gI2,hoc,hod⟩ hc2 hmem hR⟩
  ·simp only[Hu hb',GP,if_false];refine Hm (wpAny_letGo ?_);rw[hname];refine Hn ⟨plainId_quiet PySem.F.plain_min_loop _,ih (j+1) s2 rb ti c (by lia) hlt I3 fI fS ⟨oI,gI2,hoc,hod⟩ gS2 hrb hR⟩
end
def yV (X:Cx)(q:Addr):List V->List V->Hp->VK->Prop:=fun xs zs H Q=>∃(l:Addr)(ks:List Addr)(key:Addr->Int),xs=[.ref l]/\zs=[.ref q]/\H l=some (.lst (ks.map V.ref))/\ks≠[]/\(∀σ,zH X σ H q key ks)/\∀k,k∈ks->Q (.ref k) H
theorem qo{X:Cx}{q:Addr}(hc:X.calm=true):xJ X (.builtin "min") ["key"] (yV X q):=by
 intro pins s σ H xs zs us ws Q I r rz h;obtain⟨l,ks,key,rfl,rfl,hl,hne,hK',h1⟩:=h;have hK:=hK' σ;obtain⟨u,rfl,rx⟩:=fw r;cases rx;obtain⟨rfl⟩:ws=[.ref q]:=by
  cases rz with
  |cons a b=>cases b;cases a;rfl
 have hname:(toString "min"++toString ".loop":String)="min.loop":=by decide
 show (wq X) (call (.builtin "min") [.ref l] [("key",.ref q)]) _ _ s;obtain⟨_,its,nl,rl,el,gl⟩:=I.Ll hl;have ei:=eW id rl;have hll:l<s.heap.objs.size:=Hz gl;have hls:s.heap.IsList l its.toArray:=⟨_,gl,rfl,_,rfl⟩
 refine kmk_tree PySem.F.kind_min PySem.F.plain_min PySem.F.entry_min (kmk_min_key _ _) ?_;show wpAny _ X.A.in1 (Builtin.Builtins.bindParams "min" ["key","default"] 0 ⟨[],[("key",.ref q)]⟩ >>= _) _ _ s;refine Hm (wpAny_of_eq (show Builtin.Builtins.bindParams "min" ["key","default"] 0 ⟨[],[("key",.ref q)]⟩=pure [some (.ref q),none] from rfl) ?_);refine Hm (Hn ?_);refine Hm (wpAny_pyIter_list hls ?_);refine Hm (wpAny_newList ?_ (Ec _));rw[hname];have hS:(s.heap.push {cls:=.type "list_iterator",data:=.fields #[.ref l,.int 0 0]}).objs.size=s.heap.objs.size+1:=size_push' ..;have hlI:l≠s.heap.objs.size:=DZ hll;have hIS:s.heap.objs.size≠(s.heap.push {cls:=.type "list_iterator",data:=.fields #[.ref l,.int 0 0]}).objs.size:=by rw[hS];exact DZ (Fm _)
 refine Hn ⟨plainId_quiet PySem.F.plain_min_loop _,?_⟩;have K0:∀b o,s.heap.get? b=some o->((s.heap.push {cls:=.type "list_iterator",data:=.fields #[.ref l,.int 0 0]}).push (seqObj "list" #[] 0)).get? b=some o:=fun b x e=>HJ _ (HJ _ e);have gI:((s.heap.push {cls:=.type "list_iterator",data:=.fields #[.ref l,.int 0 0]}).push (seqObj "list" #[] 0)).get? s.heap.objs.size=some {cls:=.type "list_iterator",data:=.fields #[.ref l,.int 0 0]}:=
  HJ _ (HK _ rfl)
 have gS:((s.heap.push {cls:=.type "list_iterator",data:=.fields #[.ref l,.int 0 0]}).push (seqObj "list" #[] 0)).get? (s.heap.push {cls:=.type "list_iterator",data:=.fields #[.ref l,.int 0 0]}).objs.size=some (seqObj "list" #[] 0):=HK _ rfl;have fI:ID X pins H s.heap.objs.size:=I.Ml _ (DP _);have fS:ID X pins H (s.heap.push {cls:=.type "list_iterator",data:=.fields #[.ref l,.int 0 0]}).objs.size:=I.Ml _ (by rw[hS];exact EO _);have I0:Inv X pins σ H {s with heap:=(s.heap.push {cls:=.type "list_iterator",data:=.fields #[.ref l,.int 0 0]}).push (seqObj "list" #[] 0)}:=I.kept (t':=s.toks) K0;generalize (s.heap.push {cls:=.type "list_iterator",data:=.fields #[.ref l,.int 0 0]}).objs.size=S at *;generalize (s.heap.push {cls:=.type "list_iterator",data:=.fields #[.ref l,.int 0 0]}).push (seqObj "list" #[] 0)=hh at *;have W:=Walks.list (prog:=X.prog) (w:=X.w) (A:=X.A.in1) (I.ok.hd hc) s.heap.objs.size l hlI its.toArray;have hsz:its.toArray.size=ks.length:=by rw[Ed,ei,DQ]
 have hlH:hh.IsList l its.toArray:=⟨_,K0 _ _ gl,rfl,_,rfl⟩
 refine codeAny_builtin PySem.F.entry_min_loop ?_;rw[Around.under_plainId PySem.F.plain_min_loop _];show wpAny _ X.A.in1 (seqItems? (.ref _) >>= _) _ _ _;refine Hm (wpAny_seqItems gS rfl ?_);show wpAny _ X.A.in1 (tryCatch (pyNext (.ref s.heap.objs.size)) _ >>= _) _ _ _;have hlt:0<ks.length:=List.length_pos_iff.mpr hne;refine Hm (wpAny_tryCatch (W.item 0 _ _ _ (by rw[hsz];exact hlt) ⟨⟨_,gI,rfl,rfl⟩,hlH⟩ fun v h' tk' hP hst' hk'=>?_));have hv:v=.ref ks[0]:=by
  rw[Gk,ei,DY,DW hlt] at hP;exact(HC hP).symm
 subst hv;have hmem:ks[0]∈ks:=Ep hlt;obtain⟨oI,hoI,hoc,hod⟩:=id hst'.1;have I1:Inv X pins σ H {s with heap:=h',toks:=tk'}:=fI.turn (s:={s with heap:=hh}) I0 fun b o hb e=>hk' b o (by simpa using hb) e;have hS':=hk' S _ (by simpa using HI hIS) gS
 have IP:=I1.pinned (fp:=[s.heap.objs.size,S]) (fun b hb=>by
  rcases Eb.mp hb with rfl|hb
  ·exact fI
  ·rw[Ei.mp hb];exact fS) (fun b hb=>by
  rcases Eb.mp hb with rfl|hb
  ·exact⟨oI,hoI,fun v e=>by rw[hod] at e;cases e⟩
  ·rw[Ei.mp hb]; exact⟨_,hS',fun v e=>by cases e⟩)
 show wpAny _ X.A.in1 (tryCatch (holding [_] (call (.ref q) [_])) _ >>= _) _ _ _;refine Hm (wpAny_tryCatch (Hw (Hv (hK _ _ _ IP hmem) (fun x s2 he=>?_) fun _ _ hF=>hF.elim)));obtain⟨_,_,I2,r2,rfl,rfl⟩:=he;obtain⟨tn,rfl⟩:=r2;have pin:∀b o,b∈[s.heap.objs.size,S]->h'.get? b=some o->s2.heap.get? b=some o:=fun b o hb e=>by
  have m:(b,o)∈dz [s.heap.objs.size,S] h':=Gu.mpr ⟨b,hb,by rw[e];rfl⟩;exact(I2.pin (b,o) (DV _ (DV _ m))).1
 have gI2:=pin _ oI (.head _) hoI;have gS2:=pin S _ (.tail _ (.head _)) hS';have I3:=I2.Im;have s1:=Heap.SameBut.update s2.heap S (Obj.mapSeq fun _=>#[.ref ks[0],.int (key ks[0]) tn]);obtain⟨c2,hc2⟩:∃c2,(s2.heap.update S (Obj.mapSeq fun _=>#[.ref ks[0],.int (key ks[0]) tn])).get? S=some (seqObj "list" #[.ref ks[0],.int (key ks[0]) tn] c2):=⟨_,get?_update_seq gS2 fun _=>#[.ref ks[0],.int (key ks[0]) tn]⟩
 show wpAny _ X.A.in1 (updateSeq S (fun _=>#[.ref ks[0],.int (key ks[0]) tn]) >>= _) _ _ _;refine Hm ?_;refine wpAny_updateSeq gS2 rfl ?_;rw[hname];exact Hn ⟨plainId_quiet PySem.F.plain_min_loop _,nP (pins:=pins) (σ:=σ) hl hK hc hIS hlI _ 1 _ _ tn c2 rfl hlt (fS.turn (t':=s2.toks) I3 fun b o hb e=>by rw[s1.2 b hb];exact e) fI fS ⟨oI,(s1.2 _ hIS).trans gI2,hoc,hod⟩ hc2 hmem fun k s' a1 a3=>⟨.ref k,_,a3,rfl,h1 k a1⟩⟩
theorem uM{X:Cx}{k:Nat}{f:Addr}{fd:FuncData}{ps:List Str}{sp:Sp}(F:Ic X.prog X.w X.K X.mg X.base CX0 k f fd ps sp)(hr:Jm (k+1) X.A)(hb:Binds X.K fd ps []){H:Hp}{key:Addr->Int}{ks:List Addr}
  (hsp:∀(a:Addr)(Q:VK),a∈ks->Q (.int (key a)) H->sp [.ref a] H Q E0):∀σ,zH X σ H f key ks:=by
 intro σ pins s a I ha;have h:=hsp a (fun v H'=>v=.int (key a)/\H'=H) ha ⟨rfl,rfl⟩;have hl:([Value.ref a]++[]).length=ps.length:=F.len _ _ _ _ h;refine wpAny_call (codeAny_mono (F.run X.A.in1 X.stack s H ⟨[.ref a],[]⟩ [.ref a] [.ref a] _ E0 hr.in1 I.PJ.in1 (hb s [.ref a] I.kIn hl) (.cons rfl .nil) h) fun r s' hq=>?_);cases r with
 |error e=>exact False.elim hq
 |ok fl=>
  cases fl with
  |ret u=>exact I.after hq
  |next=>exact False.elim hq
  |brk=>exact False.elim hq
  |cont=>exact False.elim hq
end L2
namespace L2
open PySem PySem.Spec PyProof.Rows
abbrev qA(h:Heap)(T:Addr)(t:Fin 4->Value):Prop:=h.get? T=some {cls:=.type "tuple",data:=.seq #[t 0,t 1,t 2,t 3]}
structure Ap4(z TI TO:Addr)(i l:Fin 4->Addr):Prop where
 a:TI≠z
 b:TO≠z
 c:TI≠TO
 iz:∀j,i j≠z
 TIi:∀j,TI≠i j
 TOi:∀j,TO≠i j
 ii:∀j k,j≠k->i j≠i k
 lz:∀j,l j≠z
 lTO:∀j,l j≠TO
 li:∀j k,l j≠i k
structure Z4(h:Heap)(z TI TO:Addr)(i l:Fin 4->Addr)(xs:Fin 4->Array Value)(k:Fin 4->Nat)(f:Value)(t:Fin 4->Value):Prop where
 z:IsZip h z TI TO f
 TI:qA h TI fun j=>.ref (i j)
 TO:qA h TO t
 it:∀j,h.IsListIter (i j) (l j) (k j)
 ls:∀j,h.IsList (l j) (xs j)
def up (k:Fin 4->Nat)(j:Fin 4):Fin 4->Nat:=fun m=>if m=j then k j+1 else k m
def mU (t:Fin 4->Value)(j:Fin 4)(x:Value):Fin 4->Value:=fun m=>if m=j then x else t m
section
variable {prog:Program}{w:World}{A:Around}{E:Value->Shared->Prop}{s:Shared}{z TI TO:Addr}{i l:Fin 4->Addr}{xs:Fin 4->Array Value}{k:Fin 4->Nat}{f g:Value}{t:Fin 4->Value}{h h':Heap}
theorem Z4.iter(D:Ap4 z TI TO i l)(Z:Z4 h z TI TO i l xs k f t)(j:Fin 4)(e:h'.IsListIter (i j) (l j) (k j+1))(b:Heap.SameBut (i j) h h'):Z4 h' z TI TO i l xs (up k j) f t:=
 ⟨b.extBut _ _ (HI (D.iz j)) Z.z,b.extBut _ _ (D.TIi j) Z.TI,b.extBut _ _ (D.TOi j) Z.TO,fun m=>by
  unfold up;by_cases hm:m=j
  ·subst hm;rw[Hq rfl];exact e
  ·rw[Ho hm];exact(Z.it m).extBut b.extBut (D.ii m j hm),fun m=>(Z.ls m).extBut b.extBut (D.li m j)⟩
theorem Z4.put(D:Ap4 z TI TO i l)(Z:Z4 h z TI TO i l xs k f t)(j:Fin 4)(x:Value)(e:qA h' TO (mU t j x))(b:Heap.SameBut TO h h'):Z4 h' z TI TO i l xs k f (mU t j x):=
 ⟨b.extBut _ _ (HI D.b) Z.z,b.extBut _ _ D.c Z.TI,e,fun m=>(Z.it m).extBut b.extBut (HI (D.TOi m)),fun m=>(Z.ls m).extBut b.extBut (D.lTO m)⟩
theorem Z4.fld(D:Ap4 z TI TO i l)(Z:Z4 h z TI TO i l xs k f t)(e:IsZip h' z TI TO g)(b:Heap.SameBut z h h'):Z4 h' z TI TO i l xs k g t:=
 ⟨e,b.extBut _ _ D.a Z.TI,b.extBut _ _ D.b Z.TO,fun m=>(Z.it m).extBut b.extBut (D.iz m),fun m=>(Z.ls m).extBut b.extBut (D.lz m)⟩
theorem Z4.push(Z:Z4 h z TI TO i l xs k f t)(o:Obj):Z4 (h.push o) z TI TO i l xs k f t:=
 ⟨HJ _ Z.z,HJ _ Z.TI,HJ _ Z.TO,fun m=>(Z.it m).at fun o e=>HJ _ e,fun m=>(Z.ls m).at fun o e=>HJ _ e⟩
theorem gj{j:Fin 4}{x:Value}{Q:Unit->Shared->Prop}(hT:qA s.heap TO t)(q:∀h',qA h' TO (mU t j x)->Heap.SameBut TO s.heap h'->Q () {s with heap:=h'}) :
  wpAny (model prog w) A (updateSeq TO (·.setIfInBounds j x)) Q E s:=by
 refine wpAny_updateSeq hT rfl (q _ ?_ (Heap.SameBut.update ..));show(s.heap.update TO _).get? TO=_;rw[Heap.get?_update_self _ hT rfl]
 match j with
 |0=>simp[Obj.mapSeq,mU]
 |1=>simp[Obj.mapSeq,mU]
 |2=>simp[Obj.mapSeq,mU]
 |3=>simp[Obj.mapSeq,mU];rfl
def Ik(z TO:Addr)(i:Fin 4->Addr)(h h':Heap):Prop:=∀c o,c≠z->c≠TO->(∀j,c≠i j)->h.get? c=some o->h'.get? c=some o
theorem Ik.trans{h1 h2:Heap}(a:Ik z TO i h h1)(b:Ik z TO i h1 h2):Ik z TO i h h2:=fun c o c1 c2 c3 e=>b c o c1 c2 c3 (a c o c1 c2 c3 e)
theorem Ik.ofZ(b:Heap.SameBut z h h'):Ik z TO i h h':=fun c o c1 _ _ e=>b.extBut _ _ c1 e
theorem Ik.ofT(b:Heap.SameBut TO h h'):Ik z TO i h h':=fun c o _ c2 _ e=>b.extBut _ _ c2 e
theorem Ik.ofI(j:Fin 4)(b:Heap.SameBut (i j) h h'):Ik z TO i h h':=fun c o _ _ c3 e=>b.extBut _ _ (c3 j) e
theorem oB{x:Fin 4->Value}{n:Nat}{Q:Value->Shared->Prop}(D:Ap4 z TI TO i l)(Z:Z4 s.heap z TI TO i l xs (fun _=>n) .none t)(hx:∀j,(xs j)[n]?=some (x j))
  (hQ:∀h',Z4 h' z TI TO i l xs (fun _=>n+1) (rawInt s.heap.objs.size) x->qA h' s.heap.objs.size x->h'.objs.size=s.heap.objs.size+1->Ik z TO i s.heap h'->Q (.ref s.heap.objs.size) {s with heap:=h'}) :
  wpAny (model prog w) A (Builtin.«zip.__next__» ⟨[.ref z],[]⟩) (fun fin s'=>∃v,fin=.done (.ret v)/\Q v s') E s:=by
 show wpAny _ _ (field (.ref z) 2 >>= _) _ _ _;refine Hm (wpAny_field Z.z rfl (x:=.bool false) rfl ?_);show wpAny _ _ (field (.ref z) 3 >>= _) _ _ _;refine Hm (wpAny_field Z.z rfl (x:=.ref TI) rfl ?_);refine Hm (wpAny_seqItems Z.TI rfl ?_);show wpAny _ _ (Builtin.SmallTypes.ownedTupleIsFree (.ref z) >>= _) _ _ _;refine Hm ?_;unfold Builtin.SmallTypes.ownedTupleIsFree;refine Hm (wpAny_field Z.z rfl (x:=.none) rfl (Hn ?_));simp only[if_true];refine Hm (HS (Hm (wpAny_field Z.z rfl (x:=.ref TO) rfl ?_)));refine Hm (wpAny_setField_rec Z.z (by simp) fun h1 g1 b1=>?_);have Z1:=Z.fld D (g:=.ellipsis) g1 b1;refine Hm ?_;simp only[List.zipIdx_cons,List.zipIdx_nil,Fl,List.forIn_nil];refine Hm (Hm (wpAny_onRaise ?_));show wpAny _ _ (Builtin.SmallTypes.nextOf (.ref (i 0)) >>= _) _ _ _;refine Hm (wpAny_nextOf_list_item (Z1.it 0) (Z1.ls 0) (hx 0) fun h2 e2 b2=>Hn ?_);have Z2:=Z1.iter D 0 e2 b2;refine Hm (wpAny_seqItems Z2.TO rfl (Hm (gj (j:=0) Z2.TO fun h3 e3 b3=>?_)));have Z3:=Z2.put D 0 (x 0) e3 b3;refine Hm (wpAny_letGo (Hn ?_));refine Hm (Hm (wpAny_onRaise ?_));show wpAny _ _ (Builtin.SmallTypes.nextOf (.ref (i 1)) >>= _) _ _ _;refine Hm (wpAny_nextOf_list_item (Z3.it 1) (Z3.ls 1) (hx 1) fun h4 e4 b4=>Hn ?_);have Z4:=Z3.iter D 1 e4 b4;refine Hm (wpAny_seqItems Z4.TO rfl (Hm (gj (j:=1) Z4.TO fun h5 e5 b5=>?_)));have Z5:=Z4.put D 1 (x 1) e5 b5;refine Hm (wpAny_letGo (Hn ?_));refine Hm (Hm (wpAny_onRaise ?_));show wpAny _ _ (Builtin.SmallTypes.nextOf (.ref (i 2)) >>= _) _ _ _;refine Hm (wpAny_nextOf_list_item (Z5.it 2) (Z5.ls 2) (hx 2) fun h6 e6 b6=>Hn ?_);have Z6:=Z5.iter D 2 e6 b6;refine Hm (wpAny_seqItems Z6.TO rfl (Hm (gj (j:=2) Z6.TO fun h7 e7 b7=>?_)));have Z7:=Z6.put D 2 (x 2) e7 b7;refine Hm (wpAny_letGo (Hn ?_));refine Hm (Hm (wpAny_onRaise ?_));show wpAny _ _ (Builtin.SmallTypes.nextOf (.ref (i 3)) >>= _) _ _ _;refine Hm (wpAny_nextOf_list_item (Z7.it 3) (Z7.ls 3) (hx 3) fun h8 e8 b8=>Hn ?_);have Z8:=Z7.iter D 3 e8 b8;refine Hm (wpAny_seqItems Z8.TO rfl (Hm (gj (j:=3) Z8.TO fun h9 e9 b9=>?_)));have Z9:=Z8.put D 3 (x 3) e9 b9;refine Hm (wpAny_letGo (Hn (Hn ?_)));have eT:mU (mU (mU (mU t 0 (x 0)) 1 (x 1)) 2 (x 2)) 3 (x 3)=x:=funext fun j=>by
  match j with
  |0=>rfl
  |1=>rfl
  |2=>rfl
  |3=>rfl
 have eK:up (up (up (up (fun _=>n) 0) 1) 2) 3=fun _=>n+1:=funext fun j=>by
  match j with
  |0=>rfl
  |1=>rfl
  |2=>rfl
  |3=>rfl
 rw[eT,eK] at Z9;have K9:Ik z TO i s.heap h9:=(Ik.ofZ b1).trans ((Ik.ofI 0 b2).trans ((Ik.ofT b3).trans ((Ik.ofI 1 b4).trans ((Ik.ofT b5).trans ((Ik.ofI 2 b6).trans ((Ik.ofT b7).trans ((Ik.ofI 3 b8).trans (Ik.ofT b9))))))));have sz:h9.objs.size=s.heap.objs.size:=by rw[b9.1,b8.1,b7.1,b6.1,b5.1,b4.1,b3.1,b2.1,b1.1]
 refine Hm (wpAny_seqItems Z9.TO rfl (Hm (wpAny_newTuple ?_)));show wpAny _ _ (Builtin.SmallTypes.ownedTupleHandOut (.ref z) (.ref h9.objs.size) >>= _) _ _ _;refine Hm ?_;unfold Builtin.SmallTypes.ownedTupleHandOut;have Y:=Z9.push {cls:=.type "tuple",data:=.seq #[x 0,x 1,x 2,x 3]};refine Hm (wpAny_setField_rec Y.z (by simp) fun ha ga ba=>?_);have Ya:=Y.fld D (g:=rawInt h9.objs.size) ga ba;refine wpAny_setField_rec Ya.z (by simp) fun hb gb bb=>?_;have Yb:=Ya.fld D (g:=rawInt h9.objs.size) gb bb;have zlt:z<h9.objs.size:=Hz Z9.z;have gT:qA hb h9.objs.size x:=bb.extBut _ _ (Fy zlt) (ba.extBut _ _ (Fy zlt) (HK _ rfl));have szb:hb.objs.size=h9.objs.size+1:=by rw[bb.1,ba.1,HR]
 refine Hn ⟨_,rfl,?_⟩;show Q (.ref h9.objs.size) _;rw[sz] at Yb gT szb ⊢;exact hQ hb Yb gT szb fun c o c1 c2 c3 e=>bb.extBut _ _ c1 (ba.extBut _ _ c1 (HJ _ (K9 c o c1 c2 c3 e)))
theorem qG{n:Nat}{Q:PySem.Fin->Shared->Prop}(hh:A.handled=none)(D:Ap4 z TI TO i l)(Z:Z4 s.heap z TI TO i l xs (fun _=>n) .none t)(hend:∃j,(xs j)[n]?=none)
  (hE:∀h' e,Ik z TO i s.heap h'->(∃o,h'.get? e=some o/\o.cls=.type "StopIteration")->E (.ref e) {s with heap:=h'}) :
  wpAny (model prog w) A (Builtin.«zip.__next__» ⟨[.ref z],[]⟩) Q E s:=by
 show wpAny _ _ (field (.ref z) 2 >>= _) _ _ _;refine Hm (wpAny_field Z.z rfl (x:=.bool false) rfl ?_);show wpAny _ _ (field (.ref z) 3 >>= _) _ _ _;refine Hm (wpAny_field Z.z rfl (x:=.ref TI) rfl ?_);refine Hm (wpAny_seqItems Z.TI rfl ?_);show wpAny _ _ (Builtin.SmallTypes.ownedTupleIsFree (.ref z) >>= _) _ _ _;refine Hm ?_;unfold Builtin.SmallTypes.ownedTupleIsFree;refine Hm (wpAny_field Z.z rfl (x:=.none) rfl (Hn ?_));simp only[if_true];refine Hm (HS (Hm (wpAny_field Z.z rfl (x:=.ref TO) rfl ?_)));refine Hm (wpAny_setField_rec Z.z (by simp) fun h1 g1 b1=>?_);have Z1:=Z.fld D (g:=.ellipsis) g1 b1;have K1:Ik z TO i s.heap h1:=Ik.ofZ b1;refine Hm ?_;simp only[List.zipIdx_cons,List.zipIdx_nil,Fl,List.forIn_nil];refine Hm (Hm (wpAny_onRaise ?_));show wpAny _ _ (Builtin.SmallTypes.nextOf (.ref (i 0)) >>= _) _ _ _;cases q0:(xs 0)[n]? with
 |none=>
  refine Hm (wpAny_nextOf_list_end hh (Z1.it 0) (Z1.ls 0) q0 fun h2 e b2 he=>?_);obtain⟨oe,hoe,hce⟩:=he;have y:IsZip h2 z TI TO .ellipsis:=b2 _ _ (HI (D.iz 0)) Z1.z;have ne:e≠z:=fun w=>by subst w;rw[y] at hoe;cases hoe;simp at hce
  exact wpAny_setField_rec y (by simp) fun hc _ bc=>hE hc e (fun c o c1 c2 c3 u=>bc.extBut _ _ c1 (b2 _ _ (c3 0) (K1 c o c1 c2 c3 u))) ⟨oe,bc.extBut _ _ ne hoe,hce⟩
 |some x0=>
 refine Hm (wpAny_nextOf_list_item (Z1.it 0) (Z1.ls 0) q0 fun h2 e2 b2=>Hn ?_);have Z2:=Z1.iter D 0 e2 b2;refine Hm (wpAny_seqItems Z2.TO rfl (Hm (gj (j:=0) Z2.TO fun h3 e3 b3=>?_)));have Z3:=Z2.put D 0 x0 e3 b3;have K3:Ik z TO i s.heap h3:=K1.trans ((Ik.ofI 0 b2).trans (Ik.ofT b3));refine Hm (wpAny_letGo (Hn ?_));refine Hm (Hm (wpAny_onRaise ?_));show wpAny _ _ (Builtin.SmallTypes.nextOf (.ref (i 1)) >>= _) _ _ _;cases q1:(xs 1)[n]? with
 |none=>
  refine Hm (wpAny_nextOf_list_end hh (Z3.it 1) (Z3.ls 1) q1 fun h4 e b4 he=>?_);obtain⟨oe,hoe,hce⟩:=he;have y:IsZip h4 z TI TO .ellipsis:=b4 _ _ (HI (D.iz 1)) Z3.z;have ne:e≠z:=fun w=>by subst w;rw[y] at hoe;cases hoe;simp at hce
  exact wpAny_setField_rec y (by simp) fun hc _ bc=>hE hc e (fun c o c1 c2 c3 u=>bc.extBut _ _ c1 (b4 _ _ (c3 1) (K3 c o c1 c2 c3 u))) ⟨oe,bc.extBut _ _ ne hoe,hce⟩
 |some x1=>
 refine Hm (wpAny_nextOf_list_item (Z3.it 1) (Z3.ls 1) q1 fun h4 e4 b4=>Hn ?_);have Z4:=Z3.iter D 1 e4 b4;refine Hm (wpAny_seqItems Z4.TO rfl (Hm (gj (j:=1) Z4.TO fun h5 e5 b5=>?_)));have Z5:=Z4.put D 1 x1 e5 b5;have K5:Ik z TO i s.heap h5:=K3.trans ((Ik.ofI 1 b4).trans (Ik.ofT b5));refine Hm (wpAny_letGo (Hn ?_));refine Hm (Hm (wpAny_onRaise ?_));show wpAny _ _ (Builtin.SmallTypes.nextOf (.ref (i 2)) >>= _) _ _ _;cases q2:(xs 2)[n]? with
 |none=>
  refine Hm (wpAny_nextOf_list_end hh (Z5.it 2) (Z5.ls 2) q2 fun h6 e b6 he=>?_);obtain⟨oe,hoe,hce⟩:=he;have y:IsZip h6 z TI TO .ellipsis:=b6 _ _ (HI (D.iz 2)) Z5.z;have ne:e≠z:=fun w=>by subst w;rw[y] at hoe;cases hoe;simp at hce
  exact wpAny_setField_rec y (by simp) fun hc _ bc=>hE hc e (fun c o c1 c2 c3 u=>bc.extBut _ _ c1 (b6 _ _ (c3 2) (K5 c o c1 c2 c3 u))) ⟨oe,bc.extBut _ _ ne hoe,hce⟩
 |some x2=>
 refine Hm (wpAny_nextOf_list_item (Z5.it 2) (Z5.ls 2) q2 fun h6 e6 b6=>Hn ?_);have Z6:=Z5.iter D 2 e6 b6;refine Hm (wpAny_seqItems Z6.TO rfl (Hm (gj (j:=2) Z6.TO fun h7 e7 b7=>?_)));have Z7:=Z6.put D 2 x2 e7 b7;have K7:Ik z TO i s.heap h7:=K5.trans ((Ik.ofI 2 b6).trans (Ik.ofT b7));refine Hm (wpAny_letGo (Hn ?_));refine Hm (Hm (wpAny_onRaise ?_));show wpAny _ _ (Builtin.SmallTypes.nextOf (.ref (i 3)) >>= _) _ _ _;cases q3:(xs 3)[n]? with
 |none=>
  refine Hm (wpAny_nextOf_list_end hh (Z7.it 3) (Z7.ls 3) q3 fun h8 e b8 he=>?_);obtain⟨oe,hoe,hce⟩:=he;have y:IsZip h8 z TI TO .ellipsis:=b8 _ _ (HI (D.iz 3)) Z7.z;have ne:e≠z:=fun w=>by subst w;rw[y] at hoe;cases hoe;simp at hce
  exact wpAny_setField_rec y (by simp) fun hc _ bc=>hE hc e (fun c o c1 c2 c3 u=>bc.extBut _ _ c1 (b8 _ _ (c3 3) (K7 c o c1 c2 c3 u))) ⟨oe,bc.extBut _ _ ne hoe,hce⟩
 |some x3=>
 exfalso;obtain⟨j,hj⟩:=hend
 match j,hj with
 |0,hj=>rw[q0] at hj;cases hj
 |1,hj=>rw[q1] at hj;cases hj
 |2,hj=>rw[q2] at hj;cases hj
 |3,hj=>rw[q3] at hj;cases hj
theorem mQ{x:Fin 4->Value}{n:Nat}{Q:Option Value->Shared->Prop}(D:Ap4 z TI TO i l)(Z:Z4 s.heap z TI TO i l xs (fun _=>n) .none t)(hx:∀j,(xs j)[n]?=some (x j))
  (hQ:∀h',Z4 h' z TI TO i l xs (fun _=>n+1) (rawInt s.heap.objs.size) x->qA h' s.heap.objs.size x->h'.objs.size=s.heap.objs.size+1->Ik z TO i s.heap h'->Q (some (.ref s.heap.objs.size)) {s with heap:=h'}) :
  wpAny (model prog w) A (pyNext (.ref z)) Q E s:=by
 have hT:s.TypeIs (.ref z) "zip":=⟨_,Z.z,rfl⟩
 unfold pyNext;exact Hm (HP (wpAny_callSpecial?_slot (name:=Str.ofString "__next__") hT PySem.F.slot_zip_next (HQ PySem.F.slot_zip_next hT PySem.F.entry_zip_next (oB D Z hx fun h' a1 a2 a3 a4=>Hn (hQ h' a1 a2 a3 a4)) (PySem.F.args_zip_next_1 _))))
theorem pL{n:Nat}{Q:Option Value->Shared->Prop}(hh:A.handled=none)(D:Ap4 z TI TO i l)(Z:Z4 s.heap z TI TO i l xs (fun _=>n) .none t)(hend:∃j,(xs j)[n]?=none)
  (hQ:∀h',Ik z TO i s.heap h'->Q none {s with heap:=h'}):wpAny (model prog w) A (pyNext (.ref z)) Q E s:=by
 have hT:s.TypeIs (.ref z) "zip":=⟨_,Z.z,rfl⟩
 unfold pyNext;refine Hm (HP (wpAny_callSpecial?_slot (name:=Str.ofString "__next__") hT PySem.F.slot_zip_next (HQ PySem.F.slot_zip_next hT PySem.F.entry_zip_next (qG hh D Z hend fun h' e hk he=>?_) (PySem.F.args_zip_next_1 _))));obtain⟨o,ho,hc⟩:=he;exact Hm (wpAny_isInstance (T:="StopIteration") (b:=true) ⟨o,ho,hc⟩ isSubtype_stop (Hn (hQ _ hk)))
end
abbrev it4(h:Heap)(a:Addr):Heap:=h.push {cls:=.type "list_iterator",data:=.fields #[.ref a,.int 0 0]}
abbrev i4(h:Heap)(a:Fin 4->Addr):Heap:=it4 (it4 (it4 (it4 h (a 0)) (a 1)) (a 2)) (a 3)
abbrev t4(h:Heap)(a:Fin 4->Addr):Heap:=(i4 h a).push {cls:=.type "tuple",data:=.seq #[.ref h.objs.size,.ref (it4 h (a 0)).objs.size,.ref (it4 (it4 h (a 0)) (a 1)).objs.size,.ref (it4 (it4 (it4 h (a 0)) (a 1)) (a 2)).objs.size]}
abbrev u4(h:Heap)(a:Fin 4->Addr):Heap:=(t4 h a).push {cls:=.type "tuple",data:=.seq #[.none,.none,.none,.none]}
abbrev z4(h:Heap)(a:Fin 4->Addr):Heap:=(u4 h a).push {cls:=.type "zip",data:=.fields #[.none,.bool false,.bool false,.ref (i4 h a).objs.size,.ref (t4 h a).objs.size]}
theorem sA(a:Fin 4->Addr)(xs:Fin 4->Array Value) :
  Meets (Builtin.«zip.__new__» ⟨[.type "zip",.ref (a 0),.ref (a 1),.ref (a 2),.ref (a 3)],[]⟩) (fun _ R s=>(∀j,s.heap.IsList (a j) (xs j))/\R (.ok (.ret (.ref (u4 s.heap a).objs.size))) {s with heap:=z4 s.heap a}):=
 .of_wp fun prog w A R s h=>by
  obtain⟨hp,g,d,tk,os⟩:=s;obtain⟨hl,h⟩:=h;have hsub:=sub_zip;have l0:Heap.IsList (Shared.heap ⟨hp,g,d,tk,os⟩) (a 0) (xs 0):=hl 0;have l1:Heap.IsList (Shared.heap ⟨it4 hp (a 0),g,d,tk,os⟩) (a 1) (xs 1):=Heap.IsList.push (hl 1) _;have l2:Heap.IsList (Shared.heap ⟨it4 (it4 hp (a 0)) (a 1),g,d,tk,os⟩) (a 2) (xs 2):=Heap.IsList.push (Heap.IsList.push (hl 2) _) _;have l3:Heap.IsList (Shared.heap ⟨it4 (it4 (it4 hp (a 0)) (a 1)) (a 2),g,d,tk,os⟩) (a 3) (xs 3):=Heap.IsList.push (Heap.IsList.push (Heap.IsList.push (hl 3) _) _) _
  wp_walk using wpAny_pyIter_list l0,wpAny_pyIter_list l1,wpAny_pyIter_list l2,wpAny_pyIter_list l3
  exact⟨_,rfl,h⟩
theorem uB(a b c d:Value):checkTypeCall "zip" ⟨[a,b,c,d],[]⟩=pure ():=by kernel_rfl
theorem uV(a b c d:Value):checkBuiltinCall "zip.__new__" ⟨[.type "zip",a,b,c,d],[]⟩=pure ():=by kernel_rfl
theorem uy(o a b c d:Value):argsOk "object.__init__" ⟨[o,a,b,c,d],[]⟩:=by
 unfold argsOk;have e:=signature?_of (id:="object.__init__") (n:=['_','_','t','i','n','i','_','_'])
  (o:=['t','c','e','j','b','o']) (by kernel_rfl) PySem.F.owner_object
 rw[e]
 kernel_rfl
section
variable {prog:Program}{w:World}{A:Around}{E:Value->Shared->Prop}{s:Shared}{xs:Fin 4->Array Value}
theorem ot{a:Fin 4->Addr}{Q:Value->Shared->Prop}(hl:∀j,s.heap.IsList (a j) (xs j))
  (q:∀h',Z4 h' (s.heap.objs.size+6) (s.heap.objs.size+4) (s.heap.objs.size+5) (fun j=>s.heap.objs.size+j) a xs (fun _=>0) .none (fun _=>.none)->h'.objs.size=s.heap.objs.size+7->(∀c o,s.heap.get? c=some o->h'.get? c=some o)->Q (.ref (s.heap.objs.size+6)) {s with heap:=h'}) :
  wpAny (model prog w) A (call (.type "zip") [.ref (a 0),.ref (a 1),.ref (a 2),.ref (a 3)]) Q E s:=by
 refine callType_new PySem.F.called_zip (by decide) (uB _ _ _ _) (uV _ _ _ _) (fun obj=>uy obj _ _ _ _) PySem.F.entry_zip_new (sA a xs) ⟨hl,?_⟩;have s1:(it4 s.heap (a 0)).objs.size=s.heap.objs.size+1:=HR ..;have s2:(it4 (it4 s.heap (a 0)) (a 1)).objs.size=s.heap.objs.size+2:=by rw[HR,s1]
 have s3:(it4 (it4 (it4 s.heap (a 0)) (a 1)) (a 2)).objs.size=s.heap.objs.size+3:=by rw[HR,s2]
 have s4:(i4 s.heap a).objs.size=s.heap.objs.size+4:=by rw[HR,s3]
 have s5:(t4 s.heap a).objs.size=s.heap.objs.size+5:=by rw[HR,s4]
 have s6:(u4 s.heap a).objs.size=s.heap.objs.size+6:=by rw[HR,s5]
 have s7:(z4 s.heap a).objs.size=s.heap.objs.size+7:=by rw[HR,s6]
 have gz:(z4 s.heap a).get? (u4 s.heap a).objs.size=some _:=HK _ rfl;have gu:(z4 s.heap a).get? (t4 s.heap a).objs.size=some _:=HJ _ (HK _ rfl);have gt:(z4 s.heap a).get? (i4 s.heap a).objs.size=some _:=HJ _ (HJ _ (HK _ rfl));have g3:(z4 s.heap a).get? (it4 (it4 (it4 s.heap (a 0)) (a 1)) (a 2)).objs.size=some _:=HJ _ (HJ _ (HJ _ (HK _ rfl)));have g2:(z4 s.heap a).get? (it4 (it4 s.heap (a 0)) (a 1)).objs.size=some _:=HJ _ (HJ _ (HJ _ (HJ _ (HK _ rfl))));have g1:(z4 s.heap a).get? (it4 s.heap (a 0)).objs.size=some _:=HJ _ (HJ _ (HJ _ (HJ _ (HJ _ (HK _ rfl)))));have g0:(z4 s.heap a).get? s.heap.objs.size=some _:=HJ _ (HJ _ (HJ _ (HJ _ (HJ _ (HJ _ (HK _ rfl))))));have kp:∀c o,s.heap.get? c=some o->(z4 s.heap a).get? c=some o:=fun c o x=>HJ _ (HJ _ (HJ _ (HJ _ (HJ _ (HJ _ (HJ _ x))))));show _/\_;rw[s4,s5,s6] at gz;rw[s1,s2,s3,s4] at gt;rw[s5] at gu;rw[s3] at g3;rw[s2] at g2;rw[s1] at g1;rw[s6];refine⟨⟨_,gz,rfl⟩,q _ ⟨gz,gt,gu,fun j=>?_,fun j=>(hl j).at fun o e=>kp _ o e⟩ s7 kp⟩
 match j with
 |0=>exact⟨_,g0,rfl,rfl⟩
 |1=>exact⟨_,g1,rfl,rfl⟩
 |2=>exact⟨_,g2,rfl,rfl⟩
 |3=>exact⟨_,g3,rfl,rfl⟩
end
def It4 (K:W.Frag)(a:Fin 4->Addr):It:=
  ⟨fun n H=>∃(xs:Fin 4->List V) (x:Fin 4->V),∀j,SqL K H (a j) (xs j)/\(xs j)[n]?=some (x j),
   fun n H v H'=>∃(p:Addr)(x:Fin 4->V),H p=none/\v=.ref p/\H'=upd H p (.tup [x 0,x 1,x 2,x 3])/\∀j xs,SqL K H (a j) xs->xs[n]?=some (x j),
   fun n H=>∃xs:Fin 4->List V,(∀j,SqL K H (a j) (xs j))/\∃j,(xs j).length<=n⟩
def St4 (z TI TO:Addr)(i a:Fin 4->Addr)(n:Nat)(h:Heap):Prop:=IsZip h z TI TO .none/\qA h TI (fun j=>.ref (i j))/\(∃t,qA h TO t)/\∀j,h.IsListIter (i j) (a j) n
theorem Ms{z TI TO c:Addr}{i:Fin 4->Addr}:c∈[z,TI,TO,i 0,i 1,i 2,i 3]↔c=z\/c=TI\/c=TO\/∃j,c=i j:=by
 simp only[Eb,EI,or_false];constructor
 ·rintro (h|h|h|h|h|h|h)
  ·exact .inl h
  ·exact .inr (.inl h)
  ·exact .inr (.inr (.inl h))
  ·exact .inr (.inr (.inr ⟨0,h⟩))
  ·exact .inr (.inr (.inr ⟨1,h⟩))
  ·exact .inr (.inr (.inr ⟨2,h⟩))
  ·exact .inr (.inr (.inr ⟨3,h⟩))
 ·rintro (h|h|h|⟨j,h⟩)
  ·exact .inl h
  ·exact .inr (.inl h)
  ·exact .inr (.inr (.inl h))
  ·match j,h with
   |0,h=>exact .inr (.inr (.inr (.inl h)))
   |1,h=>exact .inr (.inr (.inr (.inr (.inl h))))
   |2,h=>exact .inr (.inr (.inr (.inr (.inr (.inl h)))))
   |3,h=>exact .inr (.inr (.inr (.inr (.inr (.inr h)))))
theorem pX{P:Program}{w:World}{K:W.Frag}{elts:List Expr}{x1}{pos:Pos}(z TI TO:Addr)(i a:Fin 4->Addr)(ap:Ap4 z TI TO i a) :
  Turn P w K (.Tuple elts x1 pos) (It4 K a) [z,TI,TO,i 0,i 1,i 2,i 3] z (St4 z TI TO i a) where
 mem:=by simp
 obj:=fun n h st c hc=>by
  obtain⟨s1,s2,⟨t,s3⟩,s4⟩:=st;rcases Ms.mp hc with rfl|rfl|rfl|⟨j,rfl⟩
  ·exact⟨_,s1,fun v z=>by cases z⟩
  ·exact⟨_,s2,fun v z=>by cases z⟩
  ·exact⟨_,s3,fun v z=>by cases z⟩
  ·obtain⟨o,e,c,d⟩:=s4 j;exact⟨o,e,fun v z=>by rw[d] at z;cases z⟩
 keep:=fun n h h' st k=>by
  obtain⟨s1,s2,⟨t,s3⟩,s4⟩:=st;exact⟨k _ (Ms.mpr (.inl rfl)) _ s1,k _ (Ms.mpr (.inr (.inl rfl))) _ s2,⟨t,k _ (Ms.mpr (.inr (.inr (.inl rfl)))) _ s3⟩,fun j=>(s4 j).at fun o q=>k _ (Ms.mpr (.inr (.inr (.inr ⟨j,rfl⟩)))) o q⟩
 item:=by
  intro X hP hw hK hc n pins s σ H E I hf st hg;subst hP hw hK;obtain⟨s1,s2,⟨t,s3⟩,s4⟩:=st;obtain⟨xs,x,hg⟩:=hg;have ex:∀j,∃(its:List Value)(u:Value),s.heap.IsList (a j) its.toArray/\its.toArray[n]?=some u/\RelV (x j) u:=fun j=>by
   obtain⟨its,rv,pl,_⟩:=I.list (hg j).1;obtain⟨u,hu,ru⟩:=rv.get (hg j).2;exact⟨its,u,pl.isList,by simpa using hu,ru⟩
  obtain⟨its,ex⟩:∃its:Fin 4->List Value,∀j,∃u,s.heap.IsList (a j) (its j).toArray/\(its j).toArray[n]?=some u/\RelV (x j) u:=⟨fun j=>(ex j).choose,fun j=>(ex j).choose_spec⟩
  obtain⟨u,ex⟩:∃u:Fin 4->Value,∀j,s.heap.IsList (a j) (its j).toArray/\(its j).toArray[n]?=some (u j)/\RelV (x j) (u j):=⟨fun j=>(ex j).choose,fun j=>(ex j).choose_spec⟩
  have Z:Z4 s.heap z TI TO i a (fun j=>(its j).toArray) (fun _=>n) .none t:=⟨s1,s2,s3,s4,fun j=>(ex j).1⟩
  refine mQ ap Z (fun j=>(ex j).2.1) fun h1 Y1 gT sz k1=>⟨_,rfl,wpAny_letOwnedTupleGo_zip Y1.z fun h2 z2 b2=>?_⟩
  have Y2:=Y1.fld ap z2 b2;have fr:∀c o,¬(c=z\/c=TO\/∃j,c=i j)->s.heap.get? c=some o->h2.get? c=some o:=fun c o m q=>by
   have m1:c≠z:=fun e=>m (.inl e);exact b2.extBut _ _ m1 (k1 c o m1 (fun e=>m (.inr (.inl e))) (fun j e=>m (.inr (.inr ⟨j,e⟩))) q)
  have wr:∀c,ID X pins H c\/¬(c=z\/c=TO\/∃j,c=i j):=fun c=>by
   by_cases q:c=z\/c=TO\/∃j,c=i j
   ·refine .inl (hf c (Ms.mpr ?_));rcases q with q|q|q
    ·exact .inl q
    ·exact .inr (.inr (.inl q))
    ·exact .inr (.inr (.inr q))
   ·exact .inr q
  have there:∀c o,s.heap.get? c=some o->∃o',h2.get? c=some o':=fun c o q=>by
   by_cases m:c=z\/c=TO\/∃j,c=i j
   ·rcases m with rfl|rfl|⟨j,rfl⟩
    ·exact⟨_,Y2.z⟩
    ·exact⟨_,Y2.TO⟩
    ·obtain⟨o4,g,_⟩:=Y2.it j;exact⟨o4,g⟩
   ·exact⟨o,fr c o m q⟩
  have I1:Inv X pins σ H { s with heap:=h2,toks:=s.toks }:=I.MJ ⟨fun c o q n _=>by
    rcases wr c with f|m
    ·exact absurd f n
    ·exact fr c o m q,fun c o q n=>by
    rcases wr c with f|m
    ·exact absurd f n
    ·exact⟨o.slots,fr c o m q⟩,there⟩
  have hT:s.heap.objs.size<=s.heap.objs.size:=DP _;have hnT:H s.heap.objs.size=none:=I.hok.fresh hT;have zT:s.heap.objs.size≠z:=Fy (Hz s1);have gT2:h2.get? s.heap.objs.size=_:=b2.extBut _ _ zT gT;have I2:Inv X pins σ (upd H s.heap.objs.size (.tup [x 0,x 1,x 2,x 3])) {s with heap:=h2,toks:=s.toks}:=I1.NX (I.Ml _ hT) ⟨by show 4<=sizeLine;decide,[u 0,u 1,u 2,u 3],.cons (ex 0).2.2 (.cons (ex 1).2.2 (.cons (ex 2).2.2 (.cons (ex 3).2.2 .nil))),_,gT2,rfl,_,rfl⟩;refine⟨.ref s.heap.objs.size,_,I2,rfl,⟨s.heap.objs.size,x,hnT,rfl,rfl,fun j xs' h'=>by rw[I.Jq h' (hg j).1];exact(hg j).2⟩,⟨Y2.z,Y2.TI,⟨_,Y2.TO⟩,Y2.it⟩,fun c hcm=>?_⟩;have nc:c≠s.heap.objs.size:=fun q=>by
   subst q;have lt:∀{o:Obj},s.heap.get? s.heap.objs.size=some o->False:=fun g=>absurd (Hz g) (Er _);rcases Ms.mp hcm with e|e|e|⟨j,e⟩
   ·rw[<- e] at s1;exact lt s1
   ·rw[<- e] at s2;exact lt s2
   ·rw[<- e] at s3;exact lt s3
   ·obtain⟨o4,g,_⟩:=s4 j;rw[<- e] at g;exact lt g
  rw[au nc];exact(hf c hcm).1
 done:=by
  intro X hP hw hK hc n pins s σ H E I hf st hg;subst hP hw hK;obtain⟨s1,s2,⟨t,s3⟩,s4⟩:=st;obtain⟨xs,hq,j0,hle⟩:=hg;have ex:∀j,∃its:List Value,s.heap.IsList (a j) its.toArray/\its.length=(xs j).length:=fun j=>by
   obtain⟨its,rv,pl,_⟩:=I.list (hq j);exact⟨its,pl.isList,rv.length.symm⟩
  obtain⟨its,ex⟩:∃its:Fin 4->List Value,∀j,s.heap.IsList (a j) (its j).toArray/\(its j).length=(xs j).length:=⟨fun j=>(ex j).choose,fun j=>(ex j).choose_spec⟩
  have Z:Z4 s.heap z TI TO i a (fun j=>(its j).toArray) (fun _=>n) .none t:=⟨s1,s2,s3,s4,fun j=>(ex j).1⟩
  refine pL (I.ok.hd hc) ap Z ⟨j0,by have:=(ex j0).2;simp;lia⟩ fun h' kp=>?_;have keep:∀c o,c∉([z,TO,i 0,i 1,i 2,i 3]:List Addr)->s.heap.get? c=some o->h'.get? c=some o:=fun c o m q=>by
   simp only[Eb,EI,or_false,not_or] at m;refine kp c o m.1 m.2.1 (fun j=>?_) q
   match j with
   |0=>exact m.2.2.1
   |1=>exact m.2.2.2.1
   |2=>exact m.2.2.2.2.1
   |3=>exact m.2.2.2.2.2
  have hfm:∀c∈([z,TO,i 0,i 1,i 2,i 3]:List Addr),ID X pins H c:=fun c q=>hf c (by
   simp only[Eb,EI,or_false] at q ⊢
   rcases q with q | q | q | q | q | q <;> simp [q])
  have nt:∀c o,H c=some o->c∉([z,TO,i 0,i 1,i 2,i 3]:List Addr):=fun c o e q=>by
   rw[(hfm c q).1] at e;cases e
  refine⟨rfl,I.step (g':=s.gens) (d':=s.drawn) (t':=s.toks) (ch:=[z,TO,i 0,i 1,i 2,i 3]) (fun c hcm=>?_) (fun c o hL hb hc e n=>keep c o hc e) (fun c o hL hb hc e n=>⟨o.slots,keep c o hc e⟩) (fun c o hc e n=>n) (fun c o hc e=>⟨o,keep c o hc e⟩) (fun _ _ e=>e) (fun _ _ _ e=>e) (fun b ps e=>⟨#[],by rw[e];simp⟩) (fun m hm=>?_) (fun c o e=>?_) I.bare⟩
  ·obtain⟨f0,f1,f2,f3,f4,f5⟩:=hfm c hcm;exact⟨f3,f1,f4,f5⟩
  ·obtain⟨o,es,ep,ho,r⟩:=hm;exact⟨o,es,ep,keep _ o (fun q=>(hfm _ q).2.1 rfl) ho,r⟩
  ·refine(I.hok c o e).Lf (fun d u hd q=>?_) (fun _ q=>q) fun _ _ q=>q;rcases hd with r|r
   ·subst r;exact keep _ u (nt _ _ e) q
   ·exact keep d u (nt _ _ r) q
 self:=fun _ _ _ _ _ st h=>wpAny_pyIter_zip st.1 h
section
variable {X:Cx}
def zu (K:W.Frag)(ta:TA):TI:=fun σ H R=>ta σ H fun vs H1=>∃a:Fin 4->Addr,vs=[.ref (a 0),.ref (a 1),.ref (a 2),.ref (a 3)]/\(∀j,∃xs,SqL K H1 (a j) xs)/\R (It4 K a) H1
theorem xG{m z TI TO:Nat}{i l:Fin 4->Addr}(h1:z=m+6)(h2:TI=m+4)(h3:TO=m+5)(h4:∀j,i j=m+j.val)(h5:∀j,l j<m):Ap4 z TI TO i l:=by
 subst h1 h2 h3;have bb:∀j k:Nat,j≠k->m+j≠m+k:=fun j k h e=>h (Nat.add_left_cancel e);have lb:∀(j:Fin 4)(k:Nat),l j≠m+k:=fun j k=>DZ (DT (h5 j) (Fw _ _));have v4:∀(j:Fin 4)(k:Nat),4<=k->j.val≠k:=fun j k h e=>absurd j.isLt (by lia);refine⟨bb 4 6 (by decide),bb 5 6 (by decide),bb 4 5 (by decide),fun j=>?_,fun j=>?_,fun j=>?_,fun j k n=>?_,fun j=>lb j 6,fun j=>lb j 5,fun j k=>?_⟩
 ·rw[h4];exact bb _ _ (v4 j 6 (by decide))
 ·rw[h4];exact bb _ _ (HI (v4 j 4 (by decide)))
 ·rw[h4];exact bb _ _ (HI (v4 j 5 (by decide)))
 ·rw[h4,h4];exact bb _ _ fun e=>n (Fin.ext e)
 ·rw[h4];exact lb j _
theorem us4{a:Fin 4->Addr}:∀{us:List Value},Vals [V.ref (a 0),.ref (a 1),.ref (a 2),.ref (a 3)] us->us=[.ref (a 0),.ref (a 1),.ref (a 2),.ref (a 3)]:=fun h=>by
 cases h with|cons r0 h=>cases h with|cons r1 h=>cases h with|cons r2 h=>cases h with|cons r3 h=>cases h;cases r0;cases r1;cases r2;cases r3;rfl
theorem uL{elts:List Expr}{x1}{tpos:Pos}{a b c d:Expr}{ta:TA}{p pos:Pos}(hg:Gl X "zip")(hm:X.mg "zip"=none)(ha:PA X [a,b,c,d] ta)(hs:starEach [a,b,c,d] X.env=(false,eval a X.env)::starEach [b,c,d] X.env:=by rfl)(hpl:(backTo pos (starEach [b,c,d] X.env)).any (·.1)=false:=by rfl) :
  PI X (.Tuple elts x1 tpos) (.Call (.Name "zip" p) [a,b,c,d] [] pos) (zu X.K ta):=by
 intro pins s σ H R I h;refine Call_ (cX I hg hm MP (PyProof.Rows.callWith_type1 (thn (ha pos pins s σ H _ I h) fun us s1 hq101=>?_) hs hpl));obtain⟨vs,H1,I1,r1,q1⟩:=hq101;obtain⟨l,e,hl,q⟩:=q1;subst e;obtain rfl:=us4 r1;have ex:∀j,∃its:Array Value,s1.heap.IsList (l j) its:=fun j=>by
  obtain⟨xs,hq⟩:=hl j;obtain⟨its,rv,pl,_⟩:=I1.list hq;exact⟨_,pl.isList⟩
 obtain⟨its,ex⟩:∃its:Fin 4->Array Value,∀j,s1.heap.IsList (l j) (its j):=⟨fun j=>(ex j).choose,fun j=>(ex j).choose_spec⟩
 have lt:∀j,l j<s1.heap.objs.size:=fun j=>by obtain⟨o,e,_⟩:=ex j;exact Hz e
 refine ot ex fun h' Z hsz hk=>wpAny_pyIter_zip Z.z ?_;have I2:Inv X pins σ H1 {s1 with heap:=h',toks:=s1.toks}:=I1.kept hk;have fr:∀b,s1.heap.objs.size<=b->ID X pins H1 b:=fun b hb=>I1.Ma hb (I1.hok.fresh hb);obtain⟨m,em⟩:∃m,m=s1.heap.objs.size:=⟨_,rfl⟩
 rw[<- em] at Z lt fr ⊢;obtain⟨z,ez⟩:∃z,z=m+6:=⟨_,rfl⟩
 obtain⟨TI,eI⟩:∃z,z=m+4:=⟨_,rfl⟩
 obtain⟨TO,eO⟩:∃z,z=m+5:=⟨_,rfl⟩
 obtain⟨i,ei⟩:∃i:Fin 4->Addr,i=fun j=>m+j.val:=⟨_,rfl⟩
 have ap:Ap4 z TI TO i l:=xG ez eI eO (fun j=>by rw[ei]) lt;rw[<- ez,<- eI,<- eO,<- ei] at Z;rw[<- ez];have st:St4 z TI TO i l 0 h':=⟨Z.z,Z.TI,⟨_,Z.TO⟩,Z.it⟩
 have tn:=pX (P:=X.prog) (w:=X.w) (K:=X.K) (elts:=elts) (x1:=x1) (pos:=tpos) z TI TO i l ap;have fp:∀b∈[z,TI,TO,i 0,i 1,i 2,i 3],ID X pins H1 b:=fun b hb=>by
  rcases Ms.mp hb with rfl|rfl|rfl|⟨j,rfl⟩
  ·exact fr _ (by rw[ez];exact Fw _ _)
  ·exact fr _ (by rw[eI];exact Fw _ _)
  ·exact fr _ (by rw[eO];exact Fw _ _)
  ·exact fr _ (by rw[ei];exact Fw _ _)
 clear ez eI eO ei Z ap lt hsz hk;exact⟨z,[z,TI,TO,i 0,i 1,i 2,i 3],St4 z TI TO i l,It4 X.K l,H1,rfl,I2,tn,st,fp,q⟩
theorem zD{K:W.Frag}{a:Fin 4->Addr}{xs:Fin 4->List V}{n k:Nat}{js:List Nat}{g:TG}{tc:TT}{te:TE}{σ:St}{H:Hp}{Q:VK}(P:Nat->List V->Hp->Prop)(hlen:∀j,n<=(xs j).length)(hmin:∃j,(xs j).length=n)(h0:P 0 [] H)(hz:∀i zs H,i<=n->P i zs H->zs.length<=i)(hn:n<=sizeLine)
  (hl:∀i zs H,i<=n->P i zs H->∀j,SqL K H (a j) (xs j))
  (hs:∀i (x:Fin 4->V) zs H p,i<n->(∀j,(xs j)[i]?=some (x j))->P i zs H->H p=none->g (.ref p) (List.replicate k none++cS js σ) (upd H p (.tup [x 0,x 1,x 2,x 3])) fun σ2 H2=>tc σ2 H2 fun b H3=>if b=true then te σ2 H3 fun z H4=>Nx n i P (zs++[z]) H4 else Nx n i P zs H3)
  (hd:∀zs H,P n zs H->∀p,H p=none->Q (.ref p) (upd H p (.lst zs))) :
  ib (It4 K a) k js g tc te σ H Q:=
 eo P h0 hz hn (fun i zs H hi p=>⟨xs,fun j=>(xs j)[i]'(DT hi (hlen j)),fun j=>⟨hl i zs H (EH hi) p j,DW _⟩⟩)
  (fun zs H p=>by
   obtain⟨j,e⟩:=hmin
   exact⟨xs,hl _ zs H (DP _) p,j,FN e⟩)
  (fun i zs H v H' hi p y=>by
   obtain⟨q,x,hq,rfl,rfl,hx⟩:=y
   exact hs i x zs H q hi (fun j=>hx j _ (hl i zs _ (EH hi) p j)) p hq) hd
theorem kG(b:Int)(acc:Array Value)(n:Nat)(h:ItemsOf (fun i v=>∃t,v=.int (b+i*1) t) acc n):Vals ((List.range n).map fun i=>V.int (b+(i:Nat))) acc.toList:=by
 refine JM _ _ (by rw[DQ,EG,EY,h.1]) fun j x u h1 h2=>?_;rw[DY] at h1;obtain⟨i,hi,rfl⟩:=EB.mp h1;have hj:j<n:=by have:=(DU.mp hi).1;rwa [EG] at this
 rw[GF hj] at hi;cases hi;obtain⟨t,rfl⟩:=h.2 j u (by rw[<- Fk];exact h2);exact⟨t,by congr 1;lia⟩
def qS (ta:TA):TE:=fun σ H Q=>ta σ H fun vs H1=>∃(i j:Int)(n:Nat),vs=[.int i,.int j]/\0<=i/\i<=1000000/\-1000000<=j/\j<=1000000/\n=(j-i).toNat/\∀l,H1 l=none->Q (.ref l) (upd H1 l (.lst ((List.range n).map fun k=>V.int (i+(k:Nat)))))
theorem iV{a b:Expr}{ta:TA}{p p2 pos pos2:Pos}(hc:X.calm=true)(hg:Gl X "list")(hm:X.mg "list"=none)(hg2:Gl X "range")(hm2:X.mg "range"=none)(ha:PA X [a,b] ta)
  (hs:starEach [a,b] X.env=[(false,eval a X.env),(false,eval b X.env)]:=by rfl)(hs3:starEach [b] X.env=[(false,eval b X.env)]:=by rfl)(hs2:starEach [.Call (.Name "range" p2) [a,b] [] pos2] X.env=[(false,eval (.Call (.Name "range" p2) [a,b] [] pos2) X.env)]:=by rfl) :
  PE X (.Call (.Name "list" p) [.Call (.Name "range" p2) [a,b] [] pos2] [] pos) (qS ta):=by
 intro pins s σ H Q I h;refine wpAny_Call_Name_kw (cX I hg hm KU ?_ (by decide) (by decide));refine PyProof.Rows.callWith_type1 ?_ hs2 rfl;rw[hs2];refine Calls.spliced_cons (Call_ (cX I hg2 hm2 boot_range (PyProof.Rows.callWith_type1 (thn (ha pos2 pins s σ H _ I h) fun us s1 hq102=>?_) (by rw[hs,hs3]) (by rw[hs3];rfl))));obtain⟨vs,H1,I1,r1,q1⟩:=hq102;obtain⟨i,j,n,e,i0,i1,j0,j1,en,q⟩:=q1;subst e;cases r1 with
 |cons r rr=>
  cases rr with
  |cons r' rr=>
   cases rr;obtain⟨t,rfl⟩:=r;obtain⟨t',rfl⟩:=r';refine call_range_2 (Calls.spliced_nil ?_);refine call_list_range (n:=n) (I1.ok.hd hc) (IsRange.new ..) (small_one (by lia) (by lia) (by lia) (by lia)) ?_ (by lia) fun h' tk acc' c' hk hS' hacc=>?_
   ·rw[rangeSize_one];split<;>lia
   ·have vv:Vals ((List.range n).map fun k=>V.int (i+(k:Nat))) acc'.toList:=kG i acc' n hacc;exact⟨.ref _,_,I1.laid (t':=tk) (o:=.lst ((List.range n).map fun k=>V.int (i+(k:Nat)))) (fun b o e=>hk b o (HJ _ e)) (by rw[HR];exact EO _) ⟨by rw[DQ,EG,sizeLine_eq];lia,acc'.toList,c',vv,hS'⟩,rfl,q _ (I1.hok.fresh (by rw[HR];exact EO _))⟩
end
theorem zM{a:Addr}{o:Obj}{kvs:List (Key×V)}{k:Nat}{js:List Nat}{g:TG}{tc:TT}{te:TE}{σ:St}{H:Hp}{Q:VK}(P:Nat->List V->Hp->Prop)(h0:P 0 [] H)(hz:∀i ys H,i<=kvs.length->P i ys H->ys.length<=i)(hn:kvs.length<=sizeLine)
  (hl:∀i ys H,i<=kvs.length->P i ys H->H a=some (.frz o (.dK kvs)))
  (hs:∀i p ys H,kvs[i]?=some p->P i ys H->g (kV p.1) (List.replicate k none++cS js σ) H fun σ2 H2=>tc σ2 H2 fun b H3=>if b=true then te σ2 H3 fun y H4=>Nx kvs.length i P (ys++[y]) H4 else Nx kvs.length i P ys H3)
  (hd:∀ys H,P kvs.length ys H->∀p,H p=none->Q (.ref p) (upd H p (.lst ys))):ib (ItM a o kvs) k js g tc te σ H Q:=
 eo P h0 hz hn (fun i ys H hi p=>⟨hl i ys H (EH hi) p,hi⟩) (fun ys H p=>⟨hl _ ys H (DP _) p,DP _⟩)
  (fun i ys H x H' hi p y=>by
   obtain⟨e,q,h1,h2⟩:=y;subst e h2
   exact hs i q ys _ h1 p) hd
theorem sV{a:Addr}{o:Obj}{kvs:List (Key×V)}{k:Nat}{js:List Nat}{g:TG}{tc:TT}{tk tv:TE}{σ:St}{H:Hp}{Q:List (Key×V)->Hp->Prop}(P:Nat->List (Key×V)->Hp->Prop)(h0:P 0 [] H)(hz:∀i ys H,i<=kvs.length->P i ys H->ys.length<=i)(hn:kvs.length<=4000000)
  (hl:∀i ys H,i<=kvs.length->P i ys H->H a=some (.frz o (.dK kvs)))
  (hs:∀i p ys H,kvs[i]?=some p->P i ys H->g (kV p.1) (List.replicate k none++cS js σ) H fun σ2 H2=>tc σ2 H2 fun b H3=>if b=true then tk σ2 H3 fun y H4=>∃z,y=kV z/\tv σ2 H4 fun v H5=>NxD kvs.length i P (cB ys z v) H5 else NxD kvs.length i P ys H3)
  (hd:∀ys H,P kvs.length ys H->Q ys H):tf (ItM a o kvs) k js g tc tk tv σ H Q:=by
 refine⟨fun i m ys H=>m=kvs.length-i/\i<=kvs.length/\P i ys H,⟨_,rfl,Ec _,h0⟩,?_⟩;rintro i m ys H ⟨rfl,hi,p⟩;have q:=hl i ys H hi p;have ly:=hz i ys H hi p;by_cases hlt:i<kvs.length
 ·refine .inr ⟨⟨q,hlt⟩,by lia,fun x H' y=>?_⟩;obtain⟨e,pp,h1,h2⟩:=y;subst e h2;exact hs i pp ys _ h1 p
 ·have e:i=kvs.length:=by lia
  subst e;exact .inl ⟨⟨q,DP _⟩,by lia,hd ys H p⟩
variable {X:Cx}{pos:Pos}
end L2
namespace K3
open PySem PySem.Spec PyProof.Rows L2
section
variable {P:Program}{w:World}{K:PySem.W.Frag}{mg:Str->Option Value}{base:Heap}
def Rw (H:Hp)(v:V):Prop:=∃r,v=.ref r/\H r=some (.lst [])
theorem Rw.mono{H H':Hp}{v:V}(S:Ia H H'):Rw H v->Rw H' v:=fun hq103=>by obtain⟨r,e,h⟩:=hq103;exact⟨r,e,S _ _ h⟩
def LN:Sp:=fun vs H Q _=>∃v,vs=[v]/\Rw H v/\∀y H',Ia H H'->Rw H' y->Q y H'
theorem yC{d:DD}(D:Def K mg "turned" (top 6) ["row"] d):(fk 1 d ["row"] LN):=by
 exists["row"]
 obtain⟨v,rfl,⟨r,rfl,hr0⟩,q⟩:=h;refine⟨_,(aq (aH (bB (aA (ts:=["number"]) (cap:=[]) (js:=[]) rfl rfl rfl rfl rfl rfl (by decide +kernel)) (bp (sY Np (0) (hZ IZ (ah _)))) (am 0 (nd ["number"])) (@aX _) (hZ IZ (0))))),?_⟩
 walk_at "d"
 refine⟨_,rfl,1,rfl,rfl,r,[],rfl,SqL.of hr0,fun p hp=>?_⟩;refine⟨p,rfl,⟨_,SqL.of af⟩,?_⟩;have S0:=ao hp (.lst ([]:List V).reverse);refine fH (K:=K) (a:=p) (xs:=[]) (fun i ys H'=>H'=upd H p (.lst ([]:List V).reverse)/\ys=[]) ⟨rfl,rfl⟩ (fun i ys H' hi z=>by rw[z.2];exact Ec _) (aJ (by decide)) (fun i ys H' hi z=>by rw[z.1];exact SqL.of af) (fun i x ys H' hx z=>by cases hx) (fun ys H' z l hl=>?_);obtain⟨rfl,rfl⟩:=z;exact q _ _ (S0.trans (ao hl _)) ⟨l,rfl,af⟩
def Ot:Sp:=fun vs H Q _=>∃v u,vs=[v,u]/\Rw H v/\Rw H u/\∀H',Ia H H'->Q .non H'
theorem yj{d:DD}(D:Def K mg "put_behind" (top 7) ["row","other"] d)(Az:mg "min"=none)(Aj:mg "len"=none):(fk 1 d ["row","other"] Ot):=by
 exists["row","other","cut"]
 obtain⟨v,u,rfl,⟨r,rfl,hr0⟩,⟨o,rfl,ho0⟩,q⟩:=h;refine⟨_,(ae (aw 2 (ah _)) (ae (dM (@PW.pt _ _ _ (fF (aB Lh (2) (aS (gi hc) Az Lb (ag (aP HW Aj (0) aC) (aL (aP HW Aj (1) aC) dv) dv)) (aD _)) (cZ (aB IX (aN HY (0) (ay IC (ay IC (aP HW Aj (0) aC) (ah _)) (2))) (hZ IZ (aN HY (1) (2))) (aD _))))) (aq (nB 2 (ah _) LU))) (ae (@qe _ _ _ _ _ _ _ _ (0) (ay IC (aP HW Aj (0) aC) (2))) (aq (aV (fG HD PySem.F.slot_list_extend PySem.F.type_list_extend Jw (0) (aL (dG Nv (1) (eA (2)) (@Jh _)) (by rfl)))))))),?_⟩
 walk_at "d"
 refine⟨fun _ σ' H'=>σ'=[some (.ref r),some (.ref o),some (.int 0)]/\H'=H,⟨0,rfl,rfl⟩,?_⟩;rintro m σ' H' ⟨rfl,rfl⟩;refine⟨_,rfl,_,rfl,r,[],rfl,.inl (SqL.of hr0),_,rfl,o,[],rfl,.inl (SqL.of ho0),_,_,rfl,_,_,rfl,rfl,false,rfl,?_⟩;refine⟨_,rfl,_,rfl,r,[],rfl,.inl (SqL.of hr0),_,rfl,_,_,rfl,rfl,_,rfl,r,rfl,hr0,?_⟩;have e0:upd H' r (.lst [])=H':=by
  funext b
  by_cases hb:b=r
  ·subst hb;rw[af,hr0]
  ·exact au hb
 rw[e0];refine⟨_,rfl,.inl ⟨rfl,_,SqL.of hr0⟩,_,rfl,_,rfl,_,rfl,o,[],rfl,SqL.of ho0,fun p hp=>?_⟩;have np:r≠p:=fun e=>by rw[e,hp] at hr0;cases hr0
 refine⟨r,p,[],_,rfl,rfl,by rw[au np];exact hr0,af,by rw[show qB [] (some 0) none=([]:List V) from rfl];decide,?_⟩;rw[show qB [] (some 0) none=([]:List V) from rfl];refine q _ fun b u hb=>?_;by_cases e:b=r
 ·subst e;rw[hr0] at hb;rw[af,<- hb];rfl
 ·rw[au e];exact ao hp _ _ _ hb
def NJ:Sp:=fun vs H Q _=>∃v u,vs=[v,u]/\Rw H v/\Rw H u/\∀y H',Ia H H'->Rw H' y->Q y H'
theorem xg{db d:DD}(Bw:(dg "put_behind" 7 ["row","other"] db 1 Ot))(D:Def K mg "joined" (top 8) ["one","other"] d)(Ao:mg "list"=none):(fk 2 d ["one","other"] NJ):=by
 exists["one","other","row"]
 obtain⟨v,u,rfl,⟨r,rfl,hr0⟩,h2,q⟩:=h;refine⟨_,(ae (aw 2 (bS IM Ao Jk (aL (0) aC))) (ae (aV (bz Bw.1 Bw.2 (ag (2) (aL (1) aC) aC))) (aq (aH (2))))),?_⟩
 walk_at "d"
 refine⟨_,rfl,r,[],rfl,.inl (SqL.of hr0),fun p hp=>?_⟩;have S:=ao hp (.lst []);refine⟨_,rfl,_,rfl,.ref p,u,rfl,⟨p,rfl,af⟩,h2.mono S,fun H2 S2=>⟨_,rfl,?_⟩⟩;exact q _ _ (S.trans S2) ⟨p,rfl,S2 _ _ af⟩
def Wy (H:Hp)(v:V)(x:Nat×Nat×Nat):Prop:=∃a r,v=.ref a/\H a=some (.tup [.int (x.1:Nat),.int (x.2.1:Nat),.int (x.2.2:Nat),r])/\Rw H r
theorem Wy.mono{H H':Hp}{v:V}{x:Nat×Nat×Nat}(S:Ia H H'):Wy H v x->Wy H' v x:=fun hq104=>by obtain⟨a,r,e,h,h2⟩:=hq104;exact⟨a,r,e,S _ _ h,h2.mono S⟩
def NA:Sp:=fun vs H Q _=>∃v,∃s p e:Nat,vs=[v]/\Wy H v (s,p,e)/\p<4/\∀y H',Ia H H'->Wy H' y (e,(p+2) % 4,s)->Q y H'
theorem wG{db dt d:DD}(AM:(dg "back_place" 5 ["place"] db 1 NL))(Av:(dg "turned" 6 ["row"] dt 1 LN))(D:Def K mg "turned_way" (top 11) ["way"] d):(fk 2 d ["way"] NA):=by
 exists["way","start","place","end","row"]
 obtain⟨v,s,p,e,rfl,⟨a,r,rfl,ha,h2⟩,hp,q⟩:=h;refine⟨_,(ae (cx (0) (cj (ax (ar 1) (ax (ar 2) (ax (ar 3) (ax (ar 4) (Ip _))))))) (aq (aH (bh (ag (3) (ag (bu AM.1 AM.2 (2) aC) (ag (1) (aL (bu Av.1 Av.2 (4) aC) dv) aC) dv) aC))))),?_⟩
 walk_at "d"
 refine⟨_,rfl,a,_,rfl,SqT.of ha,rfl,_,_,rfl,_,_,rfl,_,_,rfl,_,_,rfl,rfl,?_⟩;refine⟨_,rfl,_,rfl,p,rfl,hp,_,rfl,_,rfl,r,rfl,h2,fun y H1 S1 hy=>⟨(by show 4<=sizeLine;decide),fun b hb=>?_⟩⟩;have S2:=ao hb (.tup [.int (e:Nat),.int (((p+2) % 4:Nat):Int),.int (s:Nat),y]);exact q _ _ (S1.trans S2) ⟨b,y,rfl,af,hy.mono S2⟩
def Oy:Sp:=fun vs H Q _=>∃v x,vs=[v]/\Wy H v x/\Q (.int 0) H
theorem wD{d:DD}(D:Def K mg "row_length" (top 17) ["way"] d)(Aj:mg "len"=none):(fk 1 d ["way"] Oy):=by
 exists["way"]
 obtain⟨v,x,rfl,⟨a,r,rfl,ha,⟨b,rfl,hb⟩⟩,q⟩:=h;refine⟨_,(aq (aH (aP HW Aj (aN Il (0) (ah _)) (by rfl)))),?_⟩
 walk_at "d"
 exact⟨_,rfl,a,_,3,_,rfl,rfl,SqT.of ha,rfl,b,[],rfl,.inl (SqL.of hb),q⟩
def sb (l k x:Nat):Nat:=if x=l then k else x
def NV:Sp:=fun vs H Q _=>∃v u,∃k l s p e:Nat,vs=[v,.int (k:Nat),.int (l:Nat),u]/\Wy H v (s,p,e)/\Rw H u/\∀y H',Ia H H'->Wy H' y (sb l k s,p,sb l k e)->Q y H'
theorem yf{dj dt d:DD}(AL:(dg "joined" 8 ["one","other"] dj 2 NJ))(Av:(dg "turned" 6 ["row"] dt 1 LN))(D:Def K mg "moved" (top 14) ["way","kept","lost","row"] d):(fk 3 d ["way","kept","lost","row"] NV):=by
 exists["way","kept","lost","row","start","place","end","step"]
 obtain⟨v,u,k,l,s,p,e,rfl,⟨a,r,rfl,ha,h2⟩,hu,q⟩:=h;refine⟨_,(ae (cx (0) (cj (ax (ar 4) (ax (ar 5) (ax (ar 6) (ax (ar 7) (Ip _))))))) (ae (fZ (br (aB IX (4) (2) (aD _)) (aq (gR 4 7 (ag (1) (aL (bz AL.1 AL.2 (ag (3) (aL (7) aC) aC)) dv) aC))) (HZ _))) (ae (fZ (br (aB IX (6) (2) (aD _)) (aq (gR 6 7 (ag (1) (aL (bz AL.1 AL.2 (ag (7) (aL (bu Av.1 Av.2 (3) aC) dv) aC)) dv) aC))) (HZ _))) (aq (aH (bh (ag (4) (ag (5) (ag (6) (aL (7) aC) aC) aC) aC))))))),?_⟩
 walk_at "d"
 refine⟨_,rfl,a,_,rfl,SqT.of ha,rfl,_,_,rfl,_,_,rfl,_,_,rfl,_,_,rfl,rfl,?_⟩;refine⟨fun σ' H'=>∃t,σ'=[some (.ref a),some (.int (k:Nat)),some (.int (l:Nat)),some u,some (.int (sb l k s:Nat)),some (.int (p:Nat)),some (.int (e:Nat)),some t]/\Ia H H'/\Rw H' t,?_,?_⟩
 ·refine⟨_,rfl,_,rfl,rfl,_,rfl,?_⟩;by_cases hs:s=l
  ·subst hs;rw[Ht rfl];refine⟨_,rfl,_,rfl,_,rfl,u,r,rfl,hu,h2,fun y H1 S1 hy=>⟨_,_,rfl,y,?_,S1,hy⟩⟩;simp[sb];rfl
  ·rw[Hu (by intro e;injection e with e;exact hs (Int.ofNat.inj e))];refine⟨r,?_,Ia.refl _,h2⟩;simp[sb,hs];rfl
 rintro _ H1 ⟨t,rfl,S1,ht⟩;refine⟨fun σ' H'=>∃t,σ'=[some (.ref a),some (.int (k:Nat)),some (.int (l:Nat)),some u,some (.int (sb l k s:Nat)),some (.int (p:Nat)),some (.int (sb l k e:Nat)),some t]/\Ia H H'/\Rw H' t,?_,?_⟩
 ·refine⟨_,rfl,_,rfl,rfl,_,rfl,?_⟩;by_cases hs:e=l
  ·subst hs;rw[Ht rfl];refine⟨_,rfl,_,rfl,_,rfl,u,rfl,hu.mono S1,fun z H2 S2 hz=>⟨t,z,rfl,ht.mono S2,hz,fun y H3 S3 hy=>⟨_,_,rfl,y,?_,S1.trans (S2.trans S3),hy⟩⟩⟩;simp[sb]
  ·rw[Hu (by intro e;injection e with e;exact hs (Int.ofNat.inj e))];refine⟨t,?_,S1,ht⟩;simp[sb,hs]
 rintro _ H2 ⟨t2,rfl,S2,ht2⟩;refine⟨_,rfl,_,rfl,_,rfl,_,rfl,(by show 4<=sizeLine;decide),fun b hb=>?_⟩;have S3:=ao hb (.tup [.int (sb l k s:Nat),.int (p:Nat),.int (sb l k e:Nat),t2]);exact q _ _ (S2.trans S3) ⟨b,t2,rfl,af,ht2.mono S3⟩
theorem cn{κ:Type} [DecidableEq κ](k j:κ):∀kvs:List (κ×V),bg (bY kvs k) j=if j=k then none else bg kvs j
 |[]=>by simp[bY,bg]
 |p::r=>by
  by_cases e:p.1=k
  ·rw[pY e,cn k j r];by_cases e2:j=k
   ·rw[Hq e2,Hq e2]
   ·rw[Ho e2,Ho e2,aK (by rw[e];exact fun h=>e2 h.symm)]
  ·rw[oA e];by_cases e2:p.1=j
   ·rw[aO e2,Ho (by rw[<- e2];exact e),aO e2]
   ·rw[aK e2,aK e2,cn k j r]
theorem lT{κ:Type} [DecidableEq κ]{kvs:List (κ×V)}{k:κ}{v:V}(nd:(kvs.map (·.1)).Nodup):((cB kvs k v).map (·.1)).Nodup/\∀x∈(cB kvs k v).map (·.1),x=k\/x∈kvs.map (·.1):=by
 cases hv:bg kvs k with
 |none=>
  rw[fL v hv,Ef];refine⟨Fp.mpr ⟨nd,by simp,fun a ha b hb e=>?_⟩,fun x hx=>?_⟩
  ·simp at hb;subst hb;subst e;exact sf hv ha
  ·rcases DX.mp hx with h|h
   ·exact .inr h
   ·simp at h;exact .inl h
 |some y=>
  have e:(cB kvs k v).map (·.1)=kvs.map (·.1):=by
   unfold cB;rw[Hq (by rw[cm,hv];rfl),EL];refine FQ fun kv _=>?_;show(if kv.1=k then (kv.1,v) else kv).1=kv.1;by_cases h:kv.1=k
   ·rw[Hq h]
   ·rw[Ho h]
  rw[e];exact⟨nd,fun x hx=>.inr hx⟩
theorem jK{κ:Type} [DecidableEq κ]{kvs:List (κ×V)}{k:κ}(nd:(kvs.map (·.1)).Nodup):((bY kvs k).map (·.1)).Nodup/\∀x∈(bY kvs k).map (·.1),x∈kvs.map (·.1):=
 ⟨nd.sublist (List.filter_sublist.map _),fun x hx=>(List.filter_sublist.map _).subset hx⟩
def Kp (H H':Hp):Prop:=∀a o,H a=some o->(∀kvs,o≠.dK kvs)->H' a=some o
theorem Kp.refl(H:Hp):Kp H H:=fun _ _ h _=>h
theorem Kp.of{H H':Hp}(S:Ia H H'):Kp H H':=fun _ _ h _=>S _ _ h
theorem Kp.trans{H H' H2:Hp}(S:Kp H H')(T:Kp H' H2):Kp H H2:=fun a o h n=>T a o (S a o h n) n
theorem jA{H:Hp}{d:Addr}{pvs qvs:List (Key×V)}(h:H d=some (.dK pvs)):Kp H (upd H d (.dK qvs)):=by
 intro a o ha n;by_cases e:a=d
 ·subst e;rw[h] at ha;injection ha with ha;exact absurd ha.symm (n pvs)
 ·rw[au e];exact ha
theorem Rw.kp{H H':Hp}{v:V}(S:Kp H H'):Rw H v->Rw H' v:=fun hq105=>by obtain⟨r,e,h⟩:=hq105;exact⟨r,e,S _ _ h fun _ e=>by cases e⟩
theorem Wy.kp{H H':Hp}{v:V}{x:Nat×Nat×Nat}(S:Kp H H'):Wy H v x->Wy H' v x:=fun hq106=>by obtain⟨a,r,e,h,h2⟩:=hq106;exact⟨a,r,e,S _ _ h (fun _ e=>by cases e),h2.kp S⟩
def En (H:Hp)(v:V)(e:Nat):Prop:=∃t r,v=.ref t/\H t=some (.tup [.int (e:Nat),r])/\Rw H r
theorem En.kp{H H':Hp}{v:V}{e:Nat}(S:Kp H H'):En H v e->En H' v e:=fun hq107=>by obtain⟨a,r,e,h,h2⟩:=hq107;exact⟨a,r,e,S _ _ h (fun _ e=>by cases e),h2.kp S⟩
def Pl (H:Hp)(d:Addr)(g:Nat->Option Nat):Prop:=∃pvs,H d=some (.dK pvs)/\(pvs.map (·.1)).Nodup/\(∀x∈pvs.map (·.1),∃p:Nat,p<4/\x=.inl (p:Int)) /\
 (∀p:Nat,g p=none->bg pvs (.inl (p:Int))=none)/\∀p e:Nat,g p=some e->∃v,bg pvs (.inl (p:Int))=some v/\En H v e
theorem Pl.mv{H H':Hp}{d:Addr}{g:Nat->Option Nat}(S:Kp H H')(e:H' d=H d):Pl H d g->Pl H' d g
 | ⟨pvs,h1,h2,h3,h4,h5⟩=>⟨pvs,by rw[e,h1],h2,h3,h4,fun p e hg=>by
  obtain⟨v,a,b⟩:=h5 p e hg
  exact⟨v,a,b.kp S⟩⟩
abbrev Lm:=Nat->Option (Nat->Option Nat)
def Laid (H:Hp)(L:Addr)(f:Lm):Prop:=∃kvs,H L=some (.dK kvs)/\(kvs.map (·.1)).Nodup/\(∀x∈kvs.map (·.1),∃s:Nat,x=.inl (s:Int))/\(∀s:Nat,f s=none->bg kvs (.inl (s:Int))=none) /\
 ∃D:Nat->Addr,(∀s g,f s=some g->bg kvs (.inl (s:Int))=some (.ref (D s))/\Pl H (D s) g/\D s≠L)/\∀s t,f s≠none->f t≠none->D s=D t->s=t
theorem Laid.mono{H H':Hp}{L:Addr}{f:Lm}(S:Ia H H'):Laid H L f->Laid H' L f
 | ⟨kvs,h1,h2,h3,h4,D,h5,h6⟩=>⟨kvs,S _ _ h1,h2,h3,h4,D,fun s g e=>by
  obtain⟨a,b,c⟩:=h5 s g e;refine⟨a,b.mv (Kp.of S) ?_,c⟩;obtain⟨pvs,h,_⟩:=b
  rw[h,S _ _ h],h6⟩
def ia (f:Lm)(s p:Nat)(o:Option Nat):Lm:=fun x=>if x=s then (f x).map fun g q=>if q=p then o else g q else f x
theorem Ie{f:Lm}{s p x:Nat}{o:Option Nat}:ia f s p o x=none↔f x=none:=by
 unfold ia;by_cases h:x=s
 ·rw[Hq h];cases f x<;>simp
 ·rw[Ho h]
theorem Laid.at{H:Hp}{L:Addr}{f:Lm}{s:Nat}{g:Nat->Option Nat}(h:Laid H L f)(e:f s=some g):∃d,IE H L (.int (s:Nat)) (some (.ref d))/\IsD H d/\(∃pvs,H d=some (.dK pvs)/\∀x∈pvs.map (·.1),∃p:Nat,p<4/\x=.inl (p:Int)) /\
  ∀p:Nat,∃o,IE H d (.int (p:Nat)) o/\(g p=none->o=none)/\∀e,g p=some e->∃v,o=some v/\En H v e:=by
 obtain⟨kvs,h1,h2,h3,h4,D,h5,h6⟩:=h;obtain⟨a,⟨pvs,b1,b2,b3,b4,b5⟩,c⟩:=h5 s g e;refine⟨D s,?_,.inl ⟨pvs,.inl b1⟩,⟨pvs,b1,b3⟩,fun p=>⟨bg pvs (.inl (p:Int)),IE.k (k:=.inl (p:Int)) b1,b4 p,fun e hg=>?_⟩⟩
 ·rw[<- a];exact IE.k (k:=.inl (s:Int)) h1
 ·obtain⟨v,e1,e2⟩:=b5 p e hg;exact⟨v,e1,e2⟩
theorem Laid.chg{H:Hp}{L:Addr}{f:Lm}{s p:Nat}{g:Nat->Option Nat}{o:Option Nat}(h:Laid H L f)(e:f s=some g):∃d pvs,IE H L (.int (s:Nat)) (some (.ref d))/\H d=some (.dK pvs)/\pvs.length<=4/\(pvs.map (·.1)).Nodup/\(∀x∈pvs.map (·.1),∃p:Nat,p<4/\x=.inl (p:Int))/\(∀e,g p=some e->∃v,bg pvs (.inl (p:Int))=some v/\En H v e) /\
  ∀qvs:List (Key×V),(qvs.map (·.1)).Nodup->(∀x∈qvs.map (·.1),∃p:Nat,p<4/\x=.inl (p:Int))->(∀q:Nat,q≠p->bg qvs (.inl (q:Int))=bg pvs (.inl (q:Int))) ->
   (o=none->bg qvs (.inl (p:Int))=none)->(∀e,o=some e->∃v,bg qvs (.inl (p:Int))=some v/\En H v e)->Laid (upd H d (.dK qvs)) L (ia f s p o):=by
 obtain⟨kvs,h1,h2,h3,h4,D,h5,h6⟩:=h;obtain⟨a,⟨pvs,b1,b2,b3,b4,b5⟩,c⟩:=h5 s g e;refine⟨D s,pvs,?_,b1,?_,b2,b3,b5 p,fun qvs n1 n2 n3 n4 n5=>?_⟩
 ·rw[<- a];exact IE.k (k:=.inl (s:Int)) h1
 ·have:=List.Nodup.length_le_of_subset b2 (l₂:=[.inl 0,.inl 1,.inl 2,.inl 3]) (fun x hx=>by
   obtain⟨p,hp,rfl⟩:=b3 x hx;have:p=0\/p=1\/p=2\/p=3:=by lia
   rcases this with rfl | rfl | rfl | rfl <;> simp)
  rw[DQ] at this;exact this
 have kp:Kp H (upd H (D s) (.dK qvs)):=jA b1;refine⟨kvs,by rw[au (HI c)];exact h1,h2,h3,fun t ht=>h4 t (Ie.mp ht),D,fun t g' ht=>?_,fun t u ht hu=>h6 t u (fun z=>ht (Ie.mpr z)) (fun z=>hu (Ie.mpr z))⟩;by_cases ts:t=s
 ·subst ts;unfold ia at ht;rw[Hq rfl,e] at ht;injection ht with ht;subst ht;refine⟨a,⟨qvs,af,n1,n2,fun q hq=>?_,fun q e' hq=>?_⟩,c⟩
  ·replace hq:(if q=p then o else g q)=none:=hq
   by_cases qp:q=p
   ·subst qp;rw[Hq rfl] at hq;exact n4 hq
   ·rw[Ho qp] at hq;rw[n3 q qp];exact b4 q hq
  ·replace hq:(if q=p then o else g q)=some e':=hq
   by_cases qp:q=p
   ·subst qp;rw[Hq rfl] at hq;obtain⟨v,v1,v2⟩:=n5 e' hq;exact⟨v,v1,v2.kp kp⟩
   ·rw[Ho qp] at hq;obtain⟨v,v1,v2⟩:=b5 q e' hq;exact⟨v,by rw[n3 q qp];exact v1,v2.kp kp⟩
 ·unfold ia at ht;rw[Ho ts] at ht;obtain⟨a',b',c'⟩:=h5 t g' ht;refine⟨a',b'.mv kp (au fun z=>ts (h6 t s (by rw[ht];exact fun z=>by cases z) (by rw[e];exact fun z=>by cases z) z)),c'⟩
theorem gM{p q:Nat}(h:q≠p):(Sum.inl (q:Int):Key)≠.inl (p:Int):=fun z=>by
 injection z with z;exact h (Int.ofNat.inj z)
theorem Laid.put{H:Hp}{L:Addr}{f:Lm}{s p e:Nat}{g:Nat->Option Nat}{v:V}(h:Laid H L f)(hs:f s=some g)(hp:p<4)(hv:En H v e):∃d H',IE H L (.int (s:Nat)) (some (.ref d))/\Lg H d (.int (p:Nat)) v H'/\Laid H' L (ia f s p (some e))/\Kp H H':=by
 obtain⟨d,pvs,h1,h2,h3,n1,n2,h4,h5⟩:=h.chg (p:=p) (o:=some e) hs;obtain⟨k1,k2⟩:=lT (k:=(.inl (p:Int):Key)) (v:=v) n1;refine⟨d,_,h1,.inl ⟨pvs,.inl (p:Int),h2,rfl,Fi h3 (by decide),rfl⟩,h5 _ k1 (fun x hx=>?_) (fun q hq=>?_) (fun z=>by cases z) (fun e' z=>?_),jA h2⟩
 ·rcases k2 x hx with rfl|h
  ·exact⟨p,hp,rfl⟩
  ·exact n2 x h
 ·rw[bj,Ho (gM hq)]
 ·injection z with z;subst z;exact⟨v,by rw[bj,Hq rfl],hv⟩
theorem Laid.pop{H:Hp}{L:Addr}{f:Lm}{s p e:Nat}{g:Nat->Option Nat}(h:Laid H L f)(hs:f s=some g)(hp:g p=some e):∃d pvs v,IE H L (.int (s:Nat)) (some (.ref d))/\H d=some (.dK pvs)/\bg pvs (.inl (p:Int))=some v/\En H v e/\Laid (upd H d (.dK (bY pvs (.inl (p:Int))))) L (ia f s p none)/\Kp H (upd H d (.dK (bY pvs (.inl (p:Int))))):=by
 obtain⟨d,pvs,h1,h2,h3,n1,n2,h4,h5⟩:=h.chg (p:=p) (o:=none) hs;obtain⟨k1,k2⟩:=jK (k:=(.inl (p:Int):Key)) n1;obtain⟨v,v1,v2⟩:=h4 e hp;refine⟨d,pvs,v,h1,h2,v1,v2,h5 _ k1 (fun x hx=>n2 x (k2 x hx)) (fun q hq=>?_) (fun _=>?_) (fun e' z=>by cases z),jA h2⟩
 ·rw[cn,Ho (gM hq)]
 ·rw[cn,Hq rfl]
theorem Laid.rid{H:Hp}{L:Addr}{f:Lm}{s:Nat}{g:Nat->Option Nat}(h:Laid H L f)(hs:f s=some g):∃kvs v,H L=some (.dK kvs)/\bg kvs (.inl (s:Int))=some v/\Laid (upd H L (.dK (bY kvs (.inl (s:Int))))) L (fun x=>if x=s then none else f x)/\Kp H (upd H L (.dK (bY kvs (.inl (s:Int))))):=by
 obtain⟨kvs,h1,h2,h3,h4,D,h5,h6⟩:=h;obtain⟨k1,k2⟩:=jK (k:=(.inl (s:Int):Key)) h2;have kp:Kp H (upd H L (.dK (bY kvs (.inl (s:Int))))):=jA h1;have up:∀{t:Nat}{o:Option (Nat->Option Nat)},(if t=s then none else f t)=o->o≠none->t≠s/\f t=o:=fun {t o} e n=>by
  by_cases ts:t=s
  ·rw[Hq ts] at e;exact absurd e.symm n
  ·rw[Ho ts] at e;exact⟨ts,e⟩
 refine⟨kvs,_,h1,(h5 s g hs).1,⟨_,af,k1,fun x hx=>h3 x (k2 x hx),fun t ht=>?_,D,fun t g' ht=>?_,fun t u ht hu=>?_⟩,kp⟩
 ·rw[cn];by_cases ts:t=s
  ·subst ts;rw[Hq rfl]
  ·replace ht:(if t=s then none else f t)=none:=ht
   rw[Ho ts] at ht;rw[Ho (gM ts)];exact h4 t ht
 ·obtain⟨n,ft⟩:=up ht (fun z=>by cases z);obtain⟨a,b,c⟩:=h5 t g' ft;exact⟨by rw[cn,Ho (gM n)];exact a,b.mv kp (au c),c⟩
 ·obtain⟨_,ft⟩:=up rfl ht;obtain⟨_,fu⟩:=up rfl hu;exact h6 t u (by rw[ft];exact ht) (by rw[fu];exact hu)
def OO:Sp:=fun vs H Q _=>∃L v f,∃s p e:Nat,vs=[.ref L,v]/\Laid H L f/\Wy H v (s,p,e)/\p<4/\f s≠none/\f e≠none/\∀H',Kp H H'->Laid H' L (ia (ia f s p (some e)) e ((p+2) % 4) (some s))->Q .non H'
theorem xT{dt d:DD}(AO:(dg "turned_way" 11 ["way"] dt 2 NA))(D:Def K mg "lay" (top 12) ["laid","way"] d):(fk 3 d ["laid","way"] OO):=by
 exists["laid","way","start","place","end","row"]
 obtain⟨L,v,f,s,p,e,rfl,hL,hw,hp,fs,fe,q⟩:=h;refine⟨_,(aq (bE (bp (aY (ag (1) (aL (bu AO.1 AO.2 (1) aC) dv) aC))) (cj (ax (ar 2) (ax (ar 3) (ax (ar 4) (ax (ar 5) (Ip _)))))) (aq (fA (bK hr) (bC (bK hr) (0) (2)) (3) (bh (ag (4) (aL (5) aC) aC)))))),?_⟩
 walk_at "d"
 refine⟨_,rfl,_,rfl,v,s,p,e,rfl,hw,hp,fun y H1 S1 hy=>⟨(by show 2<=sizeLine;decide),fun l hl=>?_⟩⟩;have S2:=ao hl (.lst [v,y]);refine⟨l,rfl,⟨_,SqL.of af⟩,?_⟩;refine dP (K:=K) (a:=l) (xs:=[v,y]) (fun i σ' H'=>(∃c1 c2 c3 c4,σ'=[some (.ref L),some v,c1,c2,c3,c4])/\Kp (upd H1 l (.lst [v,y])) H'/\Laid H' L (if i=0 then f else if i=1 then ia f s p (some e) else ia (ia f s p (some e)) e ((p+2) % 4) (some s))) ⟨⟨_,_,_,_,rfl⟩,Kp.refl _,hL.mono (S1.trans S2)⟩ (fun i σ' H' hi z=>SqL.of (z.2.1 _ _ af fun _ e=>by cases e)) (fun i x σ' H' hx z=>?_) (fun σ' H' z=>q _ ((Kp.of (S1.trans S2)).trans z.2.1) z.2.2);have step:∀(f':Lm)(s' p' e':Nat),Laid H' L f'->Wy H' x (s',p',e')->p'<4->f' s'≠none->∃a r,x=.ref a/\H' a=some (.tup [.int (s':Nat),.int (p':Nat),.int (e':Nat),r])/\∀t,H' t=none->∃d H2,IE (upd H' t (.tup [.int (e':Nat),r])) L (.int (s':Nat)) (some (.ref d))/\Lg (upd H' t (.tup [.int (e':Nat),r])) d (.int (p':Nat)) (.ref t) H2/\Kp H' H2/\Laid H2 L (ia f' s' p' (some e')):=by
  intro f' s' p' e' hL' hw' hp' hs';obtain⟨a,r,rfl,ha,h2⟩:=hw';refine⟨a,r,rfl,ha,fun t ht=>?_⟩;have S3:=ao ht (.tup [.int (e':Nat),r]);obtain⟨g,hg⟩:=EM.mp hs';obtain⟨d,H2,k1,k2,k3,k4⟩:=(hL'.mono S3).put hg hp' ⟨t,r,rfl,af,h2.mono S3⟩;exact⟨d,H2,k1,k2,(Kp.of S3).trans k4,k3⟩
 obtain⟨⟨c1,c2,c3,c4,rfl⟩,z1,z2⟩:=z;have hi:i<2:=(DU.mp hx).1;have hp2:(p+2) % 4<4:=Fj _ (by decide);have kp:Kp H H':=(Kp.of (S1.trans S2)).trans z1;have:i=0\/i=1:=by lia
 rcases this with rfl|rfl
 ·have ex:v=x:=by simpa using hx
  subst ex;obtain⟨a,r,rfl,ha,hn⟩:=step f s p e z2 (hw.kp kp) hp fs;refine⟨a,_,rfl,SqT.of ha,rfl,_,_,rfl,_,_,rfl,_,_,rfl,_,_,rfl,rfl,?_⟩;refine⟨_,rfl,_,rfl,(by show 2<=sizeLine;decide),fun t ht=>?_⟩;obtain⟨d,H2,k1,k2,k3⟩:=hn t ht;exact⟨_,rfl,_,rfl,L,_,rfl,k1,_,rfl,d,H2,rfl,k2,⟨_,_,_,_,rfl⟩,z1.trans k3.1,k3.2⟩
 ·have ex:y=x:=by simpa using hx
  subst ex;obtain⟨a,r,rfl,ha,hn⟩:=step (ia f s p (some e)) e ((p+2) % 4) s z2 ((hy.mono S2).kp z1) hp2 (fun z=>fe (Ie.mp z));refine⟨a,_,rfl,SqT.of ha,rfl,_,_,rfl,_,_,rfl,_,_,rfl,_,_,rfl,rfl,?_⟩;refine⟨_,rfl,_,rfl,(by show 2<=sizeLine;decide),fun t ht=>?_⟩;obtain⟨d,H2,k1,k2,k3⟩:=hn t ht;exact⟨_,rfl,_,rfl,L,_,rfl,k1,_,rfl,d,H2,rfl,k2,⟨_,_,_,_,rfl⟩,z1.trans k3.1,k3.2⟩
def lk (f:Lm)(s p:Nat):Option Nat:=(f s).bind (· p)
def MtV (H:Hp)(y:V):Option (Nat×Nat)->Prop
 |none=>y=.non
 |some x=>∃t r,y=.ref t/\H t=some (.tup [.int (x.1:Nat),.int (x.2:Nat),r])/\Rw H r
def je (f:Lm)(s p e:Nat):Option (Nat×Nat):=match lk f s p with
 |some o=>some (o,e)
 |none=>match lk f e ((p+2) % 4) with
  |some o=>some (o,s)
  |none=>none
def Oj:Sp:=fun vs H Q _=>∃L v f,∃s p e:Nat,vs=[.ref L,v]/\Laid H L f/\Wy H v (s,p,e)/\p<4/\f s≠none/\f e≠none/\∀y H',Ia H H'->MtV H' y (je f s p e)->Q y H'
theorem wm{dw dj dt d:DD}(AO:(dg "turned_way" 11 ["way"] dw 2 NA))(AL:(dg "joined" 8 ["one","other"] dj 2 NJ))(Av:(dg "turned" 6 ["row"] dt 1 LN))(D:Def K mg "meeting_of" (top 16) ["laid","way"] d):(fk 3 d ["laid","way"] Oj):=by
 exists["laid","way","start","place","end","row","other_end","other_row"]
 obtain⟨L,v,f,s,p,e,rfl,hL,hw,hp,fs,fe,q⟩:=h;refine⟨_,(ae (bE (bp (aY (ag (1) (aL (bu AO.1 AO.2 (1) aC) dv) aC))) (cj (ax (ar 2) (ax (ar 3) (ax (ar 4) (ax (ar 5) (Ip _)))))) (aq (br (ml (ny (bK hr) (3) (bC (bK hr) (0) (2))) (by first|exact eL _ (by decide) (by decide)|rfl)) (ae (cx (bC (bK hr) (bC (bK hr) (0) (2)) (3)) (cj (ax (ar 6) (ax (ar 7) (Ip _))))) (aq (aH (bh (ag (6) (ag (4) (aL (bz AL.1 AL.2 (ag (bu Av.1 Av.2 (7) aC) (aL (5) aC) dv)) dv) aC) aC))))) (HZ _)))) (aq (aH (bR _)))),?_⟩
 walk_at "d"
 refine⟨_,rfl,_,rfl,v,s,p,e,rfl,hw,hp,fun y H1 S1 hy=>⟨(by show 2<=sizeLine;decide),fun l hl=>?_⟩⟩;have S2:=ao hl (.lst [v,y]);refine⟨l,rfl,⟨_,SqL.of af⟩,?_⟩;refine dP (K:=K) (a:=l) (xs:=[v,y]) (fun i σ' H'=>(∃c1 c2 c3 c4 c5 c6,σ'=[some (.ref L),some v,c1,c2,c3,c4,c5,c6])/\Ia (upd H1 l (.lst [v,y])) H'/\(1<=i->lk f s p=none)/\(2<=i->lk f e ((p+2) % 4)=none)) ⟨⟨_,_,_,_,_,_,rfl⟩,Ia.refl _,fun h=>absurd h (by decide),fun h=>absurd h (by decide)⟩ (fun i σ' H' hi z=>SqL.of (z.2.1 _ _ af)) (fun i x σ' H' hx z=>?_) (fun σ' H' z=>q _ _ ((S1.trans S2).trans z.2.1) ?_)
 ·obtain⟨⟨c1,c2,c3,c4,c5,c6,rfl⟩,z1,z2,z3⟩:=z;have hi:i<2:=(DU.mp hx).1;have S3:=(S1.trans S2).trans z1;have hL':=hL.mono S3;have way:∃s' p' e':Nat,Wy H' x (s',p',e')/\f s'≠none/\(∀o,lk f s' p'=some o->je f s p e=some (o,e'))/\(lk f s' p'=none->(1<=i+1->lk f s p=none)/\(2<=i+1->lk f e ((p+2) % 4)=none)):=by
   have:i=0\/i=1:=by lia
   rcases this with rfl|rfl
   ·have ex:v=x:=by simpa using hx
    subst ex;exact⟨s,p,e,hw.mono S3,fs,fun o ho=>by unfold je;rw[ho],fun h=>⟨fun _=>h,fun h=>absurd h (by decide)⟩⟩
   ·have ex:y=x:=by simpa using hx
    subst ex;exact⟨e,(p+2) % 4,s,hy.mono (S2.trans z1),fe,fun o ho=>by unfold je;rw[z2 (DP 1),ho],fun h=>⟨fun _=>z2 (DP 1),fun _=>h⟩⟩
  obtain⟨s',p',e',⟨a,r,rfl,ha,h2⟩,fs',w1,w2⟩:=way;obtain⟨g,hg⟩:=EM.mp fs';have el:lk f s' p'=g p':=by unfold lk;rw[hg];rfl
  obtain⟨d,d1,d2,d3,d4⟩:=hL'.at hg;obtain⟨o,o1,o2,o3⟩:=d4 p';refine⟨a,_,rfl,SqT.of ha,rfl,_,_,rfl,_,_,rfl,_,_,rfl,_,_,rfl,rfl,?_⟩;refine⟨_,rfl,_,rfl,_,rfl,L,_,rfl,d1,d,o,rfl,o1,?_⟩;cases hgp:g p' with
  |none=>
   rw[o2 hgp];refine⟨_,rfl,?_⟩;exact⟨⟨_,_,_,_,_,_,rfl⟩,z1,w2 (by rw[el,hgp])⟩
  |some b=>
   obtain⟨u,e1,t,r2,rfl,ht,h3⟩:=o3 b hgp;subst e1;refine⟨_,rfl,?_⟩;refine⟨_,rfl,_,rfl,L,_,rfl,d1,_,rfl,d,_,rfl,o1,t,_,rfl,SqT.of ht,rfl,_,_,rfl,_,_,rfl,rfl,?_⟩;refine⟨_,rfl,_,rfl,_,rfl,r2,rfl,h3,fun z H2 S4 hz=>⟨_,rfl,z,r,rfl,hz,h2.mono S4,fun z2 H3 S5 hz2=>⟨(by show 3<=sizeLine;decide),fun m hm=>?_⟩⟩⟩;have S6:=ao hm (.tup [.int (b:Nat),.int (e':Nat),z2]);refine q _ _ (S3.trans (S4.trans (S5.trans S6))) ?_;rw[w1 b (by rw[el,hgp])];exact⟨m,z2,rfl,af,hz2.mono S6⟩
 ·unfold je;rw[z.2.2.1 (by show 1<=2;decide),z.2.2.2 (by show 2<=2;decide)];rfl
def Sym (f:Lm):Prop:=∀s p e:Nat,p<4->lk f s p=some e->lk f e ((p+2) % 4)=some s
theorem jO{f:Lm}{s p x q:Nat}{o:Option Nat}(h:f s≠none):lk (ia f s p o) x q=if x=s/\q=p then o else lk f x q:=by
 unfold lk ia;by_cases hx:x=s
 ·subst hx;rw[Hq rfl];obtain⟨g,hg⟩:=EM.mp h;rw[hg];show(if q=p then o else g q)=_;by_cases hq:q=p
  ·rw[Hq hq,Hq ⟨rfl,hq⟩]
  ·rw[Ho hq,Ho fun z=>hq z.2];rfl
 ·rw[Ho hx,Ho fun z=>hx z.1]
theorem mB{f:Lm}{s p e:Nat}(h:lk f s p=some e):f s≠none:=by
 intro z;unfold lk at h;rw[z] at h;cases h
def vM (f:Lm)(s p e:Nat):Lm:=ia (ia f s p none) e ((p+2) % 4) none
theorem iT{p:Nat}(h:p<4):((p+2) % 4+2) % 4=p:=by lia
theorem ju{f:Lm}{s p e x q:Nat}(hp:p<4)(y:Sym f)(h:lk f s p=some e):lk (vM f s p e) x q=if (x=s/\q=p)\/(x=e/\q=(p+2) % 4) then none else lk f x q:=by
 unfold vM;rw[jO (fun z=>mB (y s p e hp h) (Ie.mp z)),jO (mB h)];by_cases h1:x=e/\q=(p+2) % 4
 ·rw[Hq h1,Hq (.inr h1)]
 ·rw[Ho h1];by_cases h2:x=s/\q=p
  ·rw[Hq h2,Hq (.inl h2)]
  ·rw[Ho h2,Ho fun z=>z.elim h2 h1]
theorem Mj{f:Lm}{s p e x:Nat}:vM f s p e x=none↔f x=none:=Ie.trans Ie
theorem vJ{f:Lm}{s p e:Nat}(hp:p<4)(y:Sym f)(h:lk f s p=some e):Sym (vM f s p e):=by
 intro a b c hb hl;rw[ju hp y h] at hl;by_cases h1:(a=s/\b=p)\/(a=e/\b=(p+2) % 4)
 ·rw[Hq h1] at hl;cases hl
 ·rw[Ho h1] at hl;have:=y a b c hb hl;rw[ju hp y h,Ho]
  ·exact this
  ·rintro (⟨rfl,h3⟩|⟨rfl,h3⟩)
   ·rw[h3,h] at this;injection this with this;exact h1 (.inr ⟨this.symm,by rw[<- h3];exact(iT hb).symm⟩)
   ·rw[h3,y s p c hp h] at this;injection this with this;exact h1 (.inl ⟨this.symm,by lia⟩)
structure Lif(f:Lm)(st:Nat)(ts:List (Nat×Nat×Nat))(f':Lm):Prop where
 dom:∀x,f' x=none↔f x=none
 tell:∀t∈ts,t.1=st/\t.2.1<4/\lk f t.1 t.2.1=some t.2.2
 sym:Sym f'
 sub:∀s p e,lk f' s p=some e->lk f s p=some e
 all:∀s p e:Nat,p<4->lk f s p=some e->lk f' s p=some e\/(s,p,e)∈ts\/(e,(p+2) % 4,s)∈ts
theorem Lif.start{f:Lm}{st:Nat}(y:Sym f):Lif f st [] f:=⟨fun _=>.rfl,fun _ h=>(by cases h),y,fun _ _ _ h=>h,fun _ _ _ _ h=>.inl h⟩
theorem Lif.next{f f':Lm}{st p e:Nat}{ts:List (Nat×Nat×Nat)}(h:Lif f st ts f')(hp:p<4)(hl:lk f' st p=some e):Lif f st (ts++[(st,p,e)]) (vM f' st p e) where
 dom x:=Mj.trans (h.dom x)
 tell t ht:=by
  rcases DX.mp ht with ht|ht
  ·exact h.tell t ht
  ·simp at ht;subst ht;exact⟨rfl,hp,h.sub _ _ _ hl⟩
 sym:=vJ hp h.sym hl
 sub s q c hc:=by
  rw[ju hp h.sym hl] at hc;by_cases h1:(s=st/\q=p)\/(s=e/\q=(p+2) % 4)
  ·rw[Hq h1] at hc;cases hc
  ·rw[Ho h1] at hc;exact h.sub _ _ _ hc
 all s q c hq hc:=by
  rcases h.all s q c hq hc with a|a|a
  ·rw[ju hp h.sym hl];by_cases h1:(s=st/\q=p)\/(s=e/\q=(p+2) % 4)
   ·rcases h1 with ⟨rfl,rfl⟩|⟨rfl,rfl⟩
    ·rw[hl] at a;injection a with a;subst a;exact .inr (.inl (DV _ (Ei.mpr rfl)))
    ·rw[h.sym _ _ _ hp hl] at a;injection a with a;subst a;exact .inr (.inr (DV _ (Ei.mpr (by rw[iT hp]))))
   ·rw[Ho h1];exact .inl a
  ·exact .inr (.inl (Eh _ a))
  ·exact .inr (.inr (Eh _ a))
theorem Laid.keys{H:Hp}{L:Addr}{f:Lm}{s:Nat}{g:Nat->Option Nat}(h:Laid H L f)(e:f s=some g):∃d pvs,IE H L (.int (s:Nat)) (some (.ref d))/\H d=some (.dK pvs)/\pvs.length<=4/\(∀x∈pvs.map (·.1),∃p:Nat,p<4/\x=.inl (p:Int))/\∀p e:Nat,g p=some e->(.inl (p:Int):Key)∈pvs.map (·.1):=by
 obtain⟨d',pv',_,_,l4,_⟩:=h.chg (p:=0) (o:=none) e;obtain⟨kvs,h1,h2,h3,h4,D,h5,h6⟩:=h;obtain⟨a,⟨pvs,b1,b2,b3,b4,b5⟩,c⟩:=h5 s g e;refine⟨D s,pvs,?_,b1,?_,b3,fun p e hg=>?_⟩
 ·rw[<- a];exact IE.k (k:=.inl (s:Int)) h1
 ·have:=List.Nodup.length_le_of_subset b2 (l₂:=[.inl 0,.inl 1,.inl 2,.inl 3]) (fun x hx=>by
   obtain⟨p,hp,rfl⟩:=b3 x hx;have:p=0\/p=1\/p=2\/p=3:=by lia
   rcases this with rfl | rfl | rfl | rfl <;> simp)
  rw[DQ] at this;exact this
 ·obtain⟨v,v1,_⟩:=b5 p e hg;exact gG v1
theorem dF{p:Addr}{H:Hp}:hid p H p=none:=Hq rfl
theorem cN{p d:Addr}{H:Hp}{o:HO}(n:d≠p):hid p (upd H d o)=upd (hid p H) d o:=by
 funext b
 by_cases h:b=p
 ·subst h;rw[dF,au (HI n),dF]
 ·rw[aQ h];by_cases e:b=d
  ·subst e;rw[af,af]
  ·rw[au e,au e,aQ h]
theorem qm{p:Addr}{H:Hp}{o:HO}:hid p (upd H p o)=hid p H:=by
 funext b
 by_cases h:b=p
 ·subst h;rw[dF,dF]
 ·rw[aQ h,aQ h,au h]
theorem fD{p d:Addr}{H:Hp}{o:HO}(h:hid p H d=some o):d≠p:=fun e=>by
 subst e;rw[dF] at h;cases h
theorem bT{H H':Hp}{a:Addr}{y:V}{r:Option V}(S:Ia H H'):IE H a y r->IE H' a y r:=by
 have rd:∀o,Rd H a o->Rd H' a o:=fun o h=>h.elim (fun h=>.inl (S _ _ h)) fun hq108=>by obtain⟨u,h⟩:=hq108;exact .inr ⟨u,S _ _ h⟩
 rintro (⟨kvs,k,h1,h2,h3⟩|⟨kvs,k,b,h1,h2,h3,h4⟩)
 ·exact .inl ⟨kvs,k,rd _ h1,h2,h3⟩
 ·exact .inr ⟨kvs,k,b,rd _ h1,h2,S _ _ h3,h4⟩
theorem fg{α β:Type}{F:α->β->Prop}{x:α}{y:β}(h:F x y):∀{a:List α}{b:List β},Paired F a b->Paired F (a++[x]) (b++[y])
 |_,_,.nil=>.cons h .nil
 |_,_,.cons p q=>.cons p (fg h q)
theorem pV{f:Lm}{s p e:Nat}(h:lk f s p=some e):∃g,f s=some g/\g p=some e:=by
 obtain⟨g,hg⟩:=EM.mp (mB h);unfold lk at h;rw[hg] at h;exact⟨g,hg,h⟩
abbrev Wys(H:Hp)(us:List V)(ts:List (Nat×Nat×Nat)):Prop:=Paired (fun v x=>Wy H v x) us ts
def OH:Sp:=fun vs H Q _=>∃L f,∃st:Nat,vs=[.ref L,.int (st:Nat)]/\Laid H L f/\Sym f/\f st≠none/\∀l us ts f' H',Kp H H'->H' l=some (.lst us)->Wys H' us ts->ts.length<=4->Lif f st ts f'->(∀p,lk f' st p=none)->Laid H' L (fun x=>if x=st then none else f' x)->Q (.ref l) H'
theorem vP{db d:DD}(AM:(dg "back_place" 5 ["place"] db 1 NL))(D:Def K mg "lifted" (top 13) ["laid","state"] d)(Ao:mg "list"=none):(fk 3 d ["laid","state"] OH):=by
 exists["laid","state","ways","place","end","row"]
 obtain⟨L,f,st,rfl,hL,hy,hst,q⟩:=h;refine⟨_,(ae (aw 2 (aY (Ii _))) (ae (bE (bp (bS (pK hc) Ao Jk (aL (bC (bK hr) (0) (1)) (by rfl)))) (ar 3) (aq (br (ml (ny (bK hr) (3) (bC (bK hr) (0) (1))) (by first|exact eL _ (by decide) (by decide)|rfl)) (ae (cx (jc (bC (bK hr) (0) (1)) (3) ⟨rfl,rfl,rfl,rfl⟩) (cj (ax (ar 4) (ax (ar 5) (Ip _))))) (ae (aV (jc (bC (bK hr) (0) (4)) (bu AM.1 AM.2 (3) aC) ⟨rfl,rfl,rfl,rfl⟩)) (aq (aV (cE (2) (bh (ag (1) (ag (3) (ag (4) (aL (5) aC) aC) aC) aC)) (by rfl)))))) (HZ _)))) (ae (aV (jc (0) (1) ⟨rfl,rfl,rfl,rfl⟩)) (aq (aH (2)))))),?_⟩
 walk_at "d"
 obtain⟨g0,hg0⟩:=EM.mp hst;refine⟨Ec _,fun W hW=>?_⟩;have S0:=ao hW (.lst []);obtain⟨d0,pv0,k1,k2,k3,k4,k5⟩:=(hL.mono S0).keys hg0;refine⟨_,rfl,_,rfl,L,_,rfl,k1,d0,pv0,rfl,.inl k2,fun l hl=>?_⟩;have lW:l≠W:=fun e=>by rw[e,af] at hl;cases hl
 have S1:=ao hl (.lst (pv0.map fun kv=>kV kv.1));have e1:hid W (upd (upd H W (.lst [])) l (.lst (pv0.map fun kv=>kV kv.1)))=upd H l (.lst (pv0.map fun kv=>kV kv.1)):=by
  rw[cN lW,qm]
  congr 1
  funext b
  by_cases h:b=W
  ·subst h;rw[dF,hW]
  ·rw[aQ h]
 have hl0:H l=none:=by rw[au lW] at hl;exact hl
 have S1':=ao hl0 (.lst (pv0.map fun kv=>kV kv.1));refine⟨l,rfl,⟨_,SqL.of af⟩,?_⟩;refine dP (K:=K) (a:=l) (xs:=pv0.map fun kv=>kV kv.1) (fun i σ' H'=>∃us ts f' c3 c4 c5,σ'=[some (.ref L),some (.int (st:Nat)),some (.ref W),c3,c4,c5]/\Kp H (hid W H')/\H' W=some (.lst us)/\hid W H' l=some (.lst (pv0.map fun kv=>kV kv.1))/\Wys (hid W H') us ts/\ts.length<=i/\Lif f st ts f'/\Laid (hid W H') L f'/\∀j p:Nat,j<i->(pv0.map (·.1))[j]?=some (.inl (p:Int))->lk f' st p=none) ?_ (fun i σ' H' hi z=>?_) (fun i x σ' H' hx z=>?_) (fun σ' H' z=>?_)
 ·refine⟨[],[],f,_,_,_,rfl,?_,(by rw[au (HI lW)];exact af),?_,.nil,DP _,Lif.start hy,?_,fun j p hj=>absurd hj (FU _)⟩
  ·rw[e1];exact Kp.of S1'
  ·rw[e1];exact af
  ·rw[e1];exact hL.mono S1'
 ·obtain⟨us,ts,f',c3,c4,c5,_,_,_,z4,_⟩:=z;exact SqL.of (aE _ _ _ _ z4)
 ·obtain⟨us,ts,f',c3,c4,c5,rfl,z1,z2,z3,z4,z5,z6,z7,z8⟩:=z;rw[DY] at hx;obtain⟨kv,hkv,rfl⟩:=EB.mp hx;obtain⟨p,hp,ekv⟩:=k4 kv.1 (FV (Ea hkv));have hk1:(pv0.map (·.1))[i]?=some (.inl (p:Int)):=by rw[DY,hkv,<- ekv];rfl
  have hi:i<pv0.length:=(DU.mp hkv).1;rw[ekv,show kV (.inl (p:Int))=V.int (p:Nat) from rfl];obtain⟨g,hg⟩:=EM.mp (fun z=>hst ((z6.dom st).mp z));have el:lk f' st p=g p:=by unfold lk;rw[hg];rfl
  obtain⟨d,d1,d2,d3,d4⟩:=z7.at hg;obtain⟨o,o1,o2,o3⟩:=d4 p;refine⟨_,rfl,_,rfl,_,rfl,L,_,rfl,bT (aE _ _) d1,d,o,rfl,bT (aE _ _) o1,?_⟩;cases hgp:g p with
  |none=>
   rw[o2 hgp];refine⟨_,rfl,?_⟩;refine⟨us,ts,f',_,_,_,rfl,z1,z2,z3,z4,Fe z5,z6,z7,fun j q hj hq=>?_⟩;rcases Nat.lt_succ_iff_lt_or_eq.mp hj with h|h
   ·exact z8 j q h hq
   ·subst h;rw[hk1] at hq;injection hq with hq;injection hq with hq;rw[<- Int.ofNat.inj hq,el,hgp]
  |some e=>
   obtain⟨u,eu,_⟩:=o3 e hgp;subst eu;refine⟨_,rfl,?_⟩;obtain⟨da,pva,va,a1,a2,a3,a4,a5,a6⟩:=z7.pop hg hgp;have na:=fD a2;have a2':=aE _ _ _ _ a2;have ea:=cN (p:=W) (H:=H') (o:=.dK (bY pva (.inl (p:Int)))) na;rw[<- ea] at a5 a6;obtain⟨t,r,rfl,at1,at2⟩:=a4.kp a6;refine⟨_,rfl,_,rfl,L,_,rfl,bT (aE _ _) a1,da,rfl,.inl ⟨_,.inl a2'⟩,_,rfl,pva,.inl (p:Int),_,a2',rfl,a3,t,_,rfl,SqT.of (aE _ _ _ _ at1),rfl,_,_,rfl,_,_,rfl,rfl,?_⟩;have hlk:lk f' st p=some e:=by rw[el,hgp]
   have hlb:lk (ia f' st p none) e ((p+2) % 4)=some st:=by
    rw[jO (mB hlk),Ho (fun z=>by lia)];exact z6.sym _ _ _ hp hlk
   obtain⟨g2,hg2,hgp2⟩:=pV hlb;obtain⟨db2,pvb,vb,b1,b2,b3,b4,b5,b6⟩:=a5.pop hg2 hgp2;have nb:=fD b2;have b2':=aE _ _ _ _ b2;have eb:=cN (p:=W) (H:=upd H' da (.dK (bY pva (.inl (p:Int))))) (o:=.dK (bY pvb (.inl (((p+2) % 4:Nat):Int)))) nb;rw[<- eb] at b5 b6;refine⟨_,rfl,_,rfl,L,_,rfl,bT (aE _ _) b1,db2,rfl,.inl ⟨_,.inl b2'⟩,_,rfl,p,rfl,hp,pvb,.inl (((p+2) % 4:Nat):Int),_,b2',rfl,b3,?_⟩;generalize eH:upd (upd H' da (.dK (bY pva (.inl (p:Int))))) db2 (.dK (bY pvb (.inl (((p+2) % 4:Nat):Int))))=Hb at b5 b6 ⊢;have hWb:Hb W=some (.lst us):=by rw[<- eH,au (HI nb),au (HI na)];exact z2
   have kab:Kp (hid W H') (hid W Hb):=a6.trans b6;refine⟨_,rfl,.inl ⟨rfl,_,SqL.of hWb⟩,_,rfl,_,rfl,_,rfl,_,rfl,(by show 4<=sizeLine;decide),fun m hm=>?_⟩;have mW:m≠W:=fun e=>by rw[e,hWb] at hm;cases hm
   have hm':hid W Hb m=none:=by rw[aQ mW];exact hm
   have S4:=ao hm' (.tup [.int (st:Nat),.int (p:Nat),.int (e:Nat),r]);have em:hid W (upd (upd Hb m (.tup [.int (st:Nat),.int (p:Nat),.int (e:Nat),r])) W (.lst (us++[.ref m])))=upd (hid W Hb) m (.tup [.int (st:Nat),.int (p:Nat),.int (e:Nat),r]):=by rw[qm,cN mW]
   have kpm:Kp (hid W H') (upd (hid W Hb) m (.tup [.int (st:Nat),.int (p:Nat),.int (e:Nat),r])):=kab.trans (Kp.of S4);have hlen:us.length=ts.length:=z4.length;refine⟨W,us,_,rfl,rfl,(by rw[au (HI mW)];exact hWb),Fi (by lia:us.length<=4) (by decide),?_⟩;refine⟨us++[.ref m],ts++[(st,p,e)],vM f' st p e,_,_,_,rfl,?_,af,?_,?_,?_,z6.next hp hlk,?_,fun j q hj hq=>?_⟩
   ·rw[em];exact z1.trans kpm
   ·rw[em];exact kpm _ _ z3 fun _ e=>by cases e
   ·rw[em];exact fg ⟨m,r,rfl,af,(at2.kp b6).mono S4⟩ (L2.Paired.IL z4 fun a b h=>Wy.kp kpm h)
   ·rw[DR];exact Nat.add_le_add_right z5 1
   ·rw[em];exact b5.mono S4
   ·rw[ju hp z6.sym hlk];rcases Nat.lt_succ_iff_lt_or_eq.mp hj with h|h
    ·rw[z8 j q h hq];split<;>rfl
    ·subst h;rw[hk1] at hq;injection hq with hq;injection hq with hq;rw[Hq (.inl ⟨rfl,(Int.ofNat.inj hq).symm⟩)]
 ·obtain⟨us,ts,f',c3,c4,c5,rfl,z1,z2,z3,z4,z5,z6,z7,z8⟩:=z;rw[DQ] at z5 z8;obtain⟨g,hg⟩:=EM.mp (fun z=>hst ((z6.dom st).mp z));have hno:∀p,lk f' st p=none:=by
   intro p;cases h:lk f' st p with
   |none=>rfl
   |some e=>
    obtain⟨g1,hg1,hgp⟩:=pV (z6.sub _ _ _ h);rw[hg0] at hg1;injection hg1 with hg1;subst hg1;obtain⟨j,hj,ej⟩:=List.getElem_of_mem (k5 p e hgp);rw[z8 j p (by rw[DQ] at hj;exact hj) (DU.mpr ⟨hj,ej⟩)] at h;cases h
  obtain⟨kvs,v,r1,r2,r3,r4⟩:=z7.rid hg;have nL:=fD r1;have r1':=aE _ _ _ _ r1;have er:=cN (p:=W) (H:=H') (o:=.dK (bY kvs (.inl (st:Int)))) nL;rw[<- er] at r3 r4;refine⟨_,rfl,L,rfl,.inl ⟨_,.inl r1'⟩,_,rfl,kvs,.inl (st:Int),v,r1',rfl,r2,?_⟩;refine⟨_,rfl,?_⟩;refine q W us ts f' _ ((z1.trans r4).trans (Kp.of (aE _ _))) (by rw[au (HI nL)];exact z2) (L2.Paired.IL z4 fun a b h=>(Wy.kp r4 h).mono (aE _ _)) (Ee z5 k3) z6 hno (r3.mono (aE _ _))
theorem iN{α β:Type}{F:α->β->Prop}:∀{a c:List α}{b e:List β},Paired F a b->Paired F c e->Paired F (a++c) (b++e)
 |_,_,_,_,.nil,h=>h
 |_,_,_,_,.cons p q,h=>.cons p (iN q h)
theorem dY{α β:Type}{F:α->β->Prop}:∀{a:List α}{b:List β}{i:Nat}{x:α},Paired F a b->a[i]?=some x->∃y,b[i]?=some y/\F x y
 |_,_,_,_,.nil,e=>by simp at e
 |_,_,0,_,.cons h _,e=>by simp at e;subst e;exact⟨_,rfl,h⟩
 |_,_,i+1,v,.cons _ r,e=>by
  obtain⟨cs,h1,h2⟩:=dY (i:=i) (x:=v) r (by simpa using e);exact⟨cs,by simpa using h1,h2⟩
theorem tM{a b:Nat}(h:a≠b):V.int (a:Nat)≠V.int (b:Nat):=fun e=>by
 injection e with e;exact h (Int.ofNat.inj e)
def Le (H:Hp)(q:Addr):Prop:=∀o,H q=some o->∃kvs,o=.dK kvs
theorem ye{H H':Hp}{q:Addr}(k:Kp H H')(h:H' q=none):Le H q:=fun o ho=>by
 by_cases z:∃kvs,o=.dK kvs
 ·exact z
 ·have:=k q o ho fun kvs e=>z ⟨kvs,e⟩;rw[h] at this;cases this
theorem Le.back{H H':Hp}{q:Addr}(k:Kp H H')(h:Le H' q):Le H q:=fun o ho=>by
 by_cases z:∃kvs,o=.dK kvs
 ·exact z
 ·exact h o (k q o ho fun kvs e=>z ⟨kvs,e⟩)
theorem oK{H H':Hp}{q:Addr}{o:HO}(k:Kp H H')(h:Le H q):Kp H (upd H' q o):=fun a u ha n=>by
 by_cases e:a=q
 ·subst e;obtain⟨kvs,rfl⟩:=h u ha;exact absurd rfl (n kvs)
 ·rw[au e];exact k a u ha n
def mvT (l k:Nat)(t:Nat×Nat×Nat):Nat×Nat×Nat:=(sb l k t.1,t.2.1,sb l k t.2.2)
def OL:Sp:=fun vs H Q _=>∃L B m ws wt f,∃a b:Nat,vs=[.ref L,.ref B,m]/\Laid H L f/\Sym f/\H B=some (.lst ws)/\Wys H ws wt/\wt.length<=1000/\MtV H m (some (a,b))/\f a≠none/\f b≠none /\
 ∀k l,(if b=0 then (b,a) else (a,b))=(k,l)->∀q us ts f' H',Kp H H'->Le H q->H' q=some (.lst us)->Wys H' us ((wt++ts).map (mvT l k))->ts.length<=4->Lif f l ts f'->(∀p,lk f' l p=none)->Laid H' L (fun x=>if x=l then none else f' x)->Q (.ref q) H'
theorem yE{dl dm dt d:DD}(BD:(dg "lifted" 13 ["laid","state"] dl 3 OH))(BH:(dg "moved" 14 ["way","kept","lost","row"] dm 3 NV))(Av:(dg "turned" 6 ["row"] dt 1 LN))(D:Def K mg "merged" (top 15) ["laid","waiting","meeting"] d):(fk 4 d ["laid","waiting","meeting"] OL):=by
 exists["laid","waiting","meeting","kept","lost","row"]
 obtain⟨L,B,m,ws,wt,f,a,b,rfl,hL,hy,hB,hw,hn,⟨t,r,rfl,ht,h2⟩,fa,fb,q⟩:=h;refine⟨_,(ae (cx (2) (cj (ax (ad 3) (ax (ad 4) (ax (ad 5) (Ip _)))))) (ae (fZ (br (aB IX (4) (ah _) (aD _)) (aq (cx (bh (ag (4) (ag (3) (aL (bu Av.1 Av.2 (5) aC) dv) aC) aC)) (cj (ax (ad 3) (ax (ad 4) (ax (ad 5) (Ip _))))))) (HZ _))) (aq (aH (bB (aA (ts:=["way"]) (cap:=["kept","lost","row"]) (js:=[3,4,5]) rfl rfl rfl rfl rfl rfl (by decide +kernel)) (bp (ay JY (1) (bz BD.1 BD.2 (ag (0) (aL (4) aC) aC)))) (am 0 (nd ["way","kept","lost","row"])) (@aX _) (bz BH.1 BH.2 (ag (0) (ag (1) (ag (2) (aL (3) aC) aC) aC) aC))))))),?_⟩
 walk_at "d"
 refine⟨_,rfl,t,_,rfl,SqT.of ht,rfl,_,_,rfl,_,_,rfl,_,_,rfl,rfl,?_⟩;refine⟨fun σ' H'=>∃k l r',(if b=0 then (b,a) else (a,b))=(k,l)/\σ'=[some (.ref L),some (.ref B),some (.ref t),some (.int (k:Nat)),some (.int (l:Nat)),some r']/\Ia H H'/\Rw H' r',?_,?_⟩
 ·refine⟨_,rfl,rfl,_,rfl,?_⟩;by_cases hb:b=0
  ·subst hb;rw[Ht (show V.int ((0:Nat):Int)=V.int 0 from rfl)];refine⟨_,rfl,_,rfl,_,rfl,r,rfl,h2,fun y H1 S1 hy1=>⟨(by show 3<=sizeLine;decide),fun m hm=>?_⟩⟩;have S2:=ao hm (.tup [.int ((0:Nat):Int),.int (a:Nat),y]);exact⟨m,_,rfl,SqT.of af,rfl,_,_,rfl,_,_,rfl,_,_,rfl,rfl,0,a,y,rfl,rfl,S1.trans S2,hy1.mono S2⟩
  ·rw[Hu (show ¬V.int (b:Nat)=V.int 0 from tM (b:=0) hb)];exact⟨a,b,r,Ho hb,rfl,Ia.refl _,h2⟩
 rintro _ H1 ⟨k,l,r',ekl,rfl,S1,hr'⟩;have fl:f l≠none:=by
  by_cases hb:b=0
  ·rw[Hq hb] at ekl;injection ekl with e1 e2;rw[<- e2];exact fa
  ·rw[Ho hb] at ekl;injection ekl with e1 e2;rw[<- e2];exact fb
 refine⟨_,rfl,_,rfl,_,rfl,L,f,l,rfl,hL.mono S1,hy,fl,fun g us ts f' H2 kp hg hus h4 lf no hL2=>?_⟩;have kp1:Kp H H2:=(Kp.of S1).trans kp;have el1:ws.length=wt.length:=hw.length;have el2:us.length=ts.length:=hus.length;have hB2:H2 B=some (.lst ws):=kp1 _ _ hB fun _ e=>by cases e
 refine⟨B,g,ws,us,rfl,rfl,hB2,hg,Ee (by lia:ws.length+us.length<=1004) (by decide),fun p hp=>?_⟩;have S3:=ao hp (.lst (ws++us));have hpair:Wys H2 (ws++us) (wt++ts):=iN (L2.Paired.IL hw fun _ _ h=>Wy.kp kp1 h) hus;have elen:(ws++us).length=(wt++ts).length:=hpair.length;refine⟨p,rfl,⟨_,SqL.of af⟩,?_⟩;refine fH (K:=K) (a:=p) (xs:=ws++us) (fun i ys H'=>Ia (upd H2 p (.lst (ws++us))) H'/\Wys H' ys (((wt++ts).take i).map (mvT l k))) ⟨Ia.refl _,.nil⟩ (fun i ys H' hi z=>by have:=z.2.length;rw[DQ,Eu] at this;lia) (aJ (by rw[DR];lia)) (fun i ys H' hi z=>SqL.of (z.1 _ _ af)) (fun i x ys H' hx z=>?_) (fun ys H' z m hm=>?_)
 ·obtain⟨z1,z2⟩:=z;have hi:i<(ws++us).length:=(DU.mp hx).1;obtain⟨⟨s',p',e'⟩,ey,wy⟩:=dY hpair hx;refine⟨_,rfl,_,rfl,_,rfl,_,rfl,x,r',k,l,s',p',e',rfl,wy.mono (S3.trans z1),(hr'.kp kp).mono (S3.trans z1),fun y H3 S4 hy3=>Nx.mk hi ⟨z1.trans S4,?_⟩⟩;rw[Eo,ey,Ef];exact fg hy3 (L2.Paired.IL z2 fun _ _ h=>Wy.mono S4 h)
 ·obtain⟨z1,z2⟩:=z;rw[elen,Ez] at z2;have S5:=ao hm (.lst ys);exact q k l ekl m ys ts f' _ (kp1.trans (Kp.of (S3.trans (z1.trans S5)))) (ye (kp1.trans (Kp.of (S3.trans z1))) hm) af (L2.Paired.IL z2 fun _ _ h=>Wy.mono S5 h) h4 lf no (hL2.mono (S3.trans (z1.trans S5)))
end
end K3
namespace FG
variable {α:Type} [DecidableEq α] (iv:α->α)
def push (a:α):List α->List α
 |[]=>[a]
 |b::r=>if b=iv a then r else a::b::r
def act (x r:List α):List α:=x.foldr (push iv) r
def nf (x:List α):List α:=act iv x []
def bN (x:List α):List α:=(x.map iv).reverse
def IB:List α->Prop
 |[]=>True
 |[_]=>True
 |a::b::r=>b≠iv a/\IB (b::r)
structure Ok(iv:α->α):Prop where
 inv:∀a,iv (iv a)=a
 ne:∀a,iv a≠a
variable {iv}
theorem IB.tail{a:α}{r:List α}(h:IB iv (a::r)):IB iv r:=by
 cases r with
 |nil=>trivial
 |cons b r=>exact h.2
theorem mi(o:Ok iv){a:α}{r:List α}(h:IB iv r):IB iv (push iv a r):=by
 cases r with
 |nil=>trivial
 |cons b r=>
  show IB iv (if b=iv a then r else a::b::r);split
  ·exact h.tail
  ·rename_i n;exact⟨n,h⟩
theorem jC(o:Ok iv){a:α}{r:List α}(h:IB iv r):push iv a (push iv (iv a) r)=r:=by
 cases r with
 |nil=>show(if iv a=iv a then [] else _)=[];rw[Hq rfl]
 |cons b r=>
  by_cases e:b=iv (iv a)
  ·rw[show push iv (iv a) (b::r)=r from Hq e];rw[o.inv] at e;subst e;cases r with
   |nil=>rfl
   |cons c r=>show(if c=iv b then r else b::c::r)=_;rw[Ho h.1]
  ·rw[show push iv (iv a) (b::r)=iv a::b::r from Ho e];show(if iv a=iv a then b::r else _)=_;rw[Hq rfl]
theorem qv(x y r:List α):act iv (x++y) r=act iv x (act iv y r):=List.foldr_append
theorem kl(o:Ok iv){r:List α}(h:IB iv r):∀x:List α,IB iv (act iv x r)
 |[]=>h
 |a::x=>mi o (kl o h x)
theorem qx(o:Ok iv)(x:List α):IB iv (nf iv x):=kl o (r:=[]) trivial x
theorem vG{x:List α}(h:IB iv x):nf iv x=x:=by
 induction x with
 |nil=>rfl
 |cons a x ih=>
  show push iv a (nf iv x)=_;rw[ih h.tail];cases x with
  |nil=>rfl
  |cons b x=>show(if b=iv a then x else a::b::x)=_;rw[Ho h.1]
theorem rK(o:Ok iv){a:α}{x r:List α}(hr:IB iv r):act iv (push iv a x) r=push iv a (act iv x r):=by
 cases x with
 |nil=>rfl
 |cons b x=>
  by_cases e:b=iv a
  ·rw[show push iv a (b::x)=x from Hq e,e];show _=push iv a (push iv (iv a) (act iv x r));rw[jC o (kl o hr x)]
  ·rw[show push iv a (b::x)=a::b::x from Ho e];rfl
theorem tH(o:Ok iv){r:List α}(hr:IB iv r):∀x:List α,act iv (nf iv x) r=act iv x r
 |[]=>rfl
 |a::x=>by
  show act iv (push iv a (nf iv x)) r=push iv a (act iv x r);rw[rK o hr,tH o hr x]
theorem lY(o:Ok iv)(x y:List α):nf iv (x++y)=act iv x (nf iv y):=qv x y []
theorem cU(o:Ok iv)(x y:List α):nf iv (x++nf iv y)=nf iv (x++y):=by
 rw[lY o,lY o,vG (qx o y)]
theorem dE(o:Ok iv)(x y:List α):nf iv (nf iv x++y)=nf iv (x++y):=by
 rw[lY o,lY o,tH o (qx o y)]
theorem cC(o:Ok iv){x x' y y':List α}(hx:nf iv x=nf iv x')(hy:nf iv y=nf iv y'):nf iv (x++y)=nf iv (x'++y'):=by
 rw[<- dE o,hx,dE o,<- cU o,hy,cU o]
theorem dR(x y:List α):bN iv (x++y)=bN iv y++bN iv x:=by
 unfold bN;rw[Ef,List.reverse_append]
theorem cK(a:α)(x:List α):bN iv (a::x)=bN iv x++[iv a]:=by
 unfold bN;rw[Ex,Fg]
theorem de(o:Ok iv)(x:List α):bN iv (bN iv x)=x:=by
 unfold bN;rw[List.map_reverse,List.reverse_reverse,EL];have:(iv ∘ iv)=id:=funext o.inv;rw[this,List.map_id]
theorem pC(o:Ok iv){r:List α}(hr:IB iv r):∀x:List α,act iv (x++bN iv x) r=r
 |[]=>rfl
 |a::x=>by
  rw[cK,EV,<- Ej];show push iv a (act iv ((x++bN iv x)++[iv a]) r)=r;rw[qv];show push iv a (act iv (x++bN iv x) (push iv (iv a) r))=r;rw[pC o (mi o hr) x,jC o hr]
theorem jt(o:Ok iv)(x:List α):nf iv (x++bN iv x)=[]:=pC o (r:=[]) trivial x
theorem IQ(o:Ok iv)(x:List α):nf iv (bN iv x++x)=[]:=by
 have:=jt o (bN iv x);rw[de o] at this;exact this
theorem Jb(o:Ok iv)(x y z:List α)(h:nf iv y=[]):nf iv (x++(y++z))=nf iv (x++z):=
 cC o rfl (by rw[<- dE o,h];rfl)
theorem uo(o:Ok iv){x y:List α}(h:nf iv x=nf iv y):nf iv (bN iv x)=nf iv (bN iv y):=by
 have h1:nf iv (bN iv x++(y++bN iv y))=nf iv (bN iv x):=by
  have:=Jb o (bN iv x) (y++bN iv y) [] (jt o y);rw[Et,Et] at this;exact this
 have h2:nf iv (bN iv x++(x++bN iv y))=nf iv (bN iv y):=by
  have:=Jb o [] (bN iv x++x) (bN iv y) (IQ o x);rw[Gg,Gg,Ej] at this;exact this
 rw[<- h1,<- h2];exact cC o rfl (cC o h.symm rfl)
variable (iv) in
inductive InH(ws:List (List α)):List α->Prop
 |one:InH ws []
 |mul {w x:List α}:w∈ws->InH ws x->InH ws (w++x)
 |mulI {w x:List α}:w∈ws->InH ws x->InH ws (bN iv w++x)
 |eqv {x y:List α}:nf iv x=nf iv y->InH ws x->InH ws y
theorem InH.app(o:Ok iv){ws:List (List α)}{x y:List α}(h:InH iv ws x)(k:InH iv ws y):InH iv ws (x++y):=by
 induction h with
 |one=>exact k
 |mul m _ ih=>rw[Ej];exact .mul m ih
 |mulI m _ ih=>rw[Ej];exact .mulI m ih
 |eqv e _ ih=>exact .eqv (cC o e rfl) ih
theorem InH.of{ws:List (List α)}{w:List α}(h:w∈ws):InH iv ws w:=by
 have:=InH.mul (iv:=iv) h .one;rw[Et] at this;exact this
theorem InH.inv(o:Ok iv){ws:List (List α)}{x:List α}(h:InH iv ws x):InH iv ws (bN iv x):=by
 induction h with
 |one=>exact .one
 |mul m _ ih=>
  rw[dR];refine ih.app o ?_;have:=InH.mulI (iv:=iv) m .one;rw[Et] at this;exact this
 |mulI m _ ih=>
  rw[dR,de o];exact ih.app o (.of m)
 |eqv e _ ih=>exact .eqv (uo o e) ih
theorem InH.mono{ws vs:List (List α)}(o:Ok iv)(s:∀w∈ws,InH iv vs w){x:List α}(h:InH iv ws x):InH iv vs x:=by
 induction h with
 |one=>exact .one
 |mul m _ ih=>exact(s _ m).app o ih
 |mulI m _ ih=>exact((s _ m).inv o).app o ih
 |eqv e _ ih=>exact .eqv e ih
variable {σ:Type} [DecidableEq σ]
def walk (d:σ->α->Option σ):σ->List α->Option σ
 |s,[]=>some s
 |s,a::x=>(d s a).bind fun t=>walk d t x
theorem bD{d:σ->α->Option σ}:∀{s:σ}{x y:List α},walk d s (x++y)=(walk d s x).bind fun t=>walk d t y
 |s,[],y=>rfl
 |s,a::x,y=>by
  show((d s a).bind fun t=>walk d t (x++y))=((d s a).bind fun t=>walk d t x).bind _;cases d s a with
  |none=>rfl
  |some t=>exact bD
def Back (iv:α->α)(d:σ->α->Option σ):Prop:=∀s a t,d s a=some t->d t (iv a)=some s
theorem nv(o:Ok iv){d:σ->α->Option σ}(hb:Back iv d){s t:σ}{a:α}{x:List α}(h:walk d s (a::x)=some t):walk d s (push iv a x)=some t:=by
 cases x with
 |nil=>exact h
 |cons b x=>
  show walk d s (if b=iv a then x else a::b::x)=some t;split
  ·rename_i e;subst e;obtain⟨p,h1,h2⟩:=EN.mp h;obtain⟨q,h3,h4⟩:=EN.mp h2;have:=hb _ _ _ h1;rw[this] at h3;cases h3;exact h4
  ·exact h
theorem iI(o:Ok iv){d:σ->α->Option σ}(hb:Back iv d):∀{x:List α}{s t:σ},walk d s x=some t->walk d s (nf iv x)=some t
 |[],s,t,h=>h
 |a::x,s,t,h=>by
  obtain⟨p,h1,h2⟩:=EN.mp h;refine nv o hb ?_;show(d s a).bind _=_;rw[h1];exact iI o hb h2
theorem fW(o:Ok iv){d:σ->α->Option σ}(hb:Back iv d):∀{x:List α}{s t:σ},walk d s x=some t->walk d t (bN iv x)=some s
 |[],s,t,h=>by cases h;rfl
 |a::x,s,t,h=>by
  obtain⟨p,h1,h2⟩:=EN.mp h;rw[cK,bD,fW o hb h2];show(d p (iv a)).bind _=_;rw[hb _ _ _ h1];rfl
structure Fold(iv:α->α)(ws:List (List α))(d:σ->α->Option σ)(z:σ):Prop where
 back:Back iv d
 cos:∃g:σ->List α,g z=[]/\∀s a t,d s a=some t->InH iv ws (g s++(a::bN iv (g t)))
 clo:∀w∈ws,walk d z w=some z
 on:∀s a t,d s a=some t->∃w∈ws,∃x y,w=x++y/\walk d z x=some s
section
variable {ws vs:List (List α)}{d:σ->α->Option σ}{z:σ}
theorem Fold.Lv(o:Ok iv)(F:Fold iv ws d z){x:List α}(h:walk d z x=some z):InH iv ws x:=by
 obtain⟨g,g0,hg⟩:=F.cos;have key:∀(x:List α)(s t:σ),walk d s x=some t->InH iv ws (g s++(x++bN iv (g t))):=by
  intro x;induction x with
  |nil=>intro s t h;cases h;exact .eqv (by rw[Gg,jt o];rfl) .one
  |cons a x ih=>
   intro s t h;obtain⟨p,h1,h2⟩:=EN.mp h;have:=(hg _ _ _ h1).app o (ih _ _ h2);refine .eqv ?_ this;rw[Ej,EV,EV];refine cC o rfl ?_;have e:=Jb o [a] (bN iv (g p)++g p) (x++bN iv (g t)) (IQ o _);rw[Ej] at e;exact e
 have:=key x z z h;rw[g0] at this;simpa [bN] using this
theorem Fold.Lr(o:Ok iv)(F:Fold iv ws d z){x:List α}(h:InH iv ws x):walk d z (nf iv x)=some z:=by
 induction h with
 |one=>rfl
 |mul m _ ih=>
  rw[<- cU o];refine iI o F.back ?_;rw[bD,F.clo _ m];exact ih
 |mulI m _ ih=>
  rw[<- cU o];refine iI o F.back ?_;rw[bD,fW o F.back (F.clo _ m)];exact ih
 |eqv e _ ih=>rw[<- e];exact ih
theorem Fold.iff(o:Ok iv)(F:Fold iv ws d z){x:List α}(h:IB iv x):walk d z x=some z↔InH iv ws x:=
 ⟨F.Lv o,fun k=>by have:=F.Lr o k;rw[vG h] at this;exact this⟩
end
theorem IB.app{x y:List α}:IB iv x->IB iv y->(∀a b,x.getLast?=some a->y.head?=some b->b≠iv a)->IB iv (x++y):=by
 intro hx hy h;induction x with
 |nil=>exact hy
 |cons a x ih=>
  cases x with
  |nil=>
   cases y with
   |nil=>trivial
   |cons b y=>exact⟨h a b rfl rfl,hy⟩
  |cons c x=>
   refine⟨hx.1,ih hx.2 fun p q hp hq=>h p q ?_ hq⟩;rw[List.getLast?_cons_cons];exact hp
theorem IB.lf{x y:List α}(h:IB iv (x++y)):IB iv x:=by
 induction x with
 |nil=>trivial
 |cons a x ih=>
  cases x with
  |nil=>trivial
  |cons b x=>exact⟨h.1,ih h.2⟩
theorem IB.rg{x y:List α}(h:IB iv (x++y)):IB iv y:=by
 induction x with
 |nil=>exact h
 |cons a x ih=>exact ih h.tail
theorem IB.mid{x y:List α}{a b:α}(h:IB iv (x++y))(ha:x.getLast?=some a)(hb:y.head?=some b):b≠iv a:=by
 induction x with
 |nil=>cases ha
 |cons c x ih=>
  cases x with
  |nil=>
   cases ha;cases y with
   |nil=>cases hb
   |cons e y=>cases hb;exact h.1
  |cons e x=>exact ih h.tail (by rw[List.getLast?_cons_cons] at ha;exact ha)
theorem IB.inv(o:Ok iv):∀{x:List α},IB iv x->IB iv (bN iv x)
 |[],_=>trivial
 |a::x,h=>by
  rw[cK];refine IB.app (IB.inv o h.tail) trivial fun p q hp hq=>?_;cases hq;cases x with
  |nil=>cases hp
  |cons b x=>
   rw[cK,List.getLast?_concat] at hp;cases hp;rw[o.inv];exact fun e=>h.1 (by rw[<- e])
variable {α:Type} [DecidableEq α] {iv:α->α}{σ τ:Type} [DecidableEq σ] [DecidableEq τ]
def Rel (iv:α->α)(d:σ->α->Option σ)(z:σ)(e:τ->α->Option τ)(y:τ)(s:σ)(t:τ):Prop:=∃x,IB iv x/\walk d z x=some s/\walk e y x=some t
section
variable {ws vs:List (List α)}{d:σ->α->Option σ}{z:σ}{e:τ->α->Option τ}{y:τ}
theorem Rel.sym{s:σ}{t:τ}(h:Rel iv d z e y s t):Rel iv e y d z t s:=by
 obtain⟨x,h1,h2,h3⟩:=h;exact⟨x,h1,h3,h2⟩
theorem Fold.home(o:Ok iv)(F:Fold iv ws d z)(hr:∀w∈ws,IB iv w){s t:σ}{a:α}(h:d s a=some t):∃q,IB iv q/\walk d t q=some z/\∀b,q.head?=some b->b≠iv a:=by
 obtain⟨w,hw,p,q,rfl,hp⟩:=F.on _ _ _ (F.back _ _ _ h);have rw':=hr _ hw;have hq:walk d t q=some z:=by
  have:=F.clo _ hw;rw[bD,hp] at this;exact this
 by_cases e:∀b,q.head?=some b->b≠iv a
 ·exact⟨q,rw'.rg,hq,e⟩
 ·refine⟨bN iv p,rw'.lf.inv o,fW o F.back hp,fun b hb hba=>e fun c hc hca=>?_⟩;cases hl:p.getLast? with
  |none=>
   rw[List.getLast?_eq_none_iff.mp hl] at hb;cases hb
  |some l=>
   have n:=rw'.mid hl hc;obtain⟨p0,rfl⟩:=Hj.mp hl;rw[dR] at hb;have:b=iv l:=by
    have h0:bN iv [l]++bN iv p0=iv l::bN iv p0:=rfl;rw[h0] at hb;cases hb;rfl
   rw[this] at hba;have hl2:l=a:=by rw[<- o.inv l,hba,o.inv]
   exact n (by rw[hca,hl2])
theorem Rel.next(o:Ok iv)(F:Fold iv ws d z)(G:Fold iv vs e y)(hr:∀w∈ws,IB iv w)(hH:∀x,InH iv ws x->InH iv vs x){s s':σ}{t:τ}{a:α}(h:Rel iv d z e y s t)(hs:d s a=some s'):∃t',e t a=some t'/\Rel iv d z e y s' t':=by
 obtain⟨x,rx,h1,h2⟩:=h;by_cases hl:x.getLast?=some (iv a)
 ·obtain⟨x0,rfl⟩:=Hj.mp hl;rw[bD] at h1 h2;obtain⟨p,h3,h4⟩:=EN.mp h1;obtain⟨q,h5,h6⟩:=EN.mp h2;have h4':d p (iv a)=some s:=by
   obtain⟨u,h7,h8⟩:=EN.mp h4;cases h8;exact h7
  have h6':e q (iv a)=some t:=by
   obtain⟨u,h7,h8⟩:=EN.mp h6;cases h8;exact h7
  have b1:=F.back _ _ _ h4';have b2:=G.back _ _ _ h6';rw[o.inv] at b1 b2;rw[b1] at hs;cases hs;exact⟨q,b2,x0,rx.lf,h3,h5⟩
 ·obtain⟨q,rq,hq,nq⟩:=F.home o hr hs;have ra:IB iv (x++[a]):=rx.app trivial fun p b hp hb hba=>by
   cases hb;exact hl (by rw[hp,hba,o.inv])
  have rall:IB iv ((x++[a])++q):=ra.app rq fun p b hp hb=>by
   rw[List.getLast?_concat] at hp;cases hp;exact nq b hb
  have wa:walk d z (x++[a])=some s':=by
   rw[bD,h1];show(d s a).bind _=_;rw[hs];rfl
  have wall:walk d z ((x++[a])++q)=some z:=by rw[bD,wa];exact hq
  have we:=(G.iff o rall).mpr (hH _ ((F.iff o rall).mp wall));rw[bD] at we;obtain⟨t',h7,_⟩:=EN.mp we;have h8:(e t a).bind (fun u=>walk e u [])=some t':=by
   have h8:=h7;rw[bD,h2] at h8;exact h8
  obtain⟨u,h9,h10⟩:=EN.mp h8;cases h10;exact⟨_,h9,x++[a],ra,wa,h7⟩
theorem Rel.one(o:Ok iv)(F:Fold iv ws d z)(G:Fold iv vs e y)(hH:∀x,InH iv ws x->InH iv vs x){s:σ}{t t':τ}(h:Rel iv d z e y s t)(k:Rel iv d z e y s t'):t=t':=by
 obtain⟨x,rx,h1,h2⟩:=h;obtain⟨x',rx',k1,k2⟩:=k;have wc:walk d z (x++bN iv x')=some z:=by rw[bD,h1];exact fW o F.back k1
 have hin:=hH _ (F.Lv o wc);have w0:=G.Lr o hin;have w1:walk e y (nf iv (x++bN iv x')++x')=some t':=by rw[bD,w0];exact k2
 have w2:=iI o G.back w1;have en:nf iv (nf iv (x++bN iv x')++x')=x:=by
  rw[dE o,Ej];have:=Jb o x (bN iv x'++x') [] (IQ o x');rw[Et,Et] at this;rw[this,vG rx]
 rw[en,h2] at w2;cases w2;rfl
structure Bis(d:σ->α->Option σ)(e:τ->α->Option τ)(R:σ->τ->Prop):Prop where
 fwd:∀s t a s',R s t->d s a=some s'->∃t',e t a=some t'/\R s' t'
 bwd:∀s t a t',R s t->e t a=some t'->∃s',d s a=some s'/\R s' t'
 one:∀s t t',R s t->R s t'->t=t'
 inj:∀s s' t,R s t->R s' t->s=s'
theorem Fold.bis(o:Ok iv)(F:Fold iv ws d z)(G:Fold iv vs e y)(hr:∀w∈ws,IB iv w)(kr:∀w∈vs,IB iv w)(hH:∀x,InH iv ws x↔InH iv vs x):Bis d e (Rel iv d z e y)/\Rel iv d z e y z y:=
 ⟨⟨fun _ _ _ _ h hs=>h.next o F G hr (fun x=>(hH x).mp) hs,fun _ _ _ _ h ht=>by
   obtain⟨s',h1,h2⟩:=h.sym.next o G F kr (fun x=>(hH x).mpr) ht
   exact⟨s',h1,h2.sym⟩,fun _ _ _ h k=>Rel.one o F G (fun x=>(hH x).mp) h k,fun _ _ _ h k=>Rel.one o G F (fun x=>(hH x).mpr) h.sym k.sym⟩,[],trivial,rfl,rfl⟩
end
variable (ls:List α)
def Iv(d:σ->α->Option σ)(s:σ)(o:List σ)(a:α):List σ:=match d s a with
 |some t=>if t∈o then o else o++[t]
 |none=>o
def IJ(d:σ->α->Option σ)(o:List σ)(s:σ):List σ:=ls.foldl (Iv d s) o
def ord (d:σ->α->Option σ)(z:σ):Nat->List σ
 |0=>[z]
 |i+1=>match (ord d z i)[i]? with
  |some s=>IJ ls d (ord d z i) s
  |none=>ord d z i
def rowOf(d:σ->α->Option σ)(o:List σ)(s:σ):List (Option Nat):=ls.map fun a=>(d s a).map fun t=>o.idxOf t
def canon(d:σ->α->Option σ)(o:List σ):List (List (Option Nat)):=o.map (rowOf ls d o)
inductive Pd(R:σ->τ->Prop):List σ->List τ->Prop
 |nil:Pd R [] []
 |cons {s:σ}{t:τ}{l:List σ}{m:List τ}:R s t->Pd R l m->Pd R (s::l) (t::m)
variable {ls}
section
variable {R:σ->τ->Prop}{d:σ->α->Option σ}{e:τ->α->Option τ}{l:List σ}{m:List τ}
theorem Pd.len(p:Pd R l m):l.length=m.length:=by
 induction p with
 |nil=>rfl
 |cons _ _ ih=>rw[EA,EA,ih]
theorem Pd.snoc{s:σ}{t:τ}(p:Pd R l m)(r:R s t):Pd R (l++[s]) (m++[t]):=by
 induction p with
 |nil=>exact .cons r .nil
 |cons a _ ih=>exact .cons a ih
theorem Pd.at(p:Pd R l m):∀{i:Nat}{s:σ},l[i]?=some s->∃t,m[i]?=some t/\R s t:=by
 induction p with
 |nil=>intro i s h;cases h
 |@cons a b l m r _ ih=>
  intro i s h;cases i with
  |zero=>cases h;exact⟨b,rfl,r⟩
  |succ i=>obtain⟨t,h1,h2⟩:=ih (i:=i) h;exact⟨t,h1,h2⟩
theorem Pd.mem(B:Bis d e R)(p:Pd R l m){s:σ}{t:τ}(r:R s t):s∈l↔t∈m:=by
 induction p with
 |nil=>exact⟨(fun h=>nomatch h),(fun h=>nomatch h)⟩
 |@cons a b l m q _ ih=>
  rw[Eb,Eb,ih];exact or_congr ⟨fun h=>by subst h;exact B.one _ _ _ r q,fun h=>by subst h;exact B.inj _ _ _ r q⟩ Iff.rfl
theorem Pd.idx(B:Bis d e R)(p:Pd R l m){s:σ}{t:τ}(r:R s t):l.idxOf s=m.idxOf t:=by
 induction p with
 |nil=>rfl
 |@cons a b l m q _ ih=>
  rw[FW,FW,ih];have:(a==s)=(b==t):=by
   rw[HL,HU,HU];exact⟨fun h=>by subst h;exact B.one _ _ _ q r,fun h=>by subst h;exact B.inj _ _ _ q r⟩
  rw[this]
theorem Pd.Iv(B:Bis d e R){s:σ}{t:τ}(r:R s t)(p:Pd R l m)(a:α):Pd R (Iv d s l a) (Iv e t m a):=by
 unfold FG.Iv;cases hd:d s a with
 |none=>
  cases he:e t a with
  |none=>exact p
  |some t'=>
   obtain⟨s',h1,_⟩:=B.bwd _ _ _ _ r he;rw[hd] at h1;cases h1
 |some s'=>
  obtain⟨t',h1,h2⟩:=B.fwd _ _ _ _ r hd;rw[h1];show Pd R (if s'∈l then l else l++[s']) (if t'∈m then m else m++[t']);by_cases hm:s'∈l
  ·rw[Hq hm,Hq ((p.mem B h2).mp hm)];exact p
  ·rw[Ho hm,Ho (fun k=>hm ((p.mem B h2).mpr k))];exact p.snoc h2
theorem Pd.IJ(B:Bis d e R){s:σ}{t:τ}(r:R s t):∀(ls:List α){l:List σ}{m:List τ},Pd R l m->Pd R (IJ ls d l s) (IJ ls e m t)
 |[],_,_,p=>p
 |a::ls,_,_,p=>Pd.IJ B r ls (p.Iv B r a)
theorem Pd.ord(B:Bis d e R){z:σ}{y:τ}(r:R z y):∀i,Pd R (ord ls d z i) (ord ls e y i)
 |0=>.cons r .nil
 |i+1=>by
  have p:=Pd.ord B r i;unfold FG.ord;cases h:(FG.ord ls d z i)[i]? with
  |none=>
   cases k:(FG.ord ls e y i)[i]? with
   |none=>exact p
   |some t=>
    have h1:=List.getElem?_eq_none_iff.mp h;have h2:=(DU.mp k).1;rw[p.len] at h1;exact absurd h2 (Nat.not_lt.mpr h1)
  |some s=>
   obtain⟨t,k,r'⟩:=p.at h;rw[k];exact p.IJ B r' ls
theorem Pd.canon(B:Bis d e R)(p:Pd R l m):canon ls d l=canon ls e m:=by
 have key:∀{l':List σ}{m':List τ},Pd R l' m'->l'.map (rowOf ls d l)=m'.map (rowOf ls e m):=by
  intro l' m' q;induction q with
  |nil=>rfl
  |@cons s t _ _ r _ ih=>
   rw[Ex,Ex,ih]
   congr 1
   unfold rowOf;refine FQ fun a _=>?_;cases hd:d s a with
   |none=>
    cases he:e t a with
    |none=>rfl
    |some t'=>
     obtain⟨s',h1,_⟩:=B.bwd _ _ _ _ r he;rw[hd] at h1;cases h1
   |some s'=>
    obtain⟨t',h1,h2⟩:=B.fwd _ _ _ _ r hd;rw[h1];show some (List.idxOf s' l)=some (List.idxOf t' m);rw[p.idx B h2]
 exact key p
end
theorem fM{d:σ->α->Option σ}{z:σ}{n:Nat}(h:(ord ls d z n).length<=n):∀k,ord ls d z (n+k)=ord ls d z n
 |0=>rfl
 |k+1=>by
  have ih:=fM h k;rw[Nat.add_succ];show(match (ord ls d z (n+k))[n+k]? with|some s=>IJ ls d (ord ls d z (n+k)) s|none=>ord ls d z (n+k))=_;rw[ih,Gn (by lia)]
theorem KI{ws vs:List (List α)}{d:σ->α->Option σ}{z:σ}{e:τ->α->Option τ}{y:τ}(o:Ok iv)(F:Fold iv ws d z)(G:Fold iv vs e y)(hr:∀w∈ws,IB iv w)(kr:∀w∈vs,IB iv w)(hH:∀x,InH iv ws x↔InH iv vs x)
  {n m:Nat}(hn:(ord ls d z n).length<=n)(hm:(ord ls e y m).length<=m):canon ls d (ord ls d z n)=canon ls e (ord ls e y m):=by
 obtain⟨B,r⟩:=F.bis o G hr kr hH;have e1:=fM hn m;have e2:=fM hm n;have p:=Pd.ord (ls:=ls) B r (n+m);rw[e1,Nat.add_comm n m,e2] at p;exact p.canon B
variable {α:Type} [DecidableEq α] {iv:α->α}{σ:Type} [DecidableEq σ]
def EW (E:σ->α->σ->Prop):σ->List α->σ->Prop
 |s,[],t=>s=t
 |s,a::x,t=>∃p,E s a p/\EW E p x t
theorem EW.app{E:σ->α->σ->Prop}:∀{s:σ}{x y:List α}{t:σ},EW E s (x++y) t↔∃p,EW E s x p/\EW E p y t
 |s,[],y,t=>⟨fun h=>⟨s,rfl,h⟩,fun⟨p,h1,h2⟩=>by cases h1;exact h2⟩
 |s,a::x,y,t=>by
  constructor
  ·rintro⟨p,h1,h2⟩;obtain⟨q,h3,h4⟩:=EW.app.mp h2;exact⟨q,⟨p,h1,h3⟩,h4⟩
  ·rintro⟨q,⟨p,h1,h2⟩,h3⟩;exact⟨p,h1,EW.app.mpr ⟨q,h2,h3⟩⟩
theorem EW.map{E E':σ->α->σ->Prop}{f:σ->σ}(h:∀s a t,E s a t->E' (f s) a (f t)):∀{x:List α}{s t:σ},EW E s x t->EW E' (f s) x (f t)
 |[],s,t,k=>by cases k;rfl
 |a::x,s,t,k=>by
  obtain⟨p,h1,h2⟩:=k;exact⟨f p,h _ _ _ h1,EW.map h h2⟩
theorem EW.mono{E E':σ->α->σ->Prop}(h:∀s a t,E s a t->E' s a t){x:List α}{s t:σ}(k:EW E s x t):EW E' s x t:=EW.map (f:=id) h k
structure Pre(iv:α->α)(ws:List (List α))(E:σ->α->σ->Prop)(z:σ):Prop where
 sym:∀s a t,E s a t->E t (iv a) s
 cos:∃g:σ->List α,g z=[]/\∀s a t,E s a t->InH iv ws (g s++(a::bN iv (g t)))
 clo:∀w∈ws,EW E z w z
 on:∀s a t,E s a t->∃w∈ws,∃x y,w=x++y/\EW E z x s
section
variable {ws:List (List α)}{E E':σ->α->σ->Prop}{z:σ}
theorem Pre.same(P:Pre iv ws E z)(h:∀s a t,E s a t↔E' s a t):Pre iv ws E' z:=by
 obtain⟨g,g0,hg⟩:=P.cos;refine⟨fun s a t k=>(h _ _ _).mp (P.sym _ _ _ ((h _ _ _).mpr k)),⟨g,g0,fun s a t k=>hg _ _ _ ((h _ _ _).mpr k)⟩,fun w hw=>(P.clo w hw).mono fun s a t k=>(h _ _ _).mp k,fun s a t k=>?_⟩;obtain⟨w,hw,x,y,e,k'⟩:=P.on _ _ _ ((h _ _ _).mpr k);exact⟨w,hw,x,y,e,k'.mono fun s a t k=>(h _ _ _).mp k⟩
def sub (l k:σ)(s:σ):σ:=if s=l then k else s
theorem Pre.merge(o:Ok iv)(P:Pre iv ws E z){p k l:σ}{a:α}(h1:E p a k)(h2:E p a l)(hz:l≠z)(h:∀s a t,E' s a t↔∃s0 t0,E s0 a t0/\sub l k s0=s/\sub l k t0=t):Pre iv ws E' z:=by
 obtain⟨g,g0,hg⟩:=P.cos;have sz:sub l k z=z:=Ho (HI hz);have mp:∀s a t,E s a t->E' (sub l k s) a (sub l k t):=fun s a t e=>(h _ _ _).mpr ⟨s,t,e,rfl,rfl⟩;have lk:InH iv ws (g k++bN iv (g l)):=by
  have c1:=(hg _ _ _ h1).inv o;have c2:=hg _ _ _ h2;have c:=c1.app o c2;refine .eqv ?_ c;rw[dR,cK,de o];rw[Ej,Ej];refine cC o rfl ?_;have e1:=Jb o [iv a] (bN iv (g p)++g p) (a::bN iv (g l)) (IQ o _);rw[Ej] at e1;rw[e1]
  have e2:=Jb o [] [iv a,a] (bN iv (g l)) (by
   have:=IQ o [a]
   exact this)
  exact e2
 have key:∀s,InH iv ws (g (sub l k s)++bN iv (g s)):=fun s=>by
  unfold sub;split
  ·rename_i e;subst e;exact lk
  ·exact .eqv (by rw[jt o];rfl) .one
 refine⟨fun s a t e=>?_,⟨g,g0,fun s a t e=>?_⟩,fun w hw=>?_,fun s a t e=>?_⟩
 ·obtain⟨s0,t0,e0,rfl,rfl⟩:=(h _ _ _).mp e;exact mp _ _ _ (P.sym _ _ _ e0)
 ·obtain⟨s0,t0,e0,rfl,rfl⟩:=(h _ _ _).mp e;have c:=((key s0).app o (hg _ _ _ e0)).app o ((key t0).inv o);refine .eqv ?_ c;rw[dR,de o];have e1:nf iv ((g (sub l k s0)++bN iv (g s0)++(g s0++a::bN iv (g t0)))++(g t0++bN iv (g (sub l k t0))))=nf iv ((g (sub l k s0)++(a::bN iv (g t0)))++(g t0++bN iv (g (sub l k t0)))):=by
   refine cC o ?_ rfl;rw[Ej];have:=Jb o (g (sub l k s0)) (bN iv (g s0)++g s0) (a::bN iv (g t0)) (IQ o _);rw[Ej] at this;exact this
  rw[e1,Ej];refine cC o rfl ?_;have:=Jb o [a] (bN iv (g t0)++g t0) (bN iv (g (sub l k t0))) (IQ o _);rw[Ej] at this;exact this
 ·have:=EW.map mp (P.clo w hw);rw[sz] at this;exact this
 ·obtain⟨s0,t0,e0,rfl,rfl⟩:=(h _ _ _).mp e;obtain⟨w,hw,x,y,rfl,k'⟩:=P.on _ _ _ e0;have:=EW.map mp k';rw[sz] at this;exact⟨_,hw,x,y,rfl,this⟩
theorem EW.walk{d:σ->α->Option σ}(h:∀s a t,E s a t↔d s a=some t):∀{x:List α}{s t:σ},EW E s x t->walk d s x=some t
 |[],s,t,k=>by cases k;rfl
 |a::x,s,t,k=>by
  obtain⟨p,h1,h2⟩:=k;show(d s a).bind _=_;rw[(h _ _ _).mp h1];exact EW.walk h h2
theorem Pre.done(P:Pre iv ws E z){d:σ->α->Option σ}(h:∀s a t,E s a t↔d s a=some t):Fold iv ws d z:=by
 obtain⟨g,g0,hg⟩:=P.cos;refine⟨fun s a t e=>(h _ _ _).mp (P.sym _ _ _ ((h _ _ _).mpr e)),⟨g,g0,fun s a t e=>hg _ _ _ ((h _ _ _).mpr e)⟩,fun w hw=>(P.clo w hw).walk h,fun s a t e=>?_⟩;obtain⟨w,hw,x,y,e',k⟩:=P.on _ _ _ ((h _ _ _).mpr e);exact⟨w,hw,x,y,e',k.walk h⟩
end
section
variable {ws:List (List α)}{E:Nat->α->Nat->Prop}
def st (n m i:Nat):Nat:=if i=0\/m<=i then 0 else n+i-1
def NR (iv:α->α)(E:Nat->α->Nat->Prop)(n:Nat)(w:List α)(s:Nat)(a:α)(t:Nat):Prop:=
 E s a t\/∃i c,w[i]?=some c/\((s=st n w.length i/\a=c/\t=st n w.length (i+1))\/(s=st n w.length (i+1)/\a=iv c/\t=st n w.length i))
theorem Pre.OI(o:Ok iv)(P:Pre iv ws E 0){n:Nat}(hn:1<=n)(hE:∀s a t,E s a t->s<n/\t<n)(w:List α):Pre iv (ws++[w]) (NR iv E n w) 0:=by
 obtain⟨g,g0,hg⟩:=P.cos;have up:∀v∈ws,InH iv (ws++[w]) v:=fun v hv=>.of (Eh _ hv);have st0:∀m,st n m 0=0:=fun m=>Hq (.inl rfl);have stm:st n w.length w.length=0:=Hq (.inr (DP _))
 let G:Nat->List α:=fun s=>if n<=s/\s<n+w.length-1 then w.take (s-n+1) else g s
 have Gold:∀s,s<n->G s=g s:=fun s h=>Ho (by lia);have Gst:∀i,i<w.length->G (st n w.length i)=w.take i:=fun i h=>by
  by_cases hi:i=0
  ·subst hi;rw[st0,Gold 0 (by lia),g0];rfl
  ·have e:st n w.length i=n+i-1:=Ho (by lia);show(if n<=st n w.length i/\st n w.length i<n+w.length-1 then w.take (st n w.length i-n+1) else g (st n w.length i))=_;rw[e,Hq (by lia),show n+i-1-n+1=i by lia]
 have Gend:G (st n w.length w.length)=[]:=by rw[stm,Gold 0 (by lia),g0]
 have cosw:∀i c,w[i]?=some c->InH iv (ws++[w]) (G (st n w.length i)++(c::bN iv (G (st n w.length (i+1))))):=fun i c hc=>by
  obtain⟨hi,e⟩:=DU.mp hc;have et:w.take (i+1)=w.take i++[c]:=by rw[Eo,hc];rfl
  rw[Gst i hi];by_cases hl:i+1<w.length
  ·rw[Gst (i+1) hl,et];refine .eqv ?_ .one;have:w.take i++(c::bN iv (w.take i++[c]))=(w.take i++[c])++bN iv (w.take i++[c]):=by rw[Ej];rfl
   rw[this,jt o];rfl
  ·have hl':i+1=w.length:=by lia
   rw[hl',Gend];have:w.take i++(c::bN iv ([]:List α))=w:=by
    show w.take i++[c]=w;rw[<- et,hl',Ez]
   rw[this];exact .of (DV _ DS)
 have path:∀i,i<=w.length->EW (NR iv E n w) 0 (w.take i) (st n w.length i):=fun i=>by
  induction i with
  |zero=>intro _;rw[st0];rfl
  |succ i ih=>
   intro hi;have hc:w[i]?=some w[i]:=DW (by lia);rw[Eo,hc];exact EW.app.mpr ⟨_,ih (by lia),_,.inr ⟨i,_,hc,.inl ⟨rfl,rfl,rfl⟩⟩,rfl⟩
 refine⟨fun s a t h=>?_,⟨G,by rw[Gold 0 (by lia)];exact g0,fun s a t h=>?_⟩,fun v hv=>?_,fun s a t h=>?_⟩
 ·rcases h with h|⟨i,c,hc,⟨rfl,rfl,rfl⟩|⟨rfl,rfl,rfl⟩⟩
  ·exact .inl (P.sym _ _ _ h)
  ·exact .inr ⟨i,a,hc,.inr ⟨rfl,rfl,rfl⟩⟩
  ·exact .inr ⟨i,c,hc,.inl ⟨rfl,o.inv c,rfl⟩⟩
 ·rcases h with h|⟨i,c,hc,⟨rfl,rfl,rfl⟩|⟨rfl,rfl,rfl⟩⟩
  ·have hb:=hE _ _ _ h;rw[Gold _ hb.1,Gold _ hb.2];exact(hg _ _ _ h).mono o up
  ·exact cosw i a hc
  ·have:=(cosw i c hc).inv o;rw[dR,cK,de o,Ej] at this;exact this
 ·rcases DX.mp hv with hv|hv
  ·exact(P.clo v hv).mono fun _ _ _ h=>.inl h
  ·rw[Ei.mp hv];have:=path w.length (DP _);rw[Ez,stm] at this;exact this
 ·rcases h with h|⟨i,c,hc,⟨rfl,rfl,rfl⟩|⟨rfl,rfl,rfl⟩⟩
  ·obtain⟨v,hv,x,y,e,k⟩:=P.on _ _ _ h;exact⟨v,Eh _ hv,x,y,e,k.mono fun _ _ _ h=>.inl h⟩
  ·have hi:=(DU.mp hc).1;exact⟨w,DV _ DS,w.take i,w.drop i,(GD i w).symm,path i (by lia)⟩
  ·have hi:=(DU.mp hc).1;exact⟨w,DV _ DS,w.take (i+1),w.drop (i+1),(GD (i+1) w).symm,path (i+1) (by lia)⟩
theorem Pre.none(z:σ):Pre iv [] (fun(_:σ) (_:α) (_:σ)=>False) z:=⟨fun _ _ _ h=>False.elim h,⟨fun _=>[],rfl,fun _ _ _ h=>False.elim h⟩,(fun _ h=>nomatch h),fun _ _ _ h=>False.elim h⟩
end
end FG
namespace K3
open PySem PySem.Spec PyProof.Rows L2
section
variable {P:Program}{w:World}{K:PySem.W.Frag}{mg:Str->Option Value}{base:Heap}
def iv4 (a:Fin 4):Fin 4:=⟨(a.val+2) % 4,Fj _ (by decide)⟩
theorem IH:FG.Ok iv4:=⟨by decide,by decide⟩
abbrev Tr:=Nat×Nat×Nat
def Ew (f:Lm)(wt:List Tr)(s:Nat)(a:Fin 4)(t:Nat):Prop:=lk f s a.val=some t\/(s,a.val,t)∈wt\/(t,(a.val+2) % 4,s)∈wt
theorem jD{f:Lm}{s p e:Nat}(h:je f s p e=none):lk f s p=none/\lk f e ((p+2) % 4)=none:=by
 unfold je at h;cases h1:lk f s p with
 |some o=>rw[h1] at h;cases h
 |none=>
  rw[h1] at h;cases h2:lk f e ((p+2) % 4) with
  |some o=>rw[h2] at h;cases h
  |none=>exact⟨rfl,rfl⟩
theorem dk{f:Lm}{s p e a b:Nat}(h:je f s p e=some (a,b)):(lk f s p=some a/\b=e)\/(lk f s p=none/\lk f e ((p+2) % 4)=some a/\b=s):=by
 unfold je at h;cases h1:lk f s p with
 |some o=>rw[h1] at h;injection h with h;injection h with h2 h3;exact .inl ⟨by rw[h2],h3.symm⟩
 |none=>
  rw[h1] at h;cases h2:lk f e ((p+2) % 4) with
  |some o=>rw[h2] at h;injection h with h;injection h with h3 h4;exact .inr ⟨rfl,by rw[h3],h4.symm⟩
  |none=>rw[h2] at h;cases h
def rP (f:Lm)(s p e:Nat):Lm:=ia (ia f s p (some e)) e ((p+2) % 4) (some s)
theorem lB{f:Lm}{s p e x q:Nat}(fs:f s≠none)(fe:f e≠none):lk (rP f s p e) x q=if x=e/\q=(p+2) % 4 then some s else if x=s/\q=p then some e else lk f x q:=by
 unfold rP;rw[jO (fun z=>fe (Ie.mp z)),jO fs]
theorem uR{f:Lm}{s p e:Nat}(hp:p<4)(y:Sym f)(fs:f s≠none)(fe:f e≠none)(h:je f s p e=none):Sym (rP f s p e):=by
 obtain⟨h1,h2⟩:=jD h;intro a b c hb hl;rw[lB fs fe] at hl;rw[lB fs fe];by_cases c1:a=e/\b=(p+2) % 4
 ·rw[Hq c1] at hl;injection hl with hl;subst hl;obtain⟨rfl,rfl⟩:=c1;rw[iT hp,Ho (fun z=>by lia),Hq ⟨rfl,rfl⟩]
 ·rw[Ho c1] at hl;by_cases c2:a=s/\b=p
  ·rw[Hq c2] at hl;injection hl with hl;subst hl;obtain⟨rfl,rfl⟩:=c2;rw[Hq ⟨rfl,rfl⟩]
  ·rw[Ho c2] at hl;have k:=y a b c hb hl;by_cases c3:c=e/\(b+2) % 4=(p+2) % 4
   ·rw[c3.1,c3.2,h2] at k;cases k
   ·rw[Ho c3];by_cases c4:c=s/\(b+2) % 4=p
    ·rw[c4.1,c4.2,h1] at k;cases k
    ·rw[Ho c4];exact k
theorem xN{f:Lm}{wt wt':List Tr}{s p e:Nat}(hp:p<4)(fs:f s≠none)(fe:f e≠none)(h:je f s p e=none)(hm:∀t,t∈wt↔t=(s,p,e)\/t∈wt')(x:Nat)(a:Fin 4)(t:Nat):Ew f wt x a t↔Ew (rP f s p e) wt' x a t:=by
 obtain⟨h1,h2⟩:=jD h;have ha:=a.isLt;unfold Ew;rw[lB fs fe,hm,hm];constructor
 ·rintro (k|(k|k)|(k|k))
  ·left
   by_cases c1:x=e/\a.val=(p+2) % 4
   ·rw[c1.1,c1.2,h2] at k;cases k
   ·rw[Ho c1];by_cases c2:x=s/\a.val=p
    ·rw[c2.1,c2.2,h1] at k;cases k
    ·rw[Ho c2];exact k
  ·injection k with k1 k;injection k with k2 k3
   left
   by_cases c1:x=e/\a.val=(p+2) % 4
   ·lia
   ·rw[Ho c1,Hq ⟨k1,k2⟩,k3]
  ·exact .inr (.inl k)
  ·injection k with k1 k;injection k with k2 k3
   left
   rw[Hq ⟨k3,by lia⟩,k1]
  ·exact .inr (.inr k)
 ·rintro (k|k|k)
  ·by_cases c1:x=e/\a.val=(p+2) % 4
   ·rw[Hq c1] at k;injection k with k;refine .inr (.inr (.inl ?_));rw[<- k,c1.1,show(a.val+2) % 4=p by lia]
   ·rw[Ho c1] at k;by_cases c2:x=s/\a.val=p
    ·rw[Hq c2] at k;injection k with k;exact .inr (.inl (.inl (by rw[c2.1,c2.2,k])))
    ·rw[Ho c2] at k;exact .inl k
  ·exact .inr (.inl (.inr k))
  ·exact .inr (.inr (.inr k))
theorem uT{f:Lm}{wt wt':List Tr}{s p e a:Nat}(hp:p<4)(y:Sym f)(h:je f s p e=some (a,a))(hm:∀t,t∈wt↔t=(s,p,e)\/t∈wt')(x:Nat)(b:Fin 4)(t:Nat):Ew f wt x b t↔Ew f wt' x b t:=by
 have hb:=b.isLt;have l1:lk f s p=some e:=by
  rcases dk h with ⟨k1,k2⟩|⟨_,k1,k2⟩
  ·rw[k1,k2]
  ·have:=y _ _ _ (Fj _ (by decide)) k1;rw[iT hp,k2] at this;exact this
 unfold Ew;rw[hm,hm];constructor
 ·rintro (k|(k|k)|(k|k))
  ·exact .inl k
  ·injection k with k1 k;injection k with k2 k3
   left;rw[k1,k2,k3];exact l1
  ·exact .inr (.inl k)
  ·injection k with k1 k;injection k with k2 k3
   left
   have:=y _ _ _ hp l1;rw[k1,k3,show b.val=(p+2) % 4 by lia];exact this
  ·exact .inr (.inr k)
 ·rintro (k|k|k)
  ·exact .inl k
  ·exact .inr (.inl (.inr k))
  ·exact .inr (.inr (.inr k))
theorem qH{l k x:Nat}(h:x≠l):sb l k x=x:=Ho h
theorem xE{l k:Nat}:sb l k l=k:=Hq rfl
def jZ (f:Lm)(l:Nat):Lm:=fun x=>if x=l then none else f x
theorem md{f:Lm}{l:Nat}(no:∀p,lk f l p=none)(x p:Nat):lk (jZ f l) x p=lk f x p:=by
 by_cases h:x=l
 ·subst h;rw[no p];unfold lk jZ;rw[Hq rfl];rfl
 ·unfold lk jZ;rw[Ho h]
structure Gd(f:Lm)(wt:List Tr):Prop where
 sym:Sym f
 lt:∀s p e,lk f s p=some e->p<4
 w:∀t∈wt,t.2.1<4/\f t.1≠none/\f t.2.2≠none
theorem Gd.e{f:Lm}{wt:List Tr}(g:Gd f wt){s p e:Nat}(h:lk f s p=some e):f e≠none:=mB (g.sym _ _ _ (g.lt _ _ _ h) h)
section
variable {f f':Lm}{wt wt' ts:List Tr}{s p e a b k l:Nat}
theorem gk(g:Gd f wt)(L:Lif f l ts f')(no:∀p,lk f' l p=none)(us:List Tr)(hu:∀t∈ts,t∈us){x:Nat}{c:Fin 4}{t:Nat}(h:lk f x c.val=some t):Ew (jZ f' l) (us.map (mvT l k)) (sb l k x) c (sb l k t):=by
 unfold Ew;rw[md no];rcases L.all x c.val t c.isLt h with q|q|q
 ·left
  rw[qH (fun z=>by rw[z,no] at q;cases q),qH (fun z=>by have:=L.sym _ _ _ c.isLt q;rw[z,no] at this;cases this)];exact q
 ·exact .inr (.inl (Em.mpr ⟨_,hu _ q,rfl⟩))
 ·exact .inr (.inr (Em.mpr ⟨_,hu _ q,rfl⟩))
theorem wg(hk:(if b=0 then (b,a) else (a,b))=(k,l)):sb l k a=k/\sb l k b=k:=by
 by_cases h:b=0
 ·rw[Hq h] at hk;injection hk with h1 h2;subst h1 h2;exact⟨xE,by unfold sb;split<;>rfl⟩
 ·rw[Ho h] at hk;injection hk with h1 h2;subst h1 h2;exact⟨by unfold sb;split<;>rfl,xE⟩
theorem nX(hk:(if b=0 then (b,a) else (a,b))=(k,l))(n:a≠b):l≠0/\k≠l:=by
 by_cases h:b=0
 ·rw[Hq h] at hk;injection hk with h1 h2;lia
 ·rw[Ho h] at hk;injection hk with h1 h2;lia
theorem rQ(g:Gd f wt)(h:je f s p e=some (a,b))(hp:p<4)(hk:(if b=0 then (b,a) else (a,b))=(k,l))(hm:∀t,t∈wt↔t=(s,p,e)\/t∈wt')(L:Lif f l ts f')(no:∀p,lk f' l p=none)(x:Nat)(c:Fin 4)(t:Nat) :
  Ew (jZ f' l) ((wt'++ts).map (mvT l k)) x c t↔∃s0 t0,Ew f wt s0 c t0/\FG.sub l k s0=x/\FG.sub l k t0=t:=by
 have hc:=c.isLt;obtain⟨ka,kb⟩:=wg hk;have hu:∀t∈ts,t∈wt'++ts:=fun t ht=>DV _ ht;constructor
 ·rintro (q|q|q)
  ·rw[md no] at q;refine⟨x,t,.inl (L.sub _ _ _ q),qH (fun z=>by rw[z,no] at q;cases q),qH (fun z=>by have:=L.sym _ _ _ hc q;rw[z,no] at this;cases this)⟩
  ·obtain⟨⟨s0,c0,t0⟩,m,ee⟩:=Em.mp q;injection ee with e1 ee;injection ee with e2 e3
   replace e2:c0=c.val:=e2
   subst e2;refine⟨s0,t0,?_,e1,e3⟩;rcases DX.mp m with m|m
   ·exact .inr (.inl ((hm _).mpr (.inr m)))
   ·exact .inl (L.tell _ m).2.2
  ·obtain⟨⟨t0,c0,s0⟩,m,ee⟩:=Em.mp q;injection ee with e1 ee;injection ee with e2 e3
   replace e2:c0=(c.val+2) % 4:=e2
   subst e2;refine⟨s0,t0,?_,e3,e1⟩;rcases DX.mp m with m|m
   ·exact .inr (.inr ((hm _).mpr (.inr m)))
   ·have:=g.sym _ _ _ (Fj _ (by decide)) (L.tell _ m).2.2
    replace this:lk f s0 (((c.val+2) % 4+2) % 4)=some t0:=this
    rw[iT hc] at this;exact .inl this
 ·rintro⟨s0,t0,q,e1,e2⟩
  replace e1:sb l k s0=x:=e1
  replace e2:sb l k t0=t:=e2
  rw[<- e1,<- e2];rcases q with q|q|q
  ·exact gk g L no _ hu q
  ·rcases (hm _).mp q with z|z
   ·injection z with z1 z;injection z with z2 z3;subst z1 z3;rcases dk h with ⟨m1,m2⟩|⟨_,m1,m2⟩
    ·rw[<- z2] at m1;have:=gk (k:=k) g L no _ hu m1;rw[ka.trans kb.symm,m2] at this;exact this
    ·have m3:=g.sym _ _ _ (Fj _ (by decide)) m1;rw[iT hp,<- z2] at m3;have:=gk (k:=k) g L no _ hu m3;rw[ka.trans kb.symm,m2] at this;exact this
   ·exact .inr (.inl (Em.mpr ⟨_,Eh _ z,rfl⟩))
  ·rcases (hm _).mp q with z|z
   ·injection z with z1 z;injection z with z2 z3;subst z1 z3;have ec:c.val=(p+2) % 4:=by lia
    rcases dk h with ⟨m1,m2⟩|⟨_,m1,m2⟩
    ·have m3:=g.sym _ _ _ hp m1;rw[<- ec] at m3;have:=gk (k:=k) g L no _ hu m3;rw[ka.trans kb.symm,m2] at this;exact this
    ·rw[<- ec] at m1;have:=gk (k:=k) g L no _ hu m1;rw[ka.trans kb.symm,m2] at this;exact this
   ·exact .inr (.inr (Em.mpr ⟨_,Eh _ z,rfl⟩))
theorem tZ(g:Gd f wt)(h:je f s p e=some (a,b))(hp:p<4)(hm:(s,p,e)∈wt):∃x,∃c:Fin 4,Ew f wt x c a/\Ew f wt x c b:=by
 rcases dk h with ⟨m1,m2⟩|⟨_,m1,m2⟩
 ·exact⟨s,⟨p,hp⟩,.inl m1,.inr (.inl (by rw[m2];exact hm))⟩
 ·exact⟨e,⟨(p+2) % 4,Fj _ (by decide)⟩,.inl m1,.inr (.inr (by
   show(b,((p+2) % 4+2) % 4,e)∈wt
   rw[iT hp,m2]; exact hm))⟩
theorem nA{ws:List (List (Fin 4))}(P:FG.Pre iv4 ws (Ew f wt) 0)(g:Gd f wt)(h:je f s p e=some (a,b))(n:a≠b)(hp:p<4)(hk:(if b=0 then (b,a) else (a,b))=(k,l))(hm:∀t,t∈wt↔t=(s,p,e)\/t∈wt')(L:Lif f l ts f')(no:∀p,lk f' l p=none):FG.Pre iv4 ws (Ew (jZ f' l) ((wt'++ts).map (mvT l k))) 0:=by
 obtain⟨x,c,ha,hb⟩:=tZ g h hp ((hm _).mpr (.inl rfl));have h2:Ew f wt x c k/\Ew f wt x c l:=by
  by_cases z:b=0
  ·rw[Hq z] at hk;injection hk with e1 e2;rw[<- e1,<- e2];exact⟨hb,ha⟩
  ·rw[Ho z] at hk;injection hk with e1 e2;rw[<- e1,<- e2];exact⟨ha,hb⟩
 exact P.merge IH h2.1 h2.2 (nX hk n).1 (rQ g h hp hk hm L no)
theorem rN(g:Gd f wt)(h:je f s p e=some (a,b))(n:a≠b)(hp:p<4)(hk:(if b=0 then (b,a) else (a,b))=(k,l))(hm:∀t,t∈wt↔t=(s,p,e)\/t∈wt')(L:Lif f l ts f')(no:∀p,lk f' l p=none)(fk:f k≠none):Gd (jZ f' l) ((wt'++ts).map (mvT l k)):=by
 have dm:∀x,f x≠none->jZ f' l (sb l k x)≠none:=fun x hx=>by
  unfold jZ sb;by_cases z:x=l
  ·rw[Hq z,Ho (nX hk n).2];exact fun q=>fk ((L.dom k).mp q)
  ·rw[Ho z,Ho z];exact fun q=>hx ((L.dom x).mp q)
 refine⟨fun x q t hq ht=>?_,fun x q t ht=>?_,fun t ht=>?_⟩
 ·rw[md no] at ht ⊢;exact L.sym _ _ _ hq ht
 ·rw[md no] at ht;exact g.lt _ _ _ (L.sub _ _ _ ht)
 ·obtain⟨⟨s0,c0,t0⟩,m,rfl⟩:=Em.mp ht;rcases DX.mp m with m|m
  ·obtain⟨w1,w2,w3⟩:=g.w _ ((hm _).mpr (.inr m));exact⟨w1,dm _ w2,dm _ w3⟩
  ·obtain⟨w1,w2,w3⟩:=L.tell _ m;exact⟨w2,dm _ (mB w3),dm _ (g.e w3)⟩
theorem ur(g:Gd f wt)(hm:∀t,t∈wt↔t=(s,p,e)\/t∈wt'):Gd f wt':=⟨g.sym,g.lt,fun t ht=>g.w t ((hm t).mpr (.inr ht))⟩
theorem wO(g:Gd f wt)(h:je f s p e=none)(hm:∀t,t∈wt↔t=(s,p,e)\/t∈wt'):Gd (rP f s p e) wt':=by
 obtain⟨hp,fs,fe⟩:=g.w _ ((hm _).mpr (.inl rfl));refine⟨uR hp g.sym fs fe h,fun x q t ht=>?_,fun t ht=>?_⟩
 ·rw[lB fs fe] at ht;by_cases c1:x=e/\q=(p+2) % 4
  ·rw[c1.2];exact Fj _ (by decide)
  ·rw[Ho c1] at ht;by_cases c2:x=s/\q=p
   ·rw[c2.2];exact hp
   ·rw[Ho c2] at ht;exact g.lt _ _ _ ht
 ·obtain⟨w1,w2,w3⟩:=g.w t ((hm t).mpr (.inr ht));exact⟨w1,fun z=>w2 (Ie.mp (Ie.mp z)),fun z=>w3 (Ie.mp (Ie.mp z))⟩
end
def cnt (f:Lm)(n:Nat):Nat:=((List.range n).filter fun x=>(f x).isSome).length
theorem ji{α:Type}{P R:α->Bool}:∀{xs:List α}{y:α},(∀x,R x=true->P x=true)->y∈xs->P y=true->R y=false->(xs.filter R).length<(xs.filter P).length
 |x::xs,y,h,m,hy,hn=>by
  have le:∀zs:List α,(zs.filter R).length<=(zs.filter P).length:=fun zs=>by
   induction zs with
   |nil=>exact DP _
   |cons z zs ih=>
    rw[EK,EK];by_cases hr:R z=true
    ·rw[Hq hr,Hq (h z hr)];exact HM ih
    ·rw[Ho hr];split
     ·exact Fe ih
     ·exact ih
  rw[EK,EK];by_cases e:y=x
  ·subst e;rw[Hq hy,Ho (by rw[hn];decide)];exact Nat.lt_succ_of_le (le xs)
  ·have ih:=ji h ((Eb.mp m).resolve_left e) hy hn;by_cases hr:R x=true
   ·rw[Hq hr,Hq (h x hr)];exact GV ih
   ·rw[Ho hr];split
    ·exact Fn ih
    ·exact ih
theorem uQ{f f':Lm}{l n:Nat}(d:∀x,f' x=none↔f x=none)(hl:f l≠none)(hn:l<n):cnt (jZ f' l) n<cnt f n:=by
 refine ji (y:=l) (fun x hx=>?_) (Es.mpr hn) ?_ ?_
 ·unfold jZ at hx;by_cases e:x=l
  ·rw[Hq e] at hx;cases hx
  ·rw[Ho e] at hx;cases h:f x with
   |none=>rw[(d x).mpr h] at hx;cases hx
   |some g=>rfl
 ·cases h:f l with
  |none=>exact absurd h hl
  |some g=>rfl
 ·unfold jZ;rw[Hq rfl];rfl
theorem nh{f:Lm}{s p e n:Nat}:cnt (rP f s p e) n=cnt f n:=by
 unfold cnt
 congr 1
 refine List.filter_congr fun x _=>?_;have:rP f s p e x=none↔f x=none:=Ie.trans Ie;cases h:f x with
 |none=>rw[this.mpr h]
 |some g=>
  cases h2:rP f s p e x with
  |none=>rw[this.mp h2] at h;cases h
  |some g2=>rfl
section
variable {H:Hp}{q:Addr}{x:V}{xs:List V}{o:HO}
theorem Rw.lst{v:V}(hq:H q=some (.lst (x::xs))):Rw H v->Rw (upd H q o) v:=fun⟨r,e,h⟩=>⟨r,e,by
 rw[au (fun z=>by rw[z,hq] at h;cases h)];exact h⟩
theorem Wy.lst{v:V}{t:Nat×Nat×Nat}(hq:H q=some (.lst (x::xs))):Wy H v t->Wy (upd H q o) v t:=fun⟨a,r,e,h,h2⟩=>⟨a,r,e,by
 rw[au (fun z=>by rw[z,hq] at h;cases h)];exact h,h2.lst hq⟩
theorem En.lst{v:V}{e:Nat}(hq:H q=some (.lst (x::xs))):En H v e->En (upd H q o) v e:=fun⟨a,r,e,h,h2⟩=>⟨a,r,e,by
 rw[au (fun z=>by rw[z,hq] at h;cases h)];exact h,h2.lst hq⟩
theorem Pl.lst{d:Addr}{g:Nat->Option Nat}(hq:H q=some (.lst (x::xs))):Pl H d g->Pl (upd H q o) d g
 | ⟨pvs,h1,h2,h3,h4,h5⟩=>⟨pvs,by rw[au (fun z=>by rw[z,hq] at h1; cases h1)]; exact h1,h2,h3,h4,fun p e hg=>by
  obtain⟨v,a,b⟩:=h5 p e hg
  exact⟨v,a,b.lst hq⟩⟩
theorem Laid.lst{L:Addr}{f:Lm}(hq:H q=some (.lst (x::xs))):Laid H L f->Laid (upd H q o) L f
 | ⟨kvs,h1,h2,h3,h4,D,h5,h6⟩=>⟨kvs,by rw[au (fun z=>by rw[z,hq] at h1; cases h1)]; exact h1,h2,h3,h4,D,fun s g e=>by
  obtain⟨a,b,c⟩:=h5 s g e
  exact⟨a,b.lst hq,c⟩,h6⟩
end
theorem eM{κ:Type} [DecidableEq κ]{k:κ}:∀{kvs:List (κ×V)},k∈kvs.map (·.1)->∃v,bg kvs k=some v
 |p::r,h=>by
  by_cases e:p.1=k
  ·exact⟨_,aO e⟩
  ·rw[aK e];rw[Ex] at h;exact eM ((Eb.mp h).resolve_left fun z=>e z.symm)
theorem Laid.new{H:Hp}{L d:Addr}{f:Lm}{s n:Nat}(h:Laid H L f)(hd:H d=none)(hn:∀x,n<=x->f x=none)(n1:n<=1000):∃H',Lg (upd H d (.dK [])) L (.int (s:Nat)) (.ref d) H'/\Laid H' L (fun x=>if x=s then some (fun _=>none) else f x)/\Kp H H':=by
 obtain⟨kvs,h1,h2,h3,h4,D,h5,h6⟩:=h;have nL:L≠d:=fun z=>by rw[z,hd] at h1;cases h1
 have S:=ao hd (.dK []);have h1':=S _ _ h1;obtain⟨k1,k2⟩:=lT (k:=(.inl (s:Int):Key)) (v:=.ref d) h2;have hlen:kvs.length<=n:=by
  have:=List.Nodup.length_le_of_subset h2 (l₂:=(List.range n).map fun (i:Nat)=>(Sum.inl (i:Int):Key)) (fun x hx=>by
   obtain⟨t,rfl⟩:=h3 x hx;refine Em.mpr ⟨t,Es.mpr (GG fun z=>?_),rfl⟩;obtain⟨v,hv⟩:=eM hx
   rw[h4 t (hn t z)] at hv; cases hv)
  rw[DQ,DQ,EG] at this;exact this
 have kp:Kp (upd H d (.dK [])) (upd (upd H d (.dK [])) L (.dK (cB kvs (.inl (s:Int)) (.ref d)))):=jA h1';have kp0:=(Kp.of S).trans kp;have dD:∀t g,f t=some g->D t≠d:=fun t g e z=>by
  obtain⟨_,⟨pvs,b1,_⟩,_⟩:=h5 t g e;rw[z,hd] at b1;cases b1
 refine⟨_,.inl ⟨kvs,.inl (s:Int),h1',rfl,Fi (Ee hlen n1) (by decide),rfl⟩,⟨_,af,k1,fun x hx=>?_,fun t ht=>?_,fun t=>if t=s then d else D t,fun t g ht=>?_,fun t u ht hu e=>?_⟩,kp0⟩
 ·rcases k2 x hx with rfl|z
  ·exact⟨s,rfl⟩
  ·exact h3 x z
 ·replace ht:(if t=s then some (fun _=>none) else f t)=none:=ht
  by_cases z:t=s
  ·rw[Hq z] at ht;cases ht
  ·rw[Ho z] at ht;rw[bj,Ho (gM z)];exact h4 t ht
 ·replace ht:(if t=s then some (fun _=>none) else f t)=some g:=ht
  by_cases z:t=s
  ·subst z;rw[Hq rfl] at ht;injection ht with ht;subst ht;dsimp only;rw[Hq rfl];refine⟨by rw[bj,Hq rfl],⟨[],by rw[au (HI nL)];exact af,Gi,fun x hx=>(by cases hx),fun _ _=>rfl,fun _ _ q=>(by cases q)⟩,HI nL⟩
  ·rw[Ho z] at ht;obtain⟨a,b,c⟩:=h5 t g ht;dsimp only;rw[Ho z];exact⟨by rw[bj,Ho (gM z)];exact a,b.mv kp0 (by rw[au c,au (dD t g ht)]),c⟩
 ·replace e:(if t=s then d else D t)=(if u=s then d else D u):=e
  have up:∀t,(if t=s then some (fun _=>none) else f t)≠none->t≠s->f t≠none:=fun t h z=>by rw[Ho z] at h;exact h
  by_cases z1:t=s
  ·by_cases z2:u=s
   ·rw[z1,z2]
   ·rw[Hq z1,Ho z2] at e;obtain⟨g,hg⟩:=EM.mp (up u hu z2);exact absurd e.symm (dD u g hg)
  ·by_cases z2:u=s
   ·rw[Ho z1,Hq z2] at e;obtain⟨g,hg⟩:=EM.mp (up t ht z1);exact absurd e (dD t g hg)
   ·rw[Ho z1,Ho z2] at e;exact h6 t u (up t ht z1) (up u hu z2) e
def tdt (t:Tr):PyData:=.tuple [.int (t.1:Nat),.int (t.2.1:Nat),.int (t.2.2:Nat),.list []]
theorem Wy.dat{H:Hp}{v:V}{t:Tr}:Wy H v t->IY K H v (tdt t)
 |⟨a,r,e,h,⟨b,e2,h2⟩⟩=>by
  subst e e2;exact .tup (SqT.of h) (.cons (.int _) (.cons (.int _) (.cons (.int _) (.cons (.lst (SqL.of h2) .nil) .nil))))
theorem om{H:Hp}:∀{us:List V}{ut:List Tr},Wys H us ut->DatAll K H us (ut.map tdt)
 |_,_,.nil=>.nil
 |_,_,.cons p q=>.cons (Wy.dat p) (om q)
theorem qw(t:Tr):(tdt t).canLay0=true:=rfl
theorem LJ:∀ut:List Tr,PyData.canLayAll0 (ut.map tdt)=true
 |[]=>rfl
 |t::r=>FI.mpr ⟨qw t,LJ r⟩
theorem ql(t u:Tr):PyData.eqv (tdt t) (tdt u)=decide (t=u):=by
 obtain⟨a,b,c⟩:=t;obtain⟨a',b',c'⟩:=u;show(decide ((a:Int)=a')&&(decide ((b:Int)=b')&&(decide ((c:Int)=c')&&true)))=_;rw[HL];simp only[Ey,decide_eq_true_eq,Prod.mk.injEq,and_true];lia
theorem KH:∀{ut:List Tr}{t:Tr},t∈ut->∃j:Nat,ut[j]?=some t/\∀(m:Nat) u,m<j->ut[m]?=some u->u≠t
 |x::r,t,h=>by
  by_cases e:x=t
  ·exact⟨0,by rw[e];rfl,fun m u hm=>absurd hm (FU _)⟩
  ·obtain⟨j,h1,h2⟩:=KH ((Eb.mp h).resolve_left fun z=>e z.symm);refine⟨j+1,by simpa using h1,fun m u hm hu=>?_⟩;cases m with
   |zero=>simp at hu;rw[<- hu];exact e
   |succ m=>exact h2 m u (Nat.lt_of_succ_lt_succ hm) (by simpa using hu)
theorem MA:∀{ut:List Tr}{t:Tr}{j:Nat},ut[j]?=some t->∀x,x∈ut↔x=t\/x∈ut.eraseIdx j
 |y::r,t,0,h,x=>by simp at h;subst h;simp
 |y::r,t,j+1,h,x=>by
  have:=MA (ut:=r) (t:=t) (j:=j) (by simpa using h) x;rw[Eb,this,List.eraseIdx_cons_succ,Eb];constructor
  ·rintro (a|a|a)
   ·exact .inr (.inl a)
   ·exact .inl a
   ·exact .inr (.inr a)
  ·rintro (a|a|a)
   ·exact .inr (.inl a)
   ·exact .inl a
   ·exact .inr (.inr a)
theorem nU{α β:Type}{F:α->β->Prop}:∀{a:List α}{b:List β}(j:Nat),Paired F a b->Paired F (a.eraseIdx j) (b.eraseIdx j)
 |_,_,_,.nil=>.nil
 |_,_,0,.cons _ q=>q
 |_,_,j+1,.cons p q=>.cons p (nU j q)
theorem me{H:Hp}:∀{us:List V}{ut:List Tr},Wys H us ut->∃ks:List Addr,us=ks.map V.ref/\∀a∈ks,∃t∈ut,Wy H (.ref a) t
 |_,_,.nil=>⟨[],rfl,fun _ h=>by cases h⟩
 |_,_,.cons p q=>by
  obtain⟨ks,rfl,h⟩:=me q;obtain⟨a,r,rfl,p2⟩:=p;refine⟨a::ks,rfl,fun b hb=>?_⟩;rcases Eb.mp hb with rfl|hb
  ·exact⟨_,DS,_,r,rfl,p2⟩
  ·obtain⟨t,ht,hw⟩:=h b hb;exact⟨t,Eg _ ht,hw⟩
theorem xH(f:Lm)(n:Nat):cnt f n<=n:=by
 have:=FO (fun x=>(f x).isSome) (List.range n);rw[EG] at this;exact this
theorem qO{H:Hp}{L:Addr}(h:H L=none):Laid (upd H L (.dK [])) L (fun _=>none):=⟨[],af,Gi,fun _ h=>(by cases h),fun _ _=>rfl,fun _=>L,fun _ _ e=>(by cases e),fun _ _ e=>absurd rfl e⟩
theorem qQ{f:Lm}{wt:List Tr}(h0:∀x,f x=none\/f x=some fun _=>none)(hw:∀t∈wt,t.2.1<4/\f t.1≠none/\f t.2.2≠none):Gd f wt/\∀s a t,Ew (fun _=>none) wt s a t↔Ew f wt s a t:=by
 have hl:∀s p,lk f s p=none:=fun s p=>by
  unfold lk;rcases h0 s with h|h<;>rw[h]<;>rfl
 refine⟨⟨fun s p e _ h=>(by rw[hl] at h;cases h),fun s p e h=>(by rw[hl] at h;cases h),hw⟩,fun s a t=>?_⟩;unfold Ew;rw[hl];rfl
def FolI (H:Hp)(B L R:Addr)(n:Nat)(wd:List (List (Fin 4)))(m:Nat)(σ':L2.St)(H':Hp):Prop:=∃q us ut f c4 c5 c6 c7 c8 c9,σ'=[some (.ref B),some (.ref L),some (.ref R),some (.ref q),c4,c5,c6,c7,c8,c9]/\Kp H H'/\H' q=some (.lst us)/\Le H q/\Wys H' us ut/\Laid H' L f/\Gd f ut/\f 0≠none/\(∀x,n<=x->f x=none)/\FG.Pre iv4 wd (Ew f ut) 0/\ut.length+5*cnt f n<=m/\ut.length+4*cnt f n<=500
def Oq:Sp:=fun vs H Q _=>∃B ws wt,∃n:Nat,∃wd:List (List (Fin 4)),vs=[.ref B]/\H B=some (.lst ws)/\Wys H ws wt/\wt.length<=100/\1<=n/\n<=100/\(∀t∈wt,t.1<n/\t.2.1<4/\t.2.2<n/\(t.2.2=0\/∃u∈wt,u.1=t.2.2)) /\
 FG.Pre iv4 wd (Ew (fun _=>none) wt) 0/\∀y a r L f H',Kp H H'->y=.ref a->H' a=some (.tup [.ref L,r])->Laid H' L f->FG.Pre iv4 wd (Ew f []) 0->Gd f []->f 0≠none->(∀x,n<=x->f x=none)->Q y H'
theorem yF{dm dl dg dr d:DD}(BF:(dg "meeting_of" 16 ["laid","way"] dm 3 Oj))(BC:(dg "lay" 12 ["laid","way"] dl 3 OO))(BE:(dg "merged" 15 ["laid","waiting","meeting"] dg 4 OL))(Bl:(dg "row_length" 17 ["way"] dr 1 Oy))(D:Def K mg "folded" (top 18) ["ways"] d)(Az:mg "min"=none)(Ao:mg "list"=none):(fk 5 d ["ways"] Oq):=by
 exists["ways","laid","relations","waiting","start","place","end","row","way","meeting"]
 obtain⟨B,ws,wt,n,wd,rfl,hB,hw,hl,hn1,hn,hin,hP,q⟩:=h;refine⟨_,(ae (aw 1 (fq (bF (ah _) (@KY _ _) (fh _)) (by simp))) (ae (bE (bp (0)) (cj (ax (ar 4) (ax (ar 5) (ax (ar 6) (ax (ar 7) (Ip _)))))) (aq (fA (bK hr) (1) (4) (@KY _ _)))) (ae (aw 2 (aY (Ii _))) (ae (aw 3 (bS IM Ao Jk (aL (0) aC))) (ae (dM (kO (3)) (ae (aw 8 (pB (qo (q:=dr.f) hc) Az Lb (aL (3) aC) (@uS _ _ _ _ _ _ _ (gH (.ref dr.f) Bl.1.m rfl) (@OE _)))) (ae (aV (fG HD PySem.F.slot_list_remove PySem.F.type_list_remove (oz hr.units) (3) (aL (8) aC))) (ae (aw 9 (bz BF.1 BF.2 (ag (1) (aL (8) aC) aC))) (aq (br (aB Kd (9) (bR _) (aD _)) (aq (aV (bz BC.1 BC.2 (ag (1) (aL (8) aC) aC)))) (aq (br (aB Jp (aN Il (9) (ah _)) (aN Il (9) (ah _)) (aD _)) (aq (aw 3 (bz BE.1 BE.2 (ag (1) (ag (3) (aL (9) aC) aC) aC)))) (aq (br (kO (aN Il (9) (ah _))) (aq (aV (cE (2) (aN Il (9) (ah _)) (by rfl)))) (HZ _))))))))))) (aq (aH (bh (ag (1) (aL (2) aC) aC))))))))),?_⟩
 walk_at "d"
 refine fun L hL0 d0 hd0=>⟨?_,[(.inl 0,.ref d0)],rfl,(by show 1<=15;decide),?_⟩
 ·rw[au (fun z=>by rw[z,af] at hd0;cases hd0)];exact af
 have nL:L≠d0:=fun z=>by rw[z,af] at hd0;cases hd0
 obtain⟨H1,hput,hl1,kp1⟩:=(qO hL0).new (s:=0) (n:=1) hd0 (fun _ _=>rfl) (by decide);have e1:H1=upd (upd (upd H L (.dK [])) d0 (.dK [])) L (.dK (bL [] [(.inl 0,.ref d0)])):=by
  rcases hput with ⟨kvs,k,a1,a2,_,rfl⟩|⟨kvs,k,b,a1,_⟩
  ·rw[au nL,af] at a1;injection a1 with a1;injection a1 with a1;subst a1;cases k with
   |inl i=>injection a2 with a2;subst a2;rfl
   |inr x=>cases a2
  ·rw[au nL,af] at a1;injection a1 with a1;cases a1
 subst e1;have kpH:=(Kp.of (ao hL0 (.dK []))).trans kp1;have nl:∀xs:List V,∀kvs,HO.lst xs≠.dK kvs:=fun _ _ e=>by cases e
 refine⟨_,rfl,B,rfl,⟨_,SqL.of (kpH _ _ hB (nl _))⟩,?_⟩;refine dP (K:=K) (a:=B) (xs:=ws) (fun i σ' H'=>∃c4 c5 c6 c7 f,σ'=[some (.ref B),some (.ref L),none,none,c4,c5,c6,c7,none,none]/\Kp H H'/\Laid H' L f/\(∀x,f x=none\/f x=some fun _=>none)/\f 0≠none/\(∀t∈wt.take i,f t.1≠none)/\∀x,n<=x->f x=none) ?_ (fun i σ' H' hi z=>?_) (fun i x σ' H' hx z=>?_) (fun σ' H' z=>?_)
 ·refine⟨_,_,_,_,_,rfl,kpH,hl1,fun x=>?_,?_,fun t ht=>?_,fun x hx=>?_⟩
  ·by_cases z:x=0
   ·right;rw[Hq z]
   ·left;rw[Ho z]
  ·rw[Hq rfl];exact fun z=>by cases z
  ·rw[GW] at ht;cases ht
  ·rw[Ho (by lia)]
 ·obtain⟨c4,c5,c6,c7,f,_,z1,_⟩:=z;exact SqL.of (z1 _ _ hB (nl _))
 ·obtain⟨c4,c5,c6,c7,f,rfl,z1,z2,z3,z4,z5,z6⟩:=z;obtain⟨⟨s,p,e⟩,et,a,r,rfl,ha,h2⟩:=dY hw hx;have hs:=(hin _ (Ea et)).1;refine⟨a,_,rfl,SqT.of (z1 _ _ ha fun _ e=>by cases e),rfl,_,_,rfl,_,_,rfl,_,_,rfl,_,_,rfl,rfl,?_⟩;refine fun d hd=>?_;obtain⟨H2,k1,k2,k3⟩:=z2.new (s:=s) hd z6 (by lia);refine⟨_,rfl,_,rfl,L,H2,rfl,k1,_,_,_,_,_,rfl,z1.trans k3,k2,fun x=>?_,?_,fun t ht=>?_,fun x hx=>?_⟩
  ·by_cases z:x=s
   ·right;rw[Hq z]
   ·rw[Ho z];exact z3 x
  ·by_cases z:0=s
   ·rw[Hq z];exact fun z=>by cases z
   ·rw[Ho z];exact z4
  ·by_cases z:t.1=s
   ·rw[Hq z];exact fun z=>by cases z
   ·rw[Ho z];rw[Eo,et] at ht;rcases DX.mp ht with ht|ht
    ·exact z5 t ht
    ·simp at ht;rw[ht] at z;exact absurd rfl z
  ·replace hs:s<n:=hs
   rw[Ho (by lia)];exact z6 x hx
 obtain⟨c4,c5,c6,c7,f,rfl,z1,z2,z3,z4,z5,z6⟩:=z;have el:ws.length=wt.length:=hw.length;rw[el,Ez] at z5;refine⟨Ec _,fun R hR=>?_⟩;have S1:=ao hR (.lst []);refine⟨_,rfl,B,ws,rfl,.inl (SqL.of (S1 _ _ (z1 _ _ hB (nl _)))),fun W hW=>?_⟩;have S2:=ao hW (.lst ws);have kp2:=(z1.trans (Kp.of S1)).trans (Kp.of S2)
 obtain⟨gd,ew⟩:=qQ z3 (wt:=wt) (fun t ht=>⟨(hin t ht).2.1,z5 t ht,by
  rcases (hin t ht).2.2.2 with h|⟨u,hu,h⟩
  ·rw[h];exact z4
  ·rw[<- h]; exact z5 u hu⟩)
 have hcn:=xH f n;refine⟨FolI H B L R n wd,⟨1000,W,ws,wt,f,_,_,_,_,_,_,rfl,kp2,af,ye (z1.trans (Kp.of S1)) hW,L2.Paired.IL hw fun _ _ h=>Wy.kp kp2 h,z2.mono (S1.trans S2),gd,z4,z6,hP.same ew,by lia,by lia⟩,?_⟩;rintro m σ' H' ⟨q0,us,ut,f,c4,c5,c6,c7,c8,c9,rfl,y1,y2,y3,y4,y5,y6,y7,y8,y9,y10,y11⟩;refine⟨_,rfl,!us.isEmpty,.inl ⟨us,SqL.of y2,rfl⟩,?_⟩;cases us with
 |nil=>
  cases y4;refine⟨_,rfl,_,rfl,(by show 2<=sizeLine;decide),fun a ha=>?_⟩;have S:=ao ha (.tup [.ref L,.ref R]);exact q _ a (.ref R) L f _ (y1.trans (Kp.of S)) rfl af (y5.mono S) y9 y6 y7 y8
 |cons v rest=>
  obtain⟨ks,ek,hk⟩:=me y4;have hne:ks≠[]:=by rintro rfl;cases ek
  refine⟨_,fun _ _ h=>h,?_⟩;refine⟨_,rfl,q0,ks,fun _=>0,rfl,rfl,by rw[<- ek];exact y2,hne,uM (Bl.2.mono (by decide)) hr Bl.1.b (fun a Q' ha hq=>?_),fun way hway=>?_⟩
  ·obtain⟨t,_,hw'⟩:=hk a ha;exact⟨.ref a,t,rfl,hw',hq⟩
  obtain⟨⟨s,p,e⟩,ht,hwy⟩:=hk way hway;obtain⟨j,j1,j2⟩:=KH ht;obtain⟨hp,fs,fe⟩:=y6.w _ ht;refine⟨_,rfl,.inl ⟨rfl,_,SqL.of y2⟩,_,rfl,q0,.ref way,v::rest,ut.map tdt,tdt (s,p,e),j,tdt (s,p,e),rfl,rfl,y2,om y4,hwy.dat,LJ _,qw _,GC rfl,?_,?_,fun i di hi hdi=>?_,?_⟩
  ·rw[DY,j1];rfl
  ·rw[ql,Ht rfl]
  ·rw[DY] at hdi;obtain⟨u,hu,rfl⟩:=EB.mp hdi;rw[ql,Hu (j2 i u hi hu)]
  have hm:=MA j1;have hj:j<ut.length:=(DU.mp j1).1;have hlen:=List.length_eraseIdx_of_lt hj;have wr:Wys (upd H' q0 (.lst ((v::rest).eraseIdx j))) ((v::rest).eraseIdx j) (ut.eraseIdx j):=L2.Paired.IL (nU j y4) fun _ _ h=>Wy.lst y2 h;have kr:Kp H (upd H' q0 (.lst ((v::rest).eraseIdx j))):=oK y1 y3;have lr:Laid (upd H' q0 (.lst ((v::rest).eraseIdx j))) L f:=y5.lst y2;have wyr:Wy (upd H' q0 (.lst ((v::rest).eraseIdx j))) (.ref way) (s,p,e):=hwy.lst y2;have qr:(upd H' q0 (.lst ((v::rest).eraseIdx j))) q0=some (.lst ((v::rest).eraseIdx j)):=af;generalize upd H' q0 (.lst ((v::rest).eraseIdx j))=Hr at wr kr lr wyr qr ⊢;refine⟨_,rfl,_,rfl,L,.ref way,f,s,p,e,rfl,lr,wyr,hp,fs,fe,fun y H2 S3 hy=>?_⟩;have k2:=kr.trans (Kp.of S3);have w2:Wys H2 ((v::rest).eraseIdx j) (ut.eraseIdx j):=L2.Paired.IL wr fun _ _ h=>Wy.mono S3 h;cases hmt:je f s p e with
  |none=>
   rw[hmt] at hy
   replace hy:y=.non:=hy
   subst hy;refine⟨_,rfl,rfl,true,rfl,?_⟩;refine⟨_,rfl,_,rfl,L,.ref way,f,s,p,e,rfl,lr.mono S3,wyr.mono S3,hp,fs,fe,fun H3 k3 l3=>?_⟩;refine⟨m-1,by lia,q0,_,ut.eraseIdx j,rP f s p e,_,_,_,_,_,_,rfl,k2.trans k3,k3 _ _ (S3 _ _ qr) (nl _),y3,L2.Paired.IL w2 fun _ _ h=>Wy.kp k3 h,l3,wO y6 hmt hm,fun z=>y7 (Ie.mp (Ie.mp z)),fun x hx=>Ie.mpr (Ie.mpr (y8 x hx)),y9.same (xN hp fs fe hmt hm),?_,?_⟩
   ·rw[nh];lia
   ·rw[nh];lia
  |some ab=>
   obtain⟨a,b⟩:=ab;rw[hmt] at hy;obtain⟨t,r,rfl,ht2,hr2⟩:=hy;refine⟨_,rfl,rfl,false,rfl,?_⟩;refine⟨_,rfl,t,_,0,_,rfl,rfl,SqT.of ht2,rfl,_,rfl,t,_,1,_,rfl,rfl,SqT.of ht2,rfl,rfl,_,rfl,?_⟩;have fab:f a≠none/\f b≠none:=by
    rcases dk hmt with ⟨m1,m2⟩|⟨_,m1,m2⟩
    ·exact⟨y6.e m1,by rw[m2];exact fe⟩
    ·exact⟨y6.e m1,by rw[m2];exact fs⟩
   by_cases hab:a=b
   ·subst hab;rw[show(!decide (V.int ((a,a).1:Nat)=V.int ((a,a).2:Nat)))=false by rw[Ht rfl];rfl];obtain⟨r0,rfl,hr0⟩:=hr2;refine⟨_,rfl,t,_,2,_,rfl,rfl,SqT.of ht2,rfl,false,.inl ⟨[],SqL.of hr0,rfl⟩,?_⟩;refine⟨m-1,by lia,q0,_,ut.eraseIdx j,f,_,_,_,_,_,_,rfl,k2,S3 _ _ qr,y3,w2,lr.mono S3,ur y6 hm,y7,y8,y9.same (uT hp y6.sym hmt hm),by lia,by lia⟩
   ·rw[show(!decide (V.int ((a,b).1:Nat)=V.int ((a,b).2:Nat)))=true by rw[Hu (tM hab)];rfl];refine⟨_,rfl,_,rfl,_,rfl,L,q0,_,_,_,f,a,b,rfl,lr.mono S3,y6.sym,S3 _ _ qr,w2,by lia,⟨t,r,rfl,ht2,hr2⟩,fab.1,fab.2,fun k l ekl q1 us1 ts f1 H3 k3 n3 e3 w3 h4 lf no l3=>?_⟩;have fkl:f k≠none/\f l≠none:=by
     by_cases z:b=0
     ·rw[Hq z] at ekl;injection ekl with e1 e2;rw[<- e1,<- e2];exact⟨fab.2,fab.1⟩
     ·rw[Ho z] at ekl;injection ekl with e1 e2;rw[<- e1,<- e2];exact fab
    have hln:l<n:=GG fun z=>fkl.2 (y8 l z);have hc2:=uQ lf.dom fkl.2 hln;refine⟨m-1,by lia,q1,us1,_,jZ f1 l,_,_,_,_,_,_,rfl,k2.trans k3,e3,n3.back k2,w3,l3,rN y6 hmt hab hp ekl hm lf no fkl.1,?_,fun x hx=>?_,nA y9 y6 hmt hab hp ekl hm lf no,?_,?_⟩
    ·unfold jZ;rw[Ho (HI (nX ekl hab).1)];exact fun z=>y7 ((lf.dom 0).mp z)
    ·unfold jZ;split
     ·rfl
     ·exact(lf.dom x).mpr (y8 x hx)
    ·rw[DQ,DR];lia
    ·rw[DQ,DR];lia
theorem dX{H H':Hp}{z:Addr}(S:Ia H H'):Ia (hid z H) (hid z H'):=fun b o h=>by
 have n:=fD h;rw[aQ n] at h ⊢;exact S _ _ h
def Ou:Sp:=fun vs H Q _=>∃(cs:List Nat)(r:V)(n:Nat)(zz:Addr),vs=[.str (txt cs),r,.int (n:Nat)]/\(∀c∈cs,isW c)/\cs.length<=10/\n<=100/\Rw H r/\H zz≠none/\r≠.ref zz /\
 ∀q us H',Ia H H'->H' q=some (.lst us)->Wys (hid zz H') us ((List.range cs.length).map fun i=>(FG.st n cs.length i,place (cs.getD i 0),FG.st n cs.length (i+1)))->Q (.ref q) H'
theorem yH{d:DD}{lp:Addr}(m_lp:mg "LETTER_PLACES"=some (.ref lp))(M_lp:vN P w K lp lpv)(D:Def K mg "petal" (top 9) ["word","row","fresh"] d)(Ao:mg "list"=none)(Aj:mg "len"=none)(Ai:mg "range"=none)(Bi:mg "zip"=none):(fk 2 d ["word","row","fresh"] Ou):=by
 exists["word","row","fresh","inner","places","rows"]
 obtain⟨cs,r,n,zz,rfl,hW,h10,hn,hr1,hzz,hrz,q⟩:=h;have hr0:Rw (hid zz H) r:=by
  obtain⟨a,rfl,h⟩:=hr1;exact⟨a,rfl,by rw[aQ (fun z=>hrz (by rw[z]))];exact h⟩
 have fz:∀{H':Hp}{e:Addr},Ia H H'->H' e=none->e≠zz:=fun {H' e} S he z=>by
  obtain⟨o,ho⟩:=EM.mp hzz;rw[z,S _ _ ho] at he;cases he
 refine⟨_,(ae (aw 3 (iV Ao Ai (ag (2) (aL (ay IC (ay Ij (2) (aP Ir Aj (0) aC)) (ah _)) (by rfl)) aC))) (ae (jT 4 (aA (ts:=["letter"]) (cap:=[]) (js:=[]) rfl rfl rfl rfl rfl rfl (by decide +kernel)) (gQ (0)) (am 0 (nd ["letter"])) (@aX _) (kP M_lp (gH (.ref lp) m_lp rfl) (0))) (ae (aw 5 (ay JY (bB (aA (ts:=["state"]) (cap:=[]) (js:=[]) rfl rfl rfl rfl rfl rfl (by decide +kernel)) (bp (3)) (am 0 (nd ["state"])) (@aX _) (aY (Ii _))) (aY (aL (1) aC)))) (aq (aH (bB (aA (ts:=["start","place","end","step"]) (cap:=[]) (js:=[]) rfl rfl rfl rfl rfl rfl (by decide +kernel)) (uL Bi (ag (ay JY (aY (aL (ah _) bI)) (3)) (ag (4) (ag (ay JY (3) (aY (aL (ah _) bI))) (aL (5) aC) (by rfl)) aC) (by rfl))) (@ve _ _ _ _ _ 4 K rfl hc (ax (am 0 (nd ["start","place","end","step"])) (ax (am 1 (nd ["start","place","end","step"])) (ax (am 2 (nd ["start","place","end","step"])) (ax (am 3 (nd ["start","place","end","step"])) (Ip _))))) (by rfl) (by rfl)) (@aX _) (bh (ag (0) (ag (1) (ag (2) (aL (3) aC) aC) aC) aC)))))))),?_⟩
 walk_at "d"
 have el:(txt cs).length=cs.length:=by show cs.toArray.size=cs.length;simp
 refine⟨_,rfl,_,rfl,_,rfl,txt cs,rfl,(by rw[el];exact aJ (by lia)),_,_,rfl,rfl,_,_,rfl,rfl,?_⟩;rw[el];refine⟨(n:Int),_,cs.length-1,rfl,by lia,by lia,by lia,by lia,by lia,fun a hna=>?_⟩;have S1:=ao hna (.lst ((List.range (cs.length-1)).map fun k=>V.int ((n:Int)+(k:Nat))));have ha:(upd H a (.lst ((List.range (cs.length-1)).map fun k=>V.int ((n:Int)+(k:Nat))))) a=some (.lst ((List.range (cs.length-1)).map fun k=>V.int ((n:Int)+(k:Nat)))):=af;generalize eI:((List.range (cs.length-1)).map fun k=>V.int ((n:Int)+(k:Nat)))=inn at S1 ha ⊢;have li:inn.length=cs.length-1:=by rw[<- eI,DQ,EG]
 generalize upd H a (.lst inn)=H1 at S1 ha ⊢;refine⟨_,rfl,txt cs,rfl,iY hW,?_⟩;have es:(txt cs).cps.size=cs.length:=el;refine uJ (fun i ys H'=>Ia H1 H'/\ys=(cs.take i).map fun c=>V.int (place c:Nat)) ⟨Ia.refl _,rfl⟩ (fun i ys H' hi z=>by rw[z.2,DQ,Eu];lia) (by rw[es];exact aJ (by lia)) (fun i c ys H' hx z=>?_) (fun ys H' z b hb=>?_)
 ·obtain⟨z1,rfl⟩:=z;have hc1:cs[i]?=some c:=by
   have:cs.toArray[i]?=some c:=hx;simpa using this
  have hi:i<cs.length:=(DU.mp hc1).1;refine⟨_,rfl,.inr ⟨#[c]⟩,_,rfl,rfl,wX (hW c (Ea hc1)),Nx.mk (by rw[es];exact hi) ⟨z1,?_⟩⟩;rw[Eo,hc1,Ef];rfl
 obtain⟨z1,rfl⟩:=z;rw[es,Ez];generalize eP:(cs.map fun c=>V.int (place c:Nat))=pls;have lp2:pls.length=cs.length:=by rw[<- eP,DQ]
 have S2:=S1.trans (z1.trans (ao hb (.lst pls)));have ha2:=(z1.trans (ao hb (.lst pls))) _ _ ha;have hb2:upd H' b (.lst pls) b=some (.lst pls):=af;generalize upd H' b (.lst pls)=H2 at S2 ha2 hb2 ⊢;refine⟨_,rfl,a,rfl,⟨_,SqL.of ha2⟩,?_⟩;refine fH (K:=K) (a:=a) (xs:=inn) (fun i ys H'=>Ia H2 H'/\ys.length=i/\∀y∈ys,Rw (hid zz H') y) ⟨Ia.refl _,rfl,fun _ h=>by cases h⟩ (fun i ys H' hi z=>FN z.2.1) (aJ (by lia)) (fun i ys H' hi z=>SqL.of (z.1 _ _ ha2)) (fun i x ys H' hx z=>?_) (fun ys H' z l hl=>?_)
 ·obtain⟨z1,z2,z3⟩:=z;have hi:i<inn.length:=(DU.mp hx).1;refine⟨Ec _,fun e he=>Nx.mk hi ⟨z1.trans (ao he _),by rw[DR,z2];rfl,fun y hy=>?_⟩⟩;rcases DX.mp hy with hy|hy
  ·exact(z3 y hy).mono (dX (ao he _))
  ·simp at hy;subst hy;exact⟨e,rfl,by rw[aQ (fz (S2.trans z1) he)];exact af⟩
 obtain⟨z1,z2,z3⟩:=z;have T1:=ao hl (.lst ys);refine⟨_,rfl,(by show 1<=sizeLine;decide),fun l2 hl2=>?_⟩;have T2:=ao hl2 (.lst [r]);refine⟨l,l2,ys,[r],rfl,rfl,T2 _ _ af,af,Ee (by simp;lia:ys.length+[r].length<=10000) (by decide),fun l3 hl3=>?_⟩;have T3:=ao hl3 (.lst (ys++[r]));have S3:=z1.trans (T1.trans (T2.trans T3));have hR:∀y∈ys++[r],Rw (hid zz (upd (upd (upd H' l (.lst ys)) l2 (.lst [r])) l3 (.lst (ys++[r])))) y:=fun y hy=>by
  rcases DX.mp hy with hy|hy
  ·exact(z3 y hy).mono (dX (T1.trans (T2.trans T3)))
  ·simp at hy;subst hy;exact hr0.mono (dX (S2.trans S3))
 have h3:(upd (upd (upd H' l (.lst ys)) l2 (.lst [r])) l3 (.lst (ys++[r]))) l3=some (.lst (ys++[r])):=af;have S4:=S2.trans S3;have ha3:=S3 _ _ ha2;have hb3:=S3 _ _ hb2;generalize upd (upd (upd H' l (.lst ys)) l2 (.lst [r])) l3 (.lst (ys++[r]))=H3 at h3 hR S4 ha3 hb3 ⊢;refine⟨(by show 1<=sizeLine;decide),fun e1 he1=>?_⟩;have U1:=ao he1 (.lst [.int 0]);refine⟨_,rfl,e1,a,[.int 0],inn,rfl,rfl,af,U1 _ _ ha3,Ee (by simp;lia:[V.int 0].length+inn.length<=10000) (by decide),fun f1 hf1=>?_⟩;have U2:=ao hf1 (.lst ([.int 0]++inn));have g1:upd (upd H3 e1 (.lst [.int 0])) f1 (.lst ([.int 0]++inn)) f1=some (.lst ([.int 0]++inn)):=af;refine⟨_,rfl,_,rfl,(by show 1<=sizeLine;decide),fun e2 he2=>?_⟩;have U3:=ao he2 (.lst [.int 0]);refine⟨a,e2,inn,[.int 0],rfl,rfl,(U1.trans (U2.trans U3)) _ _ ha3,af,Ee (by simp;lia:inn.length+[V.int 0].length<=10000) (by decide),fun f2 hf2=>?_⟩;have U4:=ao hf2 (.lst (inn++[.int 0]));have g2:upd (upd (upd (upd H3 e1 (.lst [.int 0])) f1 (.lst ([.int 0]++inn))) e2 (.lst [.int 0])) f2 (.lst (inn++[.int 0])) f2=some (.lst (inn++[.int 0])):=af;have g1':=(U3.trans U4) _ _ g1;have U:=U1.trans (U2.trans (U3.trans U4));generalize upd (upd (upd (upd H3 e1 (.lst [.int 0])) f1 (.lst ([.int 0]++inn))) e2 (.lst [.int 0])) f2 (.lst (inn++[.int 0]))=H4 at g2 g1' U ⊢
 let aF:Fin 4->Addr:=fun j=>match j with|0=>f1|1=>b|2=>f2|3=>l3
 let xF:Fin 4->List V:=fun j=>match j with|0=>[.int 0]++inn|1=>pls|2=>inn++[.int 0]|3=>ys++[r]
 have hF:∀j,H4 (aF j)=some (.lst (xF j)):=fun j=>match j with|0=>g1'|1=>U _ _ hb3|2=>g2|3=>U _ _ h3;refine⟨_,rfl,aF,rfl,fun j=>⟨xF j,SqL.of (hF j)⟩,?_⟩;refine zD (K:=K) (a:=aF) (xs:=xF) (n:=cs.length) (fun i zs H'=>Ia H4 H'/\Wys (hid zz H') zs ((List.range i).map fun i=>(FG.st n cs.length i,place (cs.getD i 0),FG.st n cs.length (i+1)))) (fun j=>?_) ⟨1,lp2⟩ ⟨Ia.refl _,.nil⟩ (fun i zs H' hi z=>?_) (aJ (by lia)) (fun i zs H' hi z j=>SqL.of (z.1 _ _ (hF j))) (fun i x zs H' p hi hx z hp=>?_) (fun zs H' z p hp=>?_)
 ·match j with
  |0=>show cs.length<=([V.int 0]++inn).length;simp;lia
  |1=>exact FN lp2.symm
  |2=>show cs.length<=(inn++[V.int 0]).length;simp;lia
  |3=>show cs.length<=(ys++[r]).length;simp;lia
 ·have:=z.2.length;rw[DQ,EG] at this;exact FN this
 ·obtain⟨y1,y2⟩:=z;have P1:=ao hp (.tup [x 0,x 1,x 2,x 3]);refine⟨p,_,rfl,SqT.of af,rfl,_,_,rfl,_,_,rfl,_,_,rfl,_,_,rfl,rfl,?_⟩;refine⟨_,rfl,_,rfl,_,rfl,_,rfl,(by show 4<=sizeLine;decide),fun m hm=>?_⟩;have P2:=ao hm (.tup [x 0,x 1,x 2,x 3]);refine Nx.mk hi ⟨y1.trans (P1.trans P2),?_⟩;rw[Fq,Ef];have inAt:∀(k:Nat)(v:V),inn[k]?=some v->v=V.int ((n+k:Nat):Int):=fun(k:Nat) (v:V) hv=>by
   rw[<- eI,DY] at hv;obtain⟨k',hk',rfl⟩:=EB.mp hv;have:=(DU.mp hk')
   obtain⟨hk2,ek2⟩:=this;rw[List.getElem_range] at ek2;subst ek2;rw[Int.natCast_add]
  have x0:x 0=.int (FG.st n cs.length i:Nat):=by
   have h:([V.int 0]++inn)[i]?=some (x 0):=hx 0;cases i with
   |zero=>simp at h;rw[<- h];rfl
   |succ k=>
    have h':inn[k]?=some (x 0):=by simpa using h
    rw[inAt k _ h'];unfold FG.st;rw[Ho (by lia)];rfl
  have x1:x 1=.int (place (cs.getD i 0):Nat):=by
   have h:pls[i]?=some (x 1):=hx 1;rw[<- eP,DY,DW hi] at h;injection h with h;rw[<- h,ED,DW hi];rfl
  have x2:x 2=.int (FG.st n cs.length (i+1):Nat):=by
   have h:(inn++[V.int 0])[i]?=some (x 2):=hx 2;unfold FG.st;by_cases q1:i<inn.length
   ·rw[EZ q1] at h;rw[inAt i _ h,Ho (by lia)];rfl
   ·have:i=inn.length:=by lia
    subst this;simp at h;rw[<- h,Hq (by lia)];rfl
  have x3:Rw (hid zz H3) (x 3):=hR _ (Ea (hx 3));refine fg ⟨m,x 3,rfl,?_,x3.mono (dX (U.trans (y1.trans (P1.trans P2))))⟩ (L2.Paired.IL y2 fun _ _ h=>Wy.mono (dX (P1.trans P2)) h);rw[aQ (fz ((S4.trans U).trans (y1.trans P1)) hm),af,x0,x1,x2]
 ·have P1:=ao hp (.lst zs);exact q p zs _ (S4.trans (U.trans (z.1.trans P1))) af (L2.Paired.IL z.2 fun _ _ h=>Wy.mono (dX P1) h)
end
end K3
namespace L2
open PySem PySem.Spec PyProof.Rows
theorem tX{K:PySem.W.Frag}{a b:Addr}{xs ys:List V}{n:Nat}{g:TG}{tb:TS}{D:Ends}{σ:St}{H:Hp}(Pv:Nat->St->Hp->Prop)(hlen:min xs.length ys.length=n)(h0:Pv 0 σ H)(hl:∀i σ H,i<=n->Pv i σ H->SqL K H a xs/\SqL K H b ys)
  (hs:∀i x y σ H p,xs[i]?=some x->ys[i]?=some y->Pv i σ H->H p=none->g (.ref p) σ (upd H p (.tup [x,y])) fun σ2 H2=>tb {D with nx:=Pv (i+1),ct:=Pv (i+1),bk:=D.nx} σ2 H2)(hd:∀σ H,Pv n σ H->D.nx σ H) :
  ∃W:Nat->Nat->St->Hp->Prop,(∃m,W 0 m σ H)/\∀i m σ H,W i m σ H ->
   ((Itz K a b).stop i H/\D.nx σ H)\/((Itz K a b).go i H/\∃N:St->Hp->Prop,(∀σ' H',N σ' H'->∃m',m'<m/\W (i+1) m' σ' H')/\∀x H',(Itz K a b).yld i H x H'->g x σ H' fun σ2 H2=>tb {D with nx:=N,ct:=N,bk:=D.nx} σ2 H2):=by
 refine⟨fun i m σ H=>m=n-i/\i<=n/\Pv i σ H,⟨n,rfl,Ec _,h0⟩,?_⟩;rintro i m σ H ⟨rfl,hi,p⟩;obtain⟨q1,q2⟩:=hl i σ H hi p;by_cases hlt:i<n
 ·have h1:i<xs.length:=by lia
  have h2:i<ys.length:=by lia
  refine .inr ⟨⟨xs,ys,xs[i],ys[i],q1,q2,by simp[h1],by simp[h2]⟩,Pv (i+1),fun σ' H' p'=>⟨n-(i+1),by lia,rfl,hlt,p'⟩,fun x H' y=>?_⟩;obtain⟨q,x,z,hq,rfl,rfl,y1,y2⟩:=y;exact hs i x z σ H q (y1 xs q1) (y2 ys q2) p hq
 ·have e:i=n:=by lia
  subst e;exact .inl ⟨⟨xs,ys,q1,q2,by lia⟩,hd σ H p⟩
end L2
namespace K3
open PySem PySem.Spec PyProof.Rows L2
section
variable {P:Program}{w:World}{K:PySem.W.Frag}{mg:Str->Option Value}{base:Heap}
def pl4 (c:Nat):Fin 4:=⟨place c,ja c⟩
def ptl (n:Nat)(cs:List Nat):List Tr:=(List.range cs.length).map fun i=>(FG.st n cs.length i,place (cs.getD i 0),FG.st n cs.length (i+1))
theorem JK{n:Nat}{cs:List Nat}{t:Tr}:t∈ptl n cs↔∃i:Nat,∃c:Fin 4,(cs.map pl4)[i]?=some c/\t=(FG.st n cs.length i,c.val,FG.st n cs.length (i+1)):=by
 unfold ptl;rw[Em];constructor
 ·rintro⟨i,hi,rfl⟩;have hi:=Es.mp hi;refine⟨i,pl4 (cs.getD i 0),?_,rfl⟩;rw[DY,ED,DW hi];rfl
 ·rintro⟨i,c,hc,rfl⟩;rw[DY] at hc;obtain⟨c0,h0,rfl⟩:=EB.mp hc;have hi:=(DU.mp h0).1;refine⟨i,Es.mpr hi,?_⟩;rw[ED,h0];rfl
theorem xn{n:Nat}{cs:List Nat}{wt:List Tr}(s:Nat)(a:Fin 4)(t:Nat):FG.NR iv4 (Ew (fun _=>none) wt) n (cs.map pl4) s a t↔Ew (fun _=>none) (wt++ptl n cs) s a t:=by
 have hl:∀s p,lk (fun _=>none) s p=none:=fun _ _=>rfl;have ha:=a.isLt;unfold FG.NR Ew;rw[hl,DX,DX,JK,JK,DQ];constructor
 ·rintro ((h|h|h)|⟨i,c,hc,h|h⟩)
  ·cases h
  ·exact .inr (.inl (.inl h))
  ·exact .inr (.inr (.inl h))
  ·obtain⟨rfl,rfl,rfl⟩:=h;exact .inr (.inl (.inr ⟨i,a,hc,rfl⟩))
  ·obtain⟨rfl,rfl,rfl⟩:=h;refine .inr (.inr (.inr ⟨i,c,hc,?_⟩));rw[show((iv4 c).val+2) % 4=c.val from iT c.isLt]
 ·rintro (h|(h|⟨i,c,hc,h⟩)|(h|⟨i,c,hc,h⟩))
  ·cases h
  ·exact .inl (.inr (.inl h))
  ·injection h with h1 h;injection h with h2 h3;exact .inr ⟨i,c,hc,.inl ⟨h1,Fin.ext h2,h3⟩⟩
  ·exact .inl (.inr (.inr h))
  ·injection h with h1 h;injection h with h2 h3;refine .inr ⟨i,c,hc,.inr ⟨h3,Fin.ext ?_,h1⟩⟩;show a.val=(c.val+2) % 4;rw[<- h2,iT ha]
def wj (ws:List (List Nat))(acc:List Tr):List Tr:=ws.foldl (fun acc w=>acc++ptl (acc.length+1) w) acc
def pts (ws:List (List Nat)):List Tr:=wj ws []
theorem nE(n:Nat)(cs:List Nat):(ptl n cs).length=cs.length:=by unfold ptl;rw[DQ,EG]
theorem rS(ws:List (List Nat))(w:List Nat):pts (ws++[w])=pts ws++ptl ((pts ws).length+1) w:=by
 unfold pts wj;rw[Fu];rfl
theorem Kq:∀(ws:List (List Nat))(acc:List Tr),(∀w∈ws,w.length<=10)->(wj ws acc).length<=acc.length+10*ws.length
 |[],acc,_=>DP _
 |w::r,acc,h=>by
  have:=Kq r (acc++ptl (acc.length+1) w) fun x hx=>h x (Eg _ hx);have hw:=h w DS;rw[DR,nE] at this;unfold wj at this ⊢;rw[Fh,EA]
  lia
structure Mg(wd:List (List (Fin 4)))(wt:List Tr):Prop where
 pre:FG.Pre iv4 wd (Ew (fun _=>none) wt) 0
 bnd:∀t∈wt,t.1<wt.length+1/\t.2.1<4/\t.2.2<wt.length+1/\(t.2.2=0\/∃u∈wt,u.1=t.2.2)
theorem Mg.nil:Mg [] []:=⟨(FG.Pre.none 0).same fun s a t=>⟨False.elim,fun h=>by
 rcases h with h|h|h
 ·cases h
 ·cases h
 ·cases h⟩,fun _ h=>by cases h⟩
theorem xq{n m i:Nat}(hn:1<=n):FG.st n m i<n+m:=by unfold FG.st;split<;>lia
theorem Mg.next{wd:List (List (Fin 4))}{wt:List Tr}(h:Mg wd wt)(cs:List Nat):Mg (wd++[cs.map pl4]) (wt++ptl (wt.length+1) cs):=by
 refine⟨(h.pre.OI IH (n:=wt.length+1) (GE _) (fun s a t e=>?_) (cs.map pl4)).same xn,fun t ht=>?_⟩
 ·rcases e with e|e|e
  ·cases e
  ·have:=h.bnd _ e;exact⟨this.1,this.2.2.1⟩
  ·have:=h.bnd _ e;exact⟨this.2.2.1,this.1⟩
 ·rw[DR,nE];rcases DX.mp ht with ht|ht
  ·obtain⟨b1,b2,b3,b4⟩:=h.bnd t ht;refine⟨by lia,b2,by lia,b4.imp id fun hq110=>by obtain⟨u,hu,e⟩:=hq110;exact⟨u,Eh _ hu,e⟩⟩
  ·obtain⟨i,c,hc,rfl⟩:=JK.mp ht;have s1:=xq (n:=wt.length+1) (m:=cs.length) (i:=i) (by lia);have s2:=xq (n:=wt.length+1) (m:=cs.length) (i:=i+1) (by lia);refine⟨by show FG.st _ _ _<_;lia,c.isLt,by show FG.st _ _ _<_;lia,?_⟩;by_cases hl:cs.length<=i+1
   ·left;show FG.st _ _ _=0;unfold FG.st;rw[Hq (.inr hl)]
   ·right
    have hl2:i+1<(cs.map pl4).length:=by rw[DQ];lia
    have hc2:(cs.map pl4)[i+1]?=some (cs.map pl4)[i+1]:=DW hl2;exact⟨_,DV _ (JK.mpr ⟨i+1,_,hc2,rfl⟩),rfl⟩
theorem vW(ws:List (List Nat)):Mg (ws.map fun w=>w.map pl4) (pts ws):=by
 have key:∀(ws:List (List Nat))(wd:List (List (Fin 4)))(acc:List Tr),Mg wd acc->Mg (wd++ws.map fun w=>w.map pl4) (wj ws acc):=by
  intro ws;induction ws with
  |nil=>intro wd acc h;rw[FB,Et];exact h
  |cons w r ih=>
   intro wd acc h;have:=ih _ _ (h.next w);rw[Ej] at this;exact this
 exact key ws [] [] Mg.nil
def NY:Sp:=fun vs H Q _=>∃(W R:Addr)(ws:List (List Nat))(rs:List V),vs=[.ref W,.ref R]/\H W=some (.lst (aR ws))/\H R=some (.lst rs)/\rs.length=ws.length/\(∀r∈rs,Rw H r)/\(∀w∈ws,(∀c∈w,isW c)/\w.length<=10)/\ws.length<=8 /\
 ∀q us H',Ia H H'->H' q=some (.lst us)->Wys H' us (pts ws)->Q (.ref q) H'
theorem yy{dp d:DD}(BK:(dg "petal" 9 ["word","row","fresh"] dp 2 Ou))(D:Def K mg "petals" (top 10) ["words","rows"] d)(Bi:mg "zip"=none)(Aj:mg "len"=none):(fk 3 d ["words","rows"] NY):=by
 exists["words","rows","ways","word","row"]
 obtain⟨W,R,ws,rs,rfl,hW,hR,hl,hrw,hws,h8,q⟩:=h;refine⟨_,(ae (aw 2 (aY (Ii _))) (ae (bE (xM Bi (ag (0) (aL (1) aC) aC)) (cj (ax (ar 3) (ax (ar 4) (Ip _)))) (aq (aV (fG HD PySem.F.slot_list_extend PySem.F.type_list_extend Jw (2) (aL (bz BK.1 BK.2 (ag (3) (ag (4) (aL (ay Ij (aP HW Aj (2) aC) (ah _)) (by rfl)) aC) aC)) dv))))) (aq (aH (2))))),?_⟩
 walk_at "d"
 refine⟨(Ec _),fun q0 hq0=>?_⟩;have S0:=ao hq0 (.lst []);have lt:(aR ws).length=ws.length:=DQ _;refine⟨_,rfl,_,rfl,W,R,rfl,⟨_,SqL.of (S0 _ _ hW)⟩,⟨_,SqL.of (S0 _ _ hR)⟩,?_⟩;refine tX (K:=K) (a:=W) (b:=R) (xs:=aR ws) (ys:=rs) (n:=ws.length) (fun i σ' H'=>∃c4 c5 us,σ'=[some (.ref W),some (.ref R),some (.ref q0),c4,c5]/\Ia H H'/\H' q0=some (.lst us)/\Wys (hid q0 H') us (pts (ws.take i))) (by rw[lt,hl,Nat.min_self]) ⟨_,_,_,rfl,S0,af,.nil⟩ (fun i σ' H' hi z=>?_) (fun i x y σ' H' p hx hy z hp=>?_) (fun σ' H' z=>?_)
 ·obtain⟨c4,c5,us,_,z1,_⟩:=z;exact⟨SqL.of (z1 _ _ hW),SqL.of (z1 _ _ hR)⟩
 ·obtain⟨c4,c5,us,rfl,z1,z2,z3⟩:=z;have hi:i<ws.length:=by have:=(DU.mp hx).1;rw[lt] at this;exact this
  have ew:ws[i]?=some ws[i]:=DW hi;have ex:x=.str (txt ws[i]):=by
   rw[show(aR ws)[i]?=some (.str (txt ws[i])) by rw[DY,ew];rfl] at hx;injection hx with hx;exact hx.symm
  subst ex;obtain⟨w1,w2⟩:=hws _ (Ep hi);have hy0:=hrw _ (Ea hy);have P1:=ao hp (.tup [.str (txt ws[i]),y]);have nq:p≠q0:=fun z=>by rw[z,z2] at hp;cases hp
  have lw:us.length=(pts (ws.take i)).length:=aT z3;have lb:=Kq (ws.take i) [] fun x hx=>(hws x (FT hx)).2;rw[Eu] at lb;have lb2:us.length<=80:=by rw[lw];unfold pts;simp only[Gh] at lb;lia
  refine⟨p,_,rfl,SqT.of af,rfl,_,_,rfl,_,_,rfl,rfl,?_⟩;refine⟨_,rfl,.inl ⟨rfl,_,SqL.of (P1 _ _ z2)⟩,_,rfl,_,rfl,_,rfl,q0,us,rfl,.inl (SqL.of (P1 _ _ z2)),_,_,rfl,rfl,?_⟩;refine⟨ws[i],y,us.length+1,q0,rfl,w1,w2,by lia,hy0.mono (z1.trans P1),(by rw[P1 _ _ z2];exact fun z=>by cases z),?_,fun b vs H2 S2 hb hv=>?_⟩
  ·obtain⟨r,rfl,hr0⟩:=hy0;exact fun z=>by injection z with z;rw[z,hq0] at hr0;cases hr0
  have hq2:=S2 _ _ (P1 _ _ z2);have lv:=aT hv;rw[DQ,EG] at lv;refine⟨q0,b,us,vs,rfl,rfl,hq2,hb,Ee (by lia:us.length+vs.length<=10000) (by decide),?_⟩;refine⟨_,_,_,rfl,fun a o ha=>?_,af,?_⟩
  ·rw[au (fun z=>by rw[z,hq0] at ha;cases ha)];exact(z1.trans (P1.trans S2)) _ _ ha
  ·rw[qm,Eo,ew];show Wys _ _ (pts (ws.take i++[ws[i]]));rw[rS,<- lw];exact iN (L2.Paired.IL z3 fun _ _ h=>Wy.mono (dX (P1.trans S2)) h) hv
 ·obtain⟨c4,c5,us,rfl,z1,z2,z3⟩:=z;rw[Ez] at z3;exact⟨_,rfl,q _ _ _ z1 z2 (L2.Paired.IL z3 fun _ _ h=>Wy.mono (aE _ _) h)⟩
end
end K3
namespace FG
variable {α:Type} [DecidableEq α] {σ:Type} [DecidableEq σ]
section
variable {d:σ->α->Option σ}{z:σ}{ls:List α}
theorem LF{s:σ}{o:List σ}{a:α}{x:σ}:x∈Iv d s o a↔x∈o\/d s a=some x:=by
 unfold Iv;cases h:d s a with
 |none=>simp
 |some t=>
  show x∈(if t∈o then o else o++[t])↔_;split
  ·rename_i m;exact⟨.inl,fun q=>q.elim id fun e=>by injection e with e;rw[<- e];exact m⟩
  ·rw[DX,Ei];exact or_congr Iff.rfl ⟨fun e=>by rw[e],fun e=>by injection e with e;exact e.symm⟩
theorem rM{s:σ}{o:List σ}{a:α}(h:o.Nodup):(Iv d s o a).Nodup:=by
 unfold Iv;cases d s a with
 |none=>exact h
 |some t=>
  show(if t∈o then o else o++[t]).Nodup;split
  ·exact h
  ·rename_i m;rw[Fp];exact⟨h,(by simp),fun a ha b hb e=>by rw[Ei.mp hb] at e;rw[e] at ha;exact m ha⟩
theorem pq{s:σ}{o:List σ}{a:α}:∃y,Iv d s o a=o++y/\∀x∈y,d s a=some x:=by
 unfold Iv;cases d s a with
 |none=>exact⟨[],(Et _).symm,fun _ h=>by cases h⟩
 |some t=>
  show ∃y,(if t∈o then o else o++[t])=o++y/\_;split
  ·exact⟨[],(Et _).symm,fun _ h=>by cases h⟩
  ·exact⟨[t],rfl,fun x hx=>by rw[Ei.mp hx]⟩
theorem Jg{s:σ}:∀{ls:List α}{o:List σ},∃y,IJ ls d o s=o++y/\∀x∈y,∃a∈ls,d s a=some x
 |[],o=>⟨[],(Et _).symm,fun _ h=>by cases h⟩
 |a::ls,o=>by
  obtain⟨y,e,h⟩:=pq (d:=d) (s:=s) (o:=o) (a:=a);obtain⟨y2,e2,h2⟩:=Jg (s:=s) (ls:=ls) (o:=Iv d s o a);refine⟨y++y2,?_,fun x hx=>?_⟩
  ·rw[<- Ej,<- e];exact e2
  ·rcases DX.mp hx with q|q
   ·exact⟨a,DS,h x q⟩
   ·obtain⟨b,hb,k⟩:=h2 x q;exact⟨b,Eg _ hb,k⟩
theorem jw{s:σ}:∀{ls:List α}{o:List σ}{a:α}{t:σ},a∈ls->d s a=some t->t∈IJ ls d o s
 |b::ls,o,a,t,h,e=>by
  rcases Eb.mp h with rfl|h
  ·obtain⟨y,e2,_⟩:=Jg (d:=d) (s:=s) (ls:=ls) (o:=Iv d s o a);show t∈IJ ls d (Iv d s o a) s;rw[e2];exact Eh _ (LF.mpr (.inr e))
  ·exact jw (ls:=ls) (o:=Iv d s o b) h e
theorem kR{s:σ}:∀{ls:List α}{o:List σ},o.Nodup->(IJ ls d o s).Nodup
 |[],o,h=>h
 |a::ls,o,h=>kR (ls:=ls) (o:=Iv d s o a) (rM h)
theorem gA(i:Nat):∃y,ord ls d z (i+1)=ord ls d z i++y/\∀x∈y,∃s a,(ord ls d z i)[i]?=some s/\a∈ls/\d s a=some x:=by
 show ∃y,(match (ord ls d z i)[i]? with|some s=>IJ ls d (ord ls d z i) s|none=>ord ls d z i)=_/\_;cases h:(ord ls d z i)[i]? with
 |none=>exact⟨[],(Et _).symm,fun _ h=>by cases h⟩
 |some s=>
  obtain⟨y,e,k⟩:=Jg (d:=d) (s:=s) (ls:=ls) (o:=ord ls d z i);exact⟨y,e,fun x hx=>by obtain⟨a,ha,q⟩:=k x hx;exact⟨s,a,rfl,ha,q⟩⟩
theorem MX{i:Nat}{s:σ}(h:(ord ls d z i)[i]?=some s):ord ls d z (i+1)=IJ ls d (ord ls d z i) s:=by
 show(match (ord ls d z i)[i]? with|some s=>IJ ls d (ord ls d z i) s|none=>ord ls d z i)=_;rw[h]
theorem Jl:∀i,(ord ls d z i).Nodup
 |0=>by show[z].Nodup;simp
 |i+1=>by
  show(match (ord ls d z i)[i]? with|some s=>IJ ls d (ord ls d z i) s|none=>ord ls d z i).Nodup;cases (ord ls d z i)[i]? with
  |none=>exact Jl i
  |some s=>exact kR (Jl i)
theorem KL{P:σ->Prop}(hz:P z)(hP:∀s a t,P s->d s a=some t->P t):∀i,∀x∈ord ls d z i,P x
 |0,x,h=>by
  rw[show ord ls d z 0=[z] from rfl,Ei] at h;rw[h];exact hz
 |i+1,x,h=>by
  obtain⟨y,e,k⟩:=gA (ls:=ls) (d:=d) (z:=z) i;rw[e] at h;rcases DX.mp h with h|h
  ·exact KL hz hP i x h
  ·obtain⟨s,a,h1,_,h2⟩:=k x h;exact hP _ _ _ (KL hz hP i s (Ea h1)) h2
theorem Mf:∀i,∃y,ord ls d z i=z::y
 |0=>⟨[],rfl⟩
 |i+1=>by
  obtain⟨y,e⟩:=Mf i;obtain⟨y2,e2,_⟩:=gA (ls:=ls) (d:=d) (z:=z) i;exact⟨y++y2,by rw[e2,e];rfl⟩
theorem oE(i:Nat):∀k,∃y,ord ls d z (i+k)=ord ls d z i++y
 |0=>⟨[],(Et _).symm⟩
 |k+1=>by
  obtain⟨y,e⟩:=oE i k;obtain⟨y2,e2,_⟩:=gA (ls:=ls) (d:=d) (z:=z) (i+k);exact⟨y++y2,by rw[<- Nat.add_assoc,e2,e,Ej]⟩
theorem JG{n i:Nat}{s t:σ}{a:α}(h:(ord ls d z n)[i]?=some s)(hi:i<n)(ha:a∈ls)(hd:d s a=some t):t∈ord ls d z n:=by
 have key:∀k,(ord ls d z (i+1+k))[i]?=some s->t∈ord ls d z (i+1+k):=fun k hk=>by
  obtain⟨y,e⟩:=oE (ls:=ls) (d:=d) (z:=z) (i+1) k;obtain⟨y1,e1,_⟩:=gA (ls:=ls) (d:=d) (z:=z) i;by_cases hl:i<(ord ls d z i).length
  ·have h0:(ord ls d z i)[i]?=some s:=by
    rw[e,e1,Ej,EZ hl] at hk;exact hk
   have h1:ord ls d z (i+1)=IJ ls d (ord ls d z i) s:=by
    show(match (ord ls d z i)[i]? with|some s=>IJ ls d (ord ls d z i) s|none=>ord ls d z i)=_;rw[h0]
   rw[e,h1];exact Eh _ (jw ha hd)
  ·have st:=fM (ls:=ls) (d:=d) (z:=z) (n:=i) (by lia) (1+k);rw[<- Nat.add_assoc] at st;rw[st,Gn (by lia)] at hk;cases hk
 have:=key (n-(i+1));rw[show i+1+(n-(i+1))=n by lia] at this;exact this h
theorem KJ:∀(n:Nat){j:Nat}{t:σ},(ord ls d z n)[j]?=some t->0<j->∃i,∃s a,i<j/\(ord ls d z n)[i]?=some s/\a∈ls/\d s a=some t
 |0,j,t,h,hj=>by
  rw[show ord ls d z 0=[z] from rfl] at h;have:=(DU.mp h).1;simp at this;lia
 |n+1,j,t,h,hj=>by
  obtain⟨y,e,k⟩:=gA (ls:=ls) (d:=d) (z:=z) n;by_cases hl:j<(ord ls d z n).length
  ·rw[e,EZ hl] at h;obtain⟨i,s,a,h1,h2,h3⟩:=KJ n h hj;refine⟨i,s,a,h1,?_,h3⟩;rw[e,EZ (by lia)];exact h2
  ·rw[e,Ff (by lia)] at h;obtain⟨s,a,h1,h2,h3⟩:=k t (Ea h);have hn:=(DU.mp h1).1;refine⟨n,s,a,by lia,?_,h2,h3⟩;rw[e,EZ hn];exact h1
end
end FG
namespace K3
open PySem PySem.Spec PyProof.Rows L2
section
variable {P:Program}{w:World}{K:PySem.W.Frag}{mg:Str->Option Value}{base:Heap}
def Ld (H:Hp)(L:Addr)(f:Lm):Prop:=∃kvs,H L=some (.dK kvs)/\(∀s:Nat,f s=none->bg kvs (.inl (s:Int))=none) /\
 ∀s g,f s=some g->∃d pvs,bg kvs (.inl (s:Int))=some (.ref d)/\H d=some (.dK pvs)/\∀p:Nat,p<4->bg pvs (.inl (p:Int))=(g p).map fun e=>V.int (e:Nat)
theorem Ld.at{H:Hp}{L:Addr}{f:Lm}{s:Nat}{g:Nat->Option Nat}(h:Ld H L f)(e:f s=some g):∃d pvs,IE H L (.int (s:Nat)) (some (.ref d))/\H d=some (.dK pvs)/\∀p:Nat,p<4->IE H d (.int (p:Nat)) ((g p).map fun e=>V.int (e:Nat)):=by
 obtain⟨kvs,h1,h2,h3⟩:=h;obtain⟨d,pvs,a,b,c⟩:=h3 s g e;refine⟨d,pvs,?_,b,fun p hp=>?_⟩
 ·rw[<- a];exact IE.k (k:=.inl (s:Int)) h1
 ·rw[<- c p hp];exact IE.k (k:=.inl (p:Int)) b
def nkA:Nat->List Nat->List (Key×V)
 |_,[]=>[]
 |k,s::r=>(.inl (s:Int),.int (k:Nat))::nkA (k+1) r
theorem Jv:∀(k:Nat)(os:List Nat),(nkA k os).length=os.length
 |_,[]=>rfl
 |k,s::r=>by rw[nkA,EA,EA,Jv]
theorem LX:∀(k:Nat)(os:List Nat)(t:Nat),nkA k (os++[t])=nkA k os++[(.inl (t:Int),.int ((k+os.length:Nat):Int))]
 |k,[],t=>rfl
 |k,s::r,t=>by
  rw[EV,nkA,LX,nkA,EV,EA,show k+1+r.length=k+(r.length+1) by lia]
theorem JJ:∀(k:Nat)(os:List Nat)(t:Nat),bg (nkA k os) (.inl (t:Int))=if t∈os then some (.int ((k+os.idxOf t:Nat):Int)) else none
 |k,[],t=>by rw[nkA,fQ,Ho (by simp)]
 |k,s::r,t=>by
  rw[nkA];by_cases e:s=t
  ·subst e;rw[aO rfl,Hq DS,List.idxOf_cons_self];rfl
  ·rw[aK (e:=fun z=>e (by injection z with z;exact Int.ofNat.inj z)),JJ];have em:(t∈s::r)↔t∈r:=⟨fun h=>(Eb.mp h).resolve_left fun z=>e z.symm,Eg _⟩
   by_cases m:t∈r
   ·rw[Hq m,Hq (em.mpr m),FW,show(s==t)=false from beq_false_of_ne e,show k+1+r.idxOf t=k+(r.idxOf t+1) by lia];rfl
   ·rw[Ho m,Ho (fun z=>m (em.mp z))]
theorem MF:∀(k:Nat)(os:List Nat)(i:Nat),(nkA k os)[i]?=(os[i]?).map fun s=>(.inl (s:Int),.int ((k+i:Nat):Int))
 |k,[],i=>rfl
 |k,s::r,0=>rfl
 |k,s::r,i+1=>by
  rw[nkA,List.getElem?_cons_succ,MF,List.getElem?_cons_succ,show k+1+i=k+(i+1) by lia]
def dL (f:Lm)(s:Nat)(a:Fin 4):Option Nat:=lk f s a.val
def l4:List (Fin 4):=[0,1,2,3]
abbrev sU(os:List Nat):List V:=os.map fun(s:Nat)=>V.int (s:Nat)
theorem wK{n:Nat}{os:List Nat}(nd:os.Nodup)(h:∀x∈os,x<n):os.length<=n:=by
 have:=List.Nodup.length_le_of_subset nd (l₂:=List.range n) fun x hx=>Es.mpr (h x hx);rw[EG] at this;exact this
structure Mb(f:Lm)(n:Nat):Prop where
 z:f 0≠none
 e:∀s p e,lk f s p=some e->f e≠none
 n:∀x,n<=x->f x=none
theorem Mb.ord{f:Lm}{n:Nat}(h:Mb f n)(i:Nat):∀x∈FG.ord l4 (dL f) 0 i,f x≠none:=FG.KL (P:=fun x=>f x≠none) h.z (fun s a t _ e=>h.e s a.val t e) i
theorem Mb.lt{f:Lm}{n x:Nat}(h:Mb f n)(k:f x≠none):x<n:=GG fun z=>k (h.n x z)
theorem Mb.len{f:Lm}{n:Nat}(h:Mb f n)(i:Nat):(FG.ord l4 (dL f) 0 i).length<=n:=wK (FG.Jl i) fun x hx=>h.lt (h.ord i x hx)
theorem iS{j:Nat}(hj:j<4):l4[j]?=some ⟨j,hj⟩:=by
 have:j=0\/j=1\/j=2\/j=3:=by lia
 rcases this with rfl|rfl|rfl|rfl<;>rfl
theorem yb{f:Lm}{s:Nat}{g:Nat->Option Nat}(e:f s=some g)(p:Nat):lk f s p=g p:=by unfold lk;rw[e];rfl
def grT (f:Lm)(s:Nat)(os:List Nat)(j:Nat):List Nat:=(l4.take j).foldl (FG.Iv (dL f) s) os
theorem rV{f:Lm}{s:Nat}{os:List Nat}{j:Nat}(hj:j<4):grT f s os (j+1)=match lk f s j with|some t=>if t∈grT f s os j then grT f s os j else grT f s os j++[t]|none=>grT f s os j:=by
 unfold grT;rw[Eo,iS hj,Fu];show FG.Iv (dL f) s _ _=_;generalize (l4.take j).foldl (FG.Iv (dL f) s) os=o;unfold FG.Iv;rw[show dL f s ⟨j,hj⟩=lk f s j from rfl];cases lk f s j with
 |none=>rfl
 |some t=>by_cases m:t∈o<;>simp[m]
theorem oD{f:Lm}{s i:Nat}(h:(FG.ord l4 (dL f) 0 i)[i]?=some s):grT f s (FG.ord l4 (dL f) 0 i) 4=FG.ord l4 (dL f) 0 (i+1):=by
 rw[FG.MX h];rfl
theorem xc{f:Lm}{n s i:Nat}(hS:Mb f n)(h:(FG.ord l4 (dL f) 0 i)[i]?=some s)(j:Nat):∃y,FG.ord l4 (dL f) 0 (i+1)=grT f s (FG.ord l4 (dL f) 0 i) j++y:=by
 rw[<- oD h];unfold grT;rw[show l4.take 4=l4.take j++(l4.take 4).drop j by rw[show l4.take 4=l4 from rfl,GD],Fu];obtain⟨y,e,_⟩:=FG.Jg (d:=dL f) (s:=s) (ls:=(l4.take 4).drop j) (o:=(l4.take j).foldl (FG.Iv (dL f) s) (FG.ord l4 (dL f) 0 i));exact⟨y,e⟩
def Oc:Sp:=fun vs H Q _=>∃L f,∃n:Nat,vs=[.ref L,.int 0]/\Ld H L f/\Mb f n/\n<=100 /\
 ∀N m H',Ia H H'->H N=none->(FG.ord l4 (dL f) 0 m).length<=m->H' N=some (.dK (nkA 0 (FG.ord l4 (dL f) 0 m)))->Q (.ref N) H'
theorem wx{d:DD}(D:Def K mg "found_states" (top 33) ["leads","first"] d)(Aj:mg "len"=none)(Ai:mg "range"=none):(fk 1 d ["leads","first"] Oc):=by
 exists["leads","first","numbers","states","at","ends","place"]
 obtain⟨L,f,n,rfl,hL,hS,hn,q⟩:=h;refine⟨_,(ae (aw 2 (fq (bF (1) (ah _) (fh _)) (by simp))) (ae (aw 3 (aY (aL (1) aC))) (ae (aw 4 (ah _)) (ae (dM (aB Lh (4) (aP HW Aj (3) aC) (aD _)) (ae (aw 5 (bC (bK hr) (0) (aN HY (3) (4)))) (ae (bE (bA Ai (aL (ah _) bI)) (ar 6) (aq (br (@PW.pt _ _ _ (fF (ml (ny (bK hr) (6) (5)) (by first|exact eL _ (by decide) (by decide)|rfl)) (cZ (ml (@oH _ _ _ _ _ (bK hr) (bC (bK hr) (5) (6)) (2)) (by first|exact eL _ (by decide) (by decide)|rfl))))) (ae (fA (bK hr) (2) (bC (bK hr) (5) (6)) (aP HW Aj (3) aC)) (aq (aV (cE (3) (bC (bK hr) (5) (6)) (by rfl))))) (HZ _)))) (aq (nB 4 (ah _) LU))))) (aq (aH (2))))))),?_⟩
 walk_at "d"
 refine fun Nn hN=>⟨_,rfl,af,[(.inl 0,.int 0)],rfl,(by show 1<=15;decide),?_⟩
 have S0:Ia H (upd (upd H Nn (.dK [])) Nn (.dK (bL [] [(.inl 0,.int 0)]))):=fun a o ha=>by
  have ne:a≠Nn:=fun z=>by rw[z,hN] at ha;cases ha
  rw[au ne,au ne];exact ha
 have e0:(upd (upd H Nn (.dK [])) Nn (.dK (bL [] [(.inl 0,.int 0)]))) Nn=some (.dK (nkA 0 [0])):=af;generalize upd (upd H Nn (.dK [])) Nn (.dK (bL [] [(.inl 0,.int 0)]))=H0 at S0 e0 ⊢;refine⟨_,rfl,(by show 1<=sizeLine;decide),fun q0 hq0=>?_⟩;have nq:Nn≠q0:=fun z=>by rw[<- z,e0] at hq0;cases hq0
 have T0:=ao hq0 (.lst [.int 0]);have hq:H q0=none:=by
  cases z:H q0 with
  |none=>rfl
  |some o=>rw[S0 _ _ z] at hq0;cases hq0
 refine⟨fun m σ' H'=>∃i c5 c6,σ'=[some (.ref L),some (.int 0),some (.ref Nn),some (.ref q0),some (.int (i:Nat)),c5,c6]/\Ia H H'/\H' Nn=some (.dK (nkA 0 (FG.ord l4 (dL f) 0 i)))/\H' q0=some (.lst (sU (FG.ord l4 (dL f) 0 i)))/\m+i=n,⟨n,0,_,_,rfl,S0.trans T0,T0 _ _ e0,af,rfl⟩,?_⟩;rintro m σ' H' ⟨i,c5,c6,rfl,z1,z2,z3,z4⟩;have ll:(sU (FG.ord l4 (dL f) 0 i)).length=(FG.ord l4 (dL f) 0 i).length:=DQ _;have ln:=hS.len i;refine⟨_,rfl,_,rfl,q0,_,rfl,.inl (SqL.of z3),_,_,rfl,rfl,_,rfl,?_⟩;rw[ll];by_cases hi:i<(FG.ord l4 (dL f) 0 i).length
 ·rw[show decide ((i:Int)<((FG.ord l4 (dL f) 0 i).length:Nat))=true from Ht (Gp.mpr hi)];obtain⟨s1,hs1⟩:∃s1,(FG.ord l4 (dL f) 0 i)[i]?=some s1:=⟨_,DW hi⟩
  have fs:=hS.ord i s1 (Ea hs1);obtain⟨g,hg⟩:=EM.mp fs;obtain⟨d1,pvs,a1,a2,a3⟩:=hL.at hg;have at1:atI (sU (FG.ord l4 (dL f) 0 i)) (i:Nat)=some (.int (s1:Nat)):=by
   refine bG ?_;rw[DY,hs1];rfl
  refine⟨_,fun σ2 H2 h=>h,?_⟩;refine⟨_,rfl,_,rfl,_,rfl,q0,_,_,_,rfl,rfl,SqL.of z3,at1,L,_,rfl,bT z1 a1,?_⟩;refine⟨4,rfl,by decide,by decide,?_⟩;refine bH (lo:=0) (n:=4) (fun j σ' H'=>∃c6,σ'=[some (.ref L),some (.int 0),some (.ref Nn),some (.ref q0),some (.int (i:Nat)),some (.ref d1),c6]/\Ia H H'/\H' Nn=some (.dK (nkA 0 (grT f s1 (FG.ord l4 (dL f) 0 i) j)))/\H' q0=some (.lst (sU (grT f s1 (FG.ord l4 (dL f) 0 i) j)))) ⟨_,rfl,z1,z2,z3⟩ (fun j σ' H' hj z=>?_) (fun σ' H' z=>?_)
  ·obtain⟨c6,rfl,y1,y2,y3⟩:=z;rw[show((0:Int)+(j:Nat))=((j:Nat):Int) from EF _];have b3:=bT y1 (a3 j hj);have gn:=rV (f:=f) (s:=s1) (os:=FG.ord l4 (dL f) 0 i) hj;rw[yb hg] at gn;have lo:(grT f s1 (FG.ord l4 (dL f) 0 i) j).length<=100:=by
    obtain⟨y,e⟩:=xc hS hs1 j;have:=hS.len (i+1);rw[e,DR] at this
    lia
   refine⟨_,rfl,_,rfl,d1,_,rfl,b3,_,rfl,?_⟩;cases hp:g j with
   |none=>
    rw[hp] at gn;refine⟨_,rfl,y1,?_,?_⟩
    ·rw[gn];exact y2
    ·rw[gn];exact y3
   |some t=>
    rw[hp] at gn b3;have gv:IE H' Nn (.int (t:Nat)) (bg (nkA 0 (grT f s1 (FG.ord l4 (dL f) 0 i) j)) (.inl (t:Int))):=IE.k (k:=.inl (t:Int)) y2;refine⟨_,rfl,_,rfl,d1,_,rfl,b3,_,rfl,Nn,_,rfl,gv,_,rfl,?_⟩;rw[JJ];by_cases mt:t∈grT f s1 (FG.ord l4 (dL f) 0 i) j
    ·rw[Hq mt];refine⟨_,rfl,y1,?_,?_⟩
     ·rw[gn];dsimp only;rw[Hq mt];exact y2
     ·rw[gn];dsimp only;rw[Hq mt];exact y3
    ·rw[Ho mt];have vn:bg (nkA 0 (grT f s1 (FG.ord l4 (dL f) 0 i) j)) (.inl (t:Int))=none:=by rw[JJ,Ho mt]
     generalize grT f s1 (FG.ord l4 (dL f) 0 i) j=os at *;have lo2:(sU os).length=os.length:=DQ _;refine⟨_,rfl,q0,_,rfl,.inl (SqL.of y3),_,rfl,_,rfl,_,rfl,d1,_,rfl,b3,Nn,_,rfl,Lg.k (k:=.inl (t:Int)) y2 (by rw[Jv];exact Fi lo (by decide)),?_⟩;rw[fL _ vn,lo2];have Su:Ia H (upd H' Nn (.dK (nkA 0 os++[(.inl (t:Int),.int (os.length:Nat))]))):=fun a o ha=>by
      rw[au (fun z=>by rw[z,hN] at ha;cases ha)];exact y1 _ _ ha
     have eN:(upd H' Nn (.dK (nkA 0 os++[(.inl (t:Int),.int (os.length:Nat))]))) Nn=some (.dK (nkA 0 (os++[t]))):=by
      rw[af,LX,Nat.zero_add]
     have eq:(upd H' Nn (.dK (nkA 0 os++[(.inl (t:Int),.int (os.length:Nat))]))) q0=some (.lst (sU os)):=by
      rw[au (HI nq)];exact y3
     generalize upd H' Nn (.dK (nkA 0 os++[(.inl (t:Int),.int (os.length:Nat))]))=H2 at Su eN eq ⊢;have b4:=bT Su (a3 j hj);rw[hp] at b4;refine⟨_,rfl,.inl ⟨rfl,_,SqL.of eq⟩,_,rfl,_,rfl,d1,_,rfl,b4,q0,_,_,rfl,rfl,eq,by rw[lo2];exact Fi lo (by decide),?_⟩;refine⟨_,rfl,fun a o ha=>?_,?_,?_⟩
     ·rw[au (fun z=>by rw[z,hq] at ha;cases ha)];exact Su _ _ ha
     ·rw[au nq,gn];dsimp only;rw[Ho mt];exact eN
     ·rw[af,gn];dsimp only;rw[Ho mt,show sU (os++[t])=sU os++[.int (t:Nat)] from Ef]
  ·obtain⟨c6,rfl,y1,y2,y3⟩:=z;rw[oD hs1] at y2 y3;refine⟨_,rfl,_,_,rfl,rfl,?_⟩;have hin:i<n:=DT hi ln;exact⟨m-1,by lia,i+1,_,_,rfl,y1,y2,y3,by lia⟩
 ·rw[show decide ((i:Int)<((FG.ord l4 (dL f) 0 i).length:Nat))=false from Hu (fun z=>hi (Gp.mp z))];exact⟨_,rfl,q Nn i H' z1 hN (by lia) z2⟩
end
end K3
namespace L2
open PySem PySem.Spec PyProof.Rows
theorem eJ{X:Cx}{scope:Scope}{ts cap:List Str}{js:List Nat}{t:Str}(a b:List (Str×NameKind))(h0:scope.names=a++(t,NameKind.cell)::b)(h1:scope.kind=.function)(h2:((a++b).all fun y=>y.2 != .cell)=true)(h3:(scope.names.all fun y=>y.2 != .local||scope.names.lookup y.1==some .local)=true)
  (h4:(scope.names.all fun y=>y.2 != .free||X.env.kindOf y.1==some .cell||X.env.kindOf y.1==some .free)=true)(h5:cap.map some=js.map fun j=>X.N[j]?)(h6:(cap.all fun y=>scope.names.lookup y==some .free)=true)(h8:t∉cap)(h7:(ts++cap).Nodup):Ib X scope (some t) ts cap js where
 kind:=h1
 one:=⟨a,b,h0,(fun y hy e=>by have:=EE.mp h2 y (Eh _ hy);rw[e] at this;cases this),fun y hy e=>by have:=EE.mp h2 y (DV _ hy);rw[e] at this;cases this⟩
 names:=fun y hy e=>by
  have:=EE.mp h3 y hy;rw[e] at this;simpa using this
 free:=fun y hy e=>by
  have:=EE.mp h4 y hy;rw[e] at this;simpa using this
 NQ:=h5
 Pf:=fun y hy=>by simpa using EE.mp h6 y hy
 Ph:=fun x hx z=>h8 (by injection z with z;rw[z];exact hx)
 nd:=h7
section
variable {X:Cx}{scope:Scope}{t:Str}{ts cap:List Str}{js:List Nat}{tg elt kx vx iter:Expr}{ifs:List Expr}{pos:Pos}{wi:TI}{g:TG}{tc:TT}{te tk tv:TE}
theorem sF(hc:X.calm=true)(CS:Ib X scope (some t) ts cap js)(hi:PI X tg iter wi)(hg:∀C fp s H,PG (aG X scope (some t) C fp (ts++cap) s H) tg g)
  (ht:∀C fp s H,PTs (aG X scope (some t) C fp (ts++cap) s H) ifs tc)(he:∀C fp s H,PE (aG X scope (some t) C fp (ts++cap) s H) elt te)
  (hs:∀x,foldedSetIterable iter X.env x=pure x:=by intro _;rfl):PE X (.ListComp elt [⟨tg,iter,ifs,0⟩] scope pos) (vf wi ts.length js g tc te):=by
 intro pins s σ H Q I h;rw[eval_ListComp];refine wpAny_comprehension_free (use:=none) rfl hs (bJ (CS.cells I.ok)) CS.kind CS.names (thn (hi pins s σ H _ I h) fun v s1 h1=>thn h1 fun itv s2 h2=>?_);obtain⟨it,fp,tn,J,H2,e,I2,T,st2,f2,W,⟨m0,w0⟩,turn⟩:=h2;subst e;refine gq (Fin:=fun ys H2=>∀l,H2 l=none->Q (.ref l) (upd H2 l (.lst ys))) (RR:=fun acc C=>compPost (model X.prog X.w) X.A X.xe none (EP X pins σ Q) acc C) I2 ⟨T.obj,T.keep,T.self⟩ (fun C=>⟨T.item (aG X scope (some t) C fp (ts++cap) s2 H2) rfl rfl rfl hc,T.done (aG X scope (some t) C fp (ts++cap) s2 H2) rfl rfl rfl hc⟩) st2 f2 CS hg ht he w0 turn ?_;intro D C s' H' ys m I' hn hC hD hCD hHC hHD fin;have szL:=I2.lt;have low:∀b o,s2.heap.get? b=some o->b≠C:=fun b o e=>DZ (DT (Hz e) hC);refine⟨m,hn,fun h' hs'=>⟨.ref D,_,cL (n0:=0) I' (Heap.get?_none_of_le (Ee I2.sz hC)) (DZ (DT szL hC)) (fun x c e=>?_) (fun p hp=>?_) (by rw[au hCD];exact hHC) hs',rfl,fin D hHD⟩⟩
 ·obtain⟨v,o,ho,_⟩:=I2.cell x c e;exact low c o ho
 ·exact low _ _ (I2.pin p hp).1
theorem pO{i:Nat}{y:Str}{py spos:Pos}(hc:X.calm=true)(CS:Ib X scope (some t) ts cap js)(hi:PI X tg iter wi)(hg:∀C fp s H,PG (aG X scope (some t) C fp (ts++cap) s H) tg g)
  (ht:∀C fp s H,PTs (aG X scope (some t) C fp (ts++cap) s H) ifs tc)(hk:∀C fp s H,PE (aG X scope (some t) C fp (ts++cap) s H) kx tk)(he:∀C fp s H,PE (aG X scope (some t) C fp (ts++cap) s H) vx tv)
  (hN:X.N.Nodup)(hy:X.N[i]?=some y)(hx:Loc X.env.scope y)(hsw:swapsWith (.DictComp kx vx [⟨tg,iter,ifs,0⟩] scope pos) (some (.Name y py)) spos.line X.env=pure true)
  (hs:∀x,foldedSetIterable iter X.env x=pure x:=by intro _;rfl)(hf:X.fn y=true\/X.env.scope.names.lookup y=some .local:=by first|exact .inl rfl|exact .inr rfl|assumption) :
  PS X (.Assign [.Name y py] (.DictComp kx vx [⟨tg,iter,ifs,0⟩] scope pos) spos) (vI (tO wi ts.length js g tc tk tv) i):=by
 intro pins s σ H D I h;rw[exec_Assign_Name_used _ _ _ _ hsw];refine Hm (wpAny_standAt (Hm ?_));show wpAny _ X.A (do let _ <- comprehension (.DictComp kx vx [⟨tg,iter,ifs,0⟩] scope pos) scope X.env _ newDict false (eval iter X.env) (some (assign (.Name y py) X.env))) _ _ s
 refine Hm (Hv (wpAny_comprehension_free (use:=some (assign (.Name y py) X.env)) (Q:=fun _ s'=>SP X pins D .next s') rfl hs (bJ (CS.cells I.ok)) CS.kind CS.names
  (thn (hi pins s σ H _ I h) fun v s1 h1=>thn h1 fun itv s2 h2=>?_)) (fun _ s' hq=>Hn (Hn hq)) fun _ _ e=>e)
 obtain⟨it,fp,tn,J,H2,e,I2,T,st2,f2,W,⟨m0,w0⟩,turn⟩:=h2;subst e;refine gX (Fin:=fun ys H2=>∀l,H2 l=none->D.nx (σ.set i (some (.ref l))) (upd H2 l (.dK ys))) (RR:=fun acc C=>compPost (model X.prog X.w) X.A X.xe (some (assign (.Name y py) X.env)) (fun _ s'=>SP X pins D .next s') acc C) I2 ⟨T.obj,T.keep,T.self⟩ (fun C=>⟨T.item (aG X scope (some t) C fp (ts++cap) s2 H2) rfl rfl rfl hc,T.done (aG X scope (some t) C fp (ts++cap) s2 H2) rfl rfl rfl hc⟩) st2 f2 CS hg ht hk he w0 turn ?_;intro D' C s' H' ys m I' hn hC hD hCD hHC hHD fin;have szL:=I2.lt;have low:∀b o,s2.heap.get? b=some o->b≠C:=fun b o e=>DZ (DT (Hz e) hC);have hCL:X.env.locals≠C:=DZ (DT szL hC);have hcell:∀x c,X.env.cells.lookup x=some c->c≠C:=fun x c e=>by
  obtain⟨v,o,ho,_⟩:=I2.cell x c e;exact low c o ho
 show wpAny _ X.A (assign (.Name y py) X.env (.ref D')) _ _ _;refine wpAny_assign_Name (eV (v:=.ref D') I' hN hy hx rfl (fun s'' I'' hch=>?_) hf);obtain⟨a,hsb,ha⟩:=hch;have hCa:C≠a:=by
  rcases ha with z|z
  ·rw[z];exact HI hCL
  ·exact HI (hcell _ _ z)
 refine⟨m,hn.sameBut hsb hCa,fun h' hs'=>⟨_,_,cL (n0:=0) I'' (Heap.get?_none_of_le (Ee I2.sz hC)) hCL hcell (fun p hp=>low _ _ (I2.pin p hp).1) (by rw[au hCD];exact hHC) hs',fin D' hHD⟩⟩
end
end L2
namespace K3
open PySem PySem.Spec PyProof.Rows L2
section
variable {P:Program}{w:World}{K:PySem.W.Frag}{mg:Str->Option Value}{base:Heap}
def toG (c:List (List (Option Nat))):List Row:=c.map fun r=>r.map fun o=>o.map fun n=>((n:Nat):Int)
def cG (f:Lm)(m:Nat):List Row:=toG (FG.canon l4 (dL f) (FG.ord l4 (dL f) 0 m))
theorem kM(f:Lm)(m:Nat):(cG f m).length=(FG.ord l4 (dL f) 0 m).length:=by
 unfold cG toG FG.canon;rw[DQ,DQ]
theorem xV{f:Lm}{m i s:Nat}(h:(FG.ord l4 (dL f) 0 m)[i]?=some s):(cG f m)[i]?=some ((List.range 4).map fun p=>(lk f s p).map fun t=>(((FG.ord l4 (dL f) 0 m).idxOf t:Nat):Int)):=by
 unfold cG toG FG.canon FG.rowOf;rw[DY,DY,h];show some (List.map _ (l4.map _))=_;rw[EL];show some [_,_,_,_]=some [_,_,_,_];simp only[Function.comp,GX];rfl
theorem uI{f:Lm}{m:Nat}:∀r∈cG f m,r.length=4:=fun r hr=>by
 obtain⟨i,hi⟩:=FH hr;have hl:=(DU.mp hi).1;rw[kM] at hl;rw[xV (DW hl)] at hi;injection hi with hi;rw[<- hi];rfl
theorem bt{α β:Type}{R:α->β->Prop}{x:α}{y:β}:∀{xs:List α}{ys:List β},Paired R xs ys->R x y->Paired R (xs++[x]) (ys++[y])
 |_,_,.nil,r=>.cons r .nil
 |_,_,.cons a p,r=>.cons a (bt p r)
def OW:Sp:=fun vs H Q _=>∃L f,∃n:Nat,vs=[.ref L,.int 0]/\Ld H L f/\Mb f n/\n<=100 /\
 ∀g us m H',Ia H H'->H g=none->(FG.ord l4 (dL f) 0 m).length<=m->GrL H' g us (cG f m)->Q (.ref g) H'
theorem yG{df d:DD}(Bz:(dg "found_states" 33 ["leads","first"] df 1 Oc))(D:Def K mg "numbered" (top 34) ["leads","first"] d)(Ap:mg "tuple"=none)(Ai:mg "range"=none):(fk 2 d ["leads","first"] OW):=by
 exists["leads","first","numbers"]
 obtain⟨L,f,n,rfl,hL,hS,hn,q⟩:=h;refine⟨_,(ae (ac 2 (bz Bz.1 Bz.2 (ag (0) (aL (1) aC) aC))) (aq (aH (sF (eJ (t:="state") (ts:=["state"]) (cap:=["leads","numbers"]) (js:=[0,2]) [(".0",NameKind.local)] _ rfl rfl rfl rfl rfl rfl rfl (by decide +kernel) (by decide +kernel)) (iP (2)) (@ar _ _ 0 _ (nd ["state","leads","numbers"]) rfl (Or.inr rfl) (.inl rfl)) (@aX _) (bS (show cP _ _ (sP K) from Li) Ap Jf (aL (bB (aA (ts:=["place"]) (cap:=["state","leads","numbers"]) (js:=[0,1,2]) rfl rfl rfl rfl rfl rfl (by decide +kernel)) (bA Ai (aL (ah _) bI)) (am 0 (nd ["place","state","leads","numbers"])) (@aX _) (@mY _ _ _ _ _ _ _ (bK hr) (3) (iJ (bK hr) (bC (bK hr) (2) (1)) (0) ⟨rfl,rfl,rfl,rfl⟩) ⟨rfl,rfl,rfl,rfl⟩)) (by rfl))))))),?_⟩
 walk_at "d"
 refine⟨_,rfl,_,rfl,L,f,n,rfl,hL,hS,hn,fun Nn m H1 S1 hN hm e1=>?_⟩;refine⟨_,rfl,Nn,_,rfl,e1,fun o=>?_⟩;have S2:Ia H (upd H1 Nn (.frz o (.dK (nkA 0 (FG.ord l4 (dL f) 0 m))))):=fun a u ha=>by
  rw[au (fun z=>by rw[z,hN] at ha;cases ha)];exact S1 _ _ ha
 have e2:(upd H1 Nn (.frz o (.dK (nkA 0 (FG.ord l4 (dL f) 0 m))))) Nn=some (.frz o (.dK (nkA 0 (FG.ord l4 (dL f) 0 m)))):=af;generalize upd H1 Nn (.frz o (.dK (nkA 0 (FG.ord l4 (dL f) 0 m))))=H2 at S2 e2 ⊢;have lo:=hS.len m;refine zM (a:=Nn) (o:=o) (kvs:=nkA 0 (FG.ord l4 (dL f) 0 m)) (fun i ys H'=>Ia H2 H'/\Paired (gf H') ys ((cG f m).take i)) ⟨Ia.refl _,.nil⟩ (fun i ys H' hi z=>?_) (by rw[Jv];exact aJ (by lia)) (fun i ys H' hi z=>z.1 _ _ e2) (fun i p ys H' hp z=>?_) (fun ys H' z p hp=>?_)
 ·rw[aT z.2,Eu];lia
 ·obtain⟨z1,z2⟩:=z;rw[MF] at hp;obtain⟨s1,hs1,rfl⟩:=EB.mp hp;have hi:i<(FG.ord l4 (dL f) 0 m).length:=(DU.mp hs1).1;have fs:=hS.ord m s1 (Ea hs1);obtain⟨g,hg⟩:=EM.mp fs;obtain⟨d1,pvs,a1,a2,a3⟩:=hL.at hg;have T0:=S2.trans z1;have er:=xV hs1;refine⟨4,rfl,by decide,by decide,?_⟩;refine wA (lo:=0) (n:=4) (fun j zs H''=>Ia H' H''/\zs=((List.range j).map fun p=>(lk f s1 p).map fun t=>(((FG.ord l4 (dL f) 0 m).idxOf t:Nat):Int)).map ov) ⟨Ia.refl _,rfl⟩ (fun j zs H'' hj z=>by rw[z.2,DQ,DQ,EG];exact DP _) (aJ (by decide)) (fun j zs H'' hj z=>?_) (fun zs H'' z l hl=>?_)
  ·obtain⟨y1,rfl⟩:=z;rw[show((0:Int)+(j:Nat))=((j:Nat):Int) from EF _];have T1:=T0.trans y1;have rd:Rd H'' Nn (.dK (nkA 0 (FG.ord l4 (dL f) 0 m))):=.inr ⟨o,(z1.trans y1) _ _ e2⟩;refine⟨_,rfl,Nn,rfl,.inl ⟨_,rd⟩,_,rfl,_,rfl,L,_,rfl,bT T1 a1,d1,rfl,.inl ⟨_,.inl (T1 _ _ a2)⟩,_,rfl,_,bT T1 (a3 j hj),?_⟩;have el:=yb hg j;cases hgj:g j with
   |none=>
    rw[hgj] at el;refine .inr ⟨rfl,⟨_,rd⟩,Nx.mk hj ⟨y1,?_⟩⟩;rw[Fq,Ef,Ef];show _=_++[ov ((lk f s1 j).map _)]
    rw[el];rfl
   |some t=>
    rw[hgj] at el;have hmem:t∈FG.ord l4 (dL f) 0 m:=FG.JG hs1 (DT hi hm) (a:=⟨j,hj⟩) (Ea (iS hj)) el;have gv:IE H'' Nn (.int (t:Nat)) (bg (nkA 0 (FG.ord l4 (dL f) 0 m)) (.inl (t:Int))):=.inl ⟨_,.inl (t:Int),rd,rfl,rfl⟩;rw[JJ,Hq hmem,Nat.zero_add] at gv;refine .inl ⟨_,gv,Nx.mk hj ⟨y1,?_⟩⟩;rw[Fq,Ef,Ef];show _=_++[ov ((lk f s1 j).map _)]
    rw[el];rfl
  ·obtain⟨y1,rfl⟩:=z;have U1:=ao hl (.lst (((List.range 4).map fun p=>(lk f s1 p).map fun t=>(((FG.ord l4 (dL f) 0 m).idxOf t:Nat):Int)).map ov));refine⟨l,_,rfl,.inl ⟨SqL.of af,fun t ht=>Nx.mk (by rw[Jv];exact hi) ?_⟩⟩;have U2:=ao ht (.tup (((List.range 4).map fun p=>(lk f s1 p).map fun t=>(((FG.ord l4 (dL f) 0 m).idxOf t:Nat):Int)).map ov));refine⟨z1.trans (y1.trans (U1.trans U2)),?_⟩;rw[Eo,er];refine bt (Paired.IL z2 fun v r hq112=>by obtain⟨a,e,q⟩:=hq112;exact⟨a,e,(y1.trans (U1.trans U2)) _ _ q⟩) ⟨t,rfl,af⟩
 ·have U:=ao hp (.lst ys);obtain⟨z1,z2⟩:=z;rw[Jv,<- kM,Ez] at z2;refine q p ys m _ (S2.trans (z1.trans U)) ?_ hm ⟨af,Paired.IL z2 fun v r hq113=>by obtain⟨a,e,q⟩:=hq113;exact⟨a,e,U _ _ q⟩,uI,by rw[kM];lia⟩;cases hh:H p with
  |none=>rfl
  |some u=>rw[(S2.trans z1) _ _ hh] at hp;cases hp
def cGd (d:Nat->Fin 4->Option Nat)(m:Nat):List Row:=toG (FG.canon l4 d (FG.ord l4 d 0 m))
def wF (ws:List (List Nat)):List (List (Fin 4)):=ws.map fun w=>w.map pl4
def GOf (ws:List (List (Fin 4)))(G:List Row):Prop:=∃d m,FG.Fold iv4 ws d 0/\(FG.ord l4 d 0 m).length<=m/\G=cGd d m
theorem GOf.eq{ws vs:List (List (Fin 4))}{G G':List Row}(h:GOf ws G)(k:GOf vs G')(hr:∀w∈ws,FG.IB iv4 w)(kr:∀w∈vs,FG.IB iv4 w)(hH:∀x,FG.InH iv4 ws x↔FG.InH iv4 vs x):G=G':=by
 obtain⟨d,m,F,hm,rfl⟩:=h;obtain⟨e,n,F',hn,rfl⟩:=k;unfold cGd;rw[FG.KI IH F F' hr kr hH hm hn]
section
variable {d:Nat->Fin 4->Option Nat}{m:Nat}
theorem Iu:(cGd d m).length=(FG.ord l4 d 0 m).length:=by
 unfold cGd toG FG.canon;rw[DQ,DQ]
theorem tq{i s:Nat}(h:(FG.ord l4 d 0 m)[i]?=some s):(cGd d m)[i]?=some (l4.map fun a=>(d s a).map fun t=>(((FG.ord l4 d 0 m).idxOf t:Nat):Int)):=by
 unfold cGd toG FG.canon FG.rowOf;rw[DY,DY,h];show some (List.map _ (l4.map _))=_;rw[EL];simp only[Function.comp_def,GX]
theorem cQ{i s:Nat}(h:(FG.ord l4 d 0 m)[i]?=some s)(a:Fin 4):ent (cGd d m) i a.val=(d s a).map fun t=>(((FG.ord l4 d 0 m).idxOf t:Nat):Int):=by
 rw[gE (tq h),DY,iS a.isLt];rfl
theorem Mo:∀r∈cGd d m,r.length=4:=fun r hr=>by
 obtain⟨i,hi⟩:=FH hr;have hl:=(DU.mp hi).1;rw[Iu] at hl;rw[tq (DW hl)] at hi;injection hi with hi;rw[<- hi];rfl
theorem mh{os:List Nat}{t:Nat}(h:t∈os):os[os.idxOf t]?=some t:=by
 have hl:=FX h;rw[DW hl,GY hl]
theorem pI{os:List Nat}(nd:os.Nodup){i s:Nat}(h:os[i]?=some s):os.idxOf s=i:=by
 obtain⟨hi,e⟩:=DU.mp h;have hm:=Ea h;have hl:=FX hm;exact(FZ nd (h₀:=hl) (h₁:=hi)).mp (by rw[GY hl,e])
theorem tT(hb:FG.Back iv4 d)(hm:(FG.ord l4 d 0 m).length<=m):isG (cGd d m)=true:=by
 obtain⟨y,ey⟩:=FG.Mf (ls:=l4) (d:=d) (z:=0) m;have ne:(cGd d m).isEmpty=false:=by
  have:0<(cGd d m).length:=by rw[Iu,ey,EA];exact GE _
  cases h:cGd d m with
  |nil=>rw[h] at this;exact absurd this (by decide)
  |cons _ _=>rfl
 have at_:∀i p,i<(cGd d m).length->p<4->∃s,∃a:Fin 4,(FG.ord l4 d 0 m)[i]?=some s/\a.val=p/\∀t,d s a=some t->t∈FG.ord l4 d 0 m:=fun i p hi hp=>by
  rw[Iu] at hi;have hs:=DW hi;exact⟨_,⟨p,hp⟩,hs,rfl,fun t ht=>FG.JG hs (DT hi hm) (Ea (iS hp)) ht⟩
 unfold isG;rw[ne,Bool.not_false,Gm,Ey,Jd,Jd];refine⟨fun i p hi hp=>?_,fun i p hi hp=>?_⟩
 ·obtain⟨s,a,hs,rfl,ht⟩:=at_ i p hi hp;rw[cQ hs a];cases e:d s a with
  |none=>rfl
  |some t=>
   have hl:=FX (ht t e);show(decide ((0:Int)<=(((FG.ord l4 d 0 m).idxOf t:Nat):Int))&&decide ((((FG.ord l4 d 0 m).idxOf t:Nat):Int)<(((cGd d m).length:Nat):Int)))=true;rw[Ey,decide_eq_true_eq,decide_eq_true_eq,Iu];exact⟨HN _,Gp.mpr hl⟩
 ·obtain⟨s,a,hs,rfl,ht⟩:=at_ i p hi hp;unfold vK;rw[cQ hs a];cases e:d s a with
  |none=>rfl
  |some t=>
   show decide (ent (cGd d m) (((FG.ord l4 d 0 m).idxOf t:Nat):Int).toNat ((a.val+2) % 4)=some (i:Int))=true;rw[EC,decide_eq_true_eq];have:=cQ (mh (ht t e)) (iv4 a);rw[show(iv4 a).val=(a.val+2) % 4 from rfl,hb _ _ _ e] at this;rw[this];show some (((FG.ord l4 d 0 m).idxOf s:Nat):Int)=_;rw[pI (FG.Jl m) hs]
theorem lJ(hm:(FG.ord l4 d 0 m).length<=m):∀(w:List Nat)(s:Nat),s∈FG.ord l4 d 0 m->w.foldl (fun s c=>s.bind fun e=>ent (cGd d m) e.toNat (place c)) (some (((FG.ord l4 d 0 m).idxOf s:Nat):Int))=(FG.walk d s (w.map pl4)).map fun t=>(((FG.ord l4 d 0 m).idxOf t:Nat):Int)
 |[],s,hs=>rfl
 |c::w,s,hs=>by
  rw[Fh,Ex];have hi:=FX hs;have e:=cQ (mh hs) (pl4 c);show List.foldl _ (ent (cGd d m) (((FG.ord l4 d 0 m).idxOf s:Nat):Int).toNat (place c)) w=((d s (pl4 c)).bind fun t=>FG.walk d t (w.map pl4)).map _;rw[EC,show place c=(pl4 c).val from rfl,e];cases ht:d s (pl4 c) with
  |none=>
   show List.foldl _ none w=none;have:∀w:List Nat,w.foldl (fun(s:Option Int) c=>s.bind fun e=>ent (cGd d m) e.toNat (place c)) none=none:=fun w=>by
    induction w with
    |nil=>rfl
    |cons c w ih=>exact ih
   exact this w
  |some t=>
   have hmem:=FG.JG (mh hs) (DT hi hm) (Ea (iS (pl4 c).isLt)) ht;exact lJ hm w t hmem
end
theorem GOf.isG{ws:List (List (Fin 4))}{G:List Row}(h:GOf ws G):isG G=true:=by
 obtain⟨d,m,F,hm,rfl⟩:=h;exact tT F.back hm
theorem GOf.gone{ws:List (List (Fin 4))}{G:List Row}(h:GOf ws G){w:List Nat}(hr:FG.IB iv4 (w.map pl4)):iR G w=some 0↔FG.InH iv4 ws (w.map pl4):=by
 obtain⟨d,m,F,hm,rfl⟩:=h;rw[<- F.iff IH hr];obtain⟨y,ey⟩:=FG.Mf (ls:=l4) (d:=d) (z:=0) m;have h0:(0:Nat)∈FG.ord l4 d 0 m:=by rw[ey];exact DS
 have i0:(FG.ord l4 d 0 m).idxOf 0=0:=by rw[ey,List.idxOf_cons_self]
 have e:=lJ hm w 0 h0;rw[i0] at e;unfold iR;have e':w.foldl (fun s c=>s.bind fun e=>ent (cGd d m) e.toNat (place c)) (some 0)=(FG.walk d 0 (w.map pl4)).map fun t=>(((FG.ord l4 d 0 m).idxOf t:Nat):Int):=e;rw[e'];cases hw:FG.walk d 0 (w.map pl4) with
 |none=>exact⟨(fun z=>by cases z),(fun z=>by cases z)⟩
 |some t=>
  constructor
  ·intro z;injection z with z;have z':(FG.ord l4 d 0 m).idxOf t=0:=Int.ofNat.inj z;rw[ey,FW] at z';by_cases q:(0==t)=true
   ·rw[show t=0 by simpa using(HU.mp q).symm]
   ·rw[show((0:Nat)==t)=false by simpa using q] at z';exact absurd z' (by simp)
  ·intro z;injection z with z;rw[z,FF,i0];rfl
theorem tG{kvs:List (Key×V)}(nd:(kvs.map (·.1)).Nodup){j:Nat}{p:Key×V}(h:kvs[j]?=some p):bg kvs p.1=some p.2:=by
 induction kvs generalizing j with
 |nil=>cases h
 |cons q r ih=>
  rw[Ex,FM] at nd;cases j with
  |zero=>simp at h;subst h;rw[aO rfl]
  |succ j=>
   have h':r[j]?=some p:=by simpa using h
   have ne:q.1≠p.1:=fun z=>nd.1 (z▸FV (Ea h'));rw[aK (e:=ne)];exact ih nd.2 h'
theorem yA{kvs:List (Key×V)}(nd:(kvs.map (·.1)).Nodup){i j:Nat}{p q:Key×V}(h:kvs[i]?=some p)(k:kvs[j]?=some q)(e:p.1=q.1):i=j:=by
 have h1:(kvs.map (·.1))[i]?=some p.1:=by rw[DY,h];rfl
 have h2:(kvs.map (·.1))[j]?=some p.1:=by rw[DY,k,e];rfl
 obtain⟨a,ea⟩:=DU.mp h1;obtain⟨b,eb⟩:=DU.mp h2;exact(FZ nd).mp (ea.trans eb.symm)
theorem dH{kvs:List (Key×V)}{i:Nat}{p:Key×V}(h:kvs[i]?=some p)(k:Key):k∈(kvs.take (i+1)).map (·.1)↔k=p.1\/k∈(kvs.take i).map (·.1):=by
 rw[Eo,h,Ef,DX];show _\/k∈[p.1]↔_;rw[Ei,or_comm]
structure LdI(H0 H':Hp)(L:Addr)(D:Nat->Addr)(pv:Nat->List (Key×V))(f:Lm)(kvs:List (Key×V))(o:Obj)(i:Nat)(ys:List (Key×V)):Prop where
 l:H' L=some (.frz o (.dK kvs))
 kp:Kp H0 H'
 n:ys.length<=i
 rd:∀s,f s≠none->Rd H' (D s) (.dK (pv s))
 pl:∀j s v,i<=j->kvs[j]?=some (.inl ((s:Nat):Int),v)->H' (D s)=some (.dK (pv s))
 no:∀s:Nat,(.inl (s:Int):Key)∉(kvs.take i).map (·.1)->bg ys (.inl (s:Int))=none
 yes:∀s g,f s=some g->(.inl ((s:Nat):Int):Key)∈(kvs.take i).map (·.1)->∃e qvs,bg ys (.inl (s:Int))=some (.ref e)/\H' e=some (.dK qvs)/\(∀t,f t≠none->e≠D t)/\∀p:Nat,p<4->bg qvs (.inl (p:Int))=(g p).map fun e=>V.int (e:Nat)
def yN (H:Hp)(D:Nat->Addr)(s:Nat):List (Key×V):=match H (D s) with
 |some (.dK l)=>l
 |_=>[]
theorem sX{H H':Hp}{d:Addr}{pvs:List (Key×V)}{o:Obj}(k:Kp H H')(h:H' d=some (.dK pvs)):Kp H (upd H' d (.frz o (.dK pvs))):=fun a u ha n=>by
 have:=k a u ha n;rw[au (fun z=>by rw[z,h] at this;injection this with this;exact n _ this.symm)];exact this
def Mp:Sp:=fun vs H Q _=>∃l us ws,vs=[.ref l]/\H l=some (.lst us)/\Mks H us ws/\Wds ws /\
 ∀g rs G H',Kp H H'->Le H g->GrL H' g rs G->GOf (wF ws) G->G.length<=100->Q (.ref g) H'
theorem wR{dm df dp dn d:DD}(BG:(dg "wide_maker_words" 32 ["makers"] dm 5 OG))(By:(dg "folded" 18 ["ways"] df 5 Oq))(BM:(dg "petals" 10 ["words","rows"] dp 3 NY))(BI:(dg "numbered" 34 ["leads","first"] dn 2 OW))(D:Def K mg "graph_of" (top 35) ["makers"] d):(fk 6 d ["makers"] Mp):=by
 exists["makers","words","laid","relations","leads"]
 obtain⟨l,us,ws,rfl,hl,hM,hW,q⟩:=h;refine⟨_,(ae (aw 1 (bu BG.1 BG.2 (0) aC)) (ae (cx (bu By.1 By.2 (bz BM.1 BM.2 (ag (1) (aL (bB (aA (ts:=["word"]) (cap:=[]) (js:=[]) rfl rfl rfl rfl rfl rfl (by decide +kernel)) (bp (1)) (am 0 (nd ["word"])) (@aX _) (aY (Ii _))) (by rfl)) aC)) dv) (cj (ax (ad 2) (ax (ar 3) (Ip _))))) (ae (pO 4 (eJ (t:="state") (ts:=["state"]) (cap:=["laid"]) (js:=[2]) [(".0",NameKind.local)] _ rfl rfl rfl rfl rfl rfl rfl (by decide +kernel) (by decide +kernel)) (iP (2)) (@ar _ _ 0 _ (nd ["state","laid"]) rfl (Or.inr rfl) (.inl rfl)) (@aX _) (0) (qJ (aA (ts:=["place"]) (cap:=["state","laid"]) (js:=[0,1]) rfl rfl rfl rfl rfl rfl (by decide +kernel)) (iP (bC (bK hr) (1) (0))) (am 0 (nd ["place","state","laid"])) (@aX _) (0) (aN (show IxR _ (rE K) from Il) (bC (bK hr) (bC (bK hr) (2) (1)) (0)) (ah _)))) (aq (aH (bz BI.1 BI.2 (ag (4) (aL (ah _) bI) aC))))))),?_⟩
 walk_at "d"
 have lt:(aR ws).length=ws.length:=DQ _;have lb:=Kq ws [] hW.l10;have lb2:(pts ws).length<=80:=by unfold pts;simp only[Gh] at lb;have:=hW.n8;lia
 refine⟨_,rfl,l,us,ws,rfl,hl,hM,hW,fun W H1 S1 hw1=>?_⟩;refine⟨_,rfl,_,rfl,W,rfl,⟨_,SqL.of hw1⟩,?_⟩;refine fH (K:=K) (a:=W) (xs:=aR ws) (fun i ys H'=>Ia H1 H'/\ys.length=i/\∀y∈ys,Rw H' y) ⟨Ia.refl _,rfl,fun _ h=>by cases h⟩ (fun i ys H' hi z=>FN z.2.1) (by rw[lt];exact aJ (by have:=hW.n8;lia)) (fun i ys H' hi z=>SqL.of (z.1 _ _ hw1)) (fun i x ys H' hx z=>?_) (fun rs H2 z R hR=>?_)
 ·obtain⟨z1,z2,z3⟩:=z;have hi:i<(aR ws).length:=(DU.mp hx).1;refine⟨Ec _,fun e he=>Nx.mk hi ⟨z1.trans (ao he _),by rw[DR,z2];rfl,fun y hy=>?_⟩⟩;rcases DX.mp hy with hy|hy
  ·exact(z3 y hy).mono (ao he _)
  ·simp at hy;subst hy;exact⟨e,rfl,af⟩
 obtain⟨z1,z2,z3⟩:=z;have T1:=ao hR (.lst rs);refine⟨W,R,ws,rs,rfl,(z1.trans T1) _ _ hw1,af,by rw[z2,lt],fun r hr=>(z3 r hr).mono T1,fun w hw=>⟨hW.w w hw,hW.l10 w hw⟩,hW.n8,fun B wv H3 S3 hB hwv=>?_⟩;have pk:=vW ws;have S03:Ia H H3:=S1.trans (z1.trans (T1.trans S3));refine⟨B,wv,pts ws,(pts ws).length+1,wF ws,rfl,hB,hwv,by lia,by lia,by lia,pk.bnd,pk.pre,fun y a r L f H4 k4 ey ha hL hP hG f0 hn=>?_⟩;subst ey;have K04:Kp H H4:=(Kp.of S03).trans k4;have F:FG.Fold iv4 (wF ws) (dL f) 0:=hP.done fun s a t=>by
  unfold Ew dL;exact⟨(fun h=>h.elim id fun h=>h.elim (fun h=>(by cases h)) fun h=>(by cases h)),fun h=>.inl h⟩
 have hS:Mb f ((pts ws).length+1):=⟨f0,fun s p e h=>hG.e h,hn⟩
 obtain⟨kvs,h1,h2,h3,h4,D0,h5,h6⟩:=hL;have hpv:∀s,f s≠none->H4 (D0 s)=some (.dK (yN H4 D0 s)):=fun s hs=>by
  obtain⟨g,hg⟩:=EM.mp hs;obtain⟨_,⟨pvs,b1,_⟩,_⟩:=h5 s g hg;unfold yN;rw[b1]
 have hkl:kvs.length<=100:=by
  have:=List.Nodup.length_le_of_subset h2 (l₂:=(List.range ((pts ws).length+1)).map fun (i:Nat)=>(Sum.inl (i:Int):Key)) (fun x hx=>by
   obtain⟨t,rfl⟩:=h3 x hx;refine Em.mpr ⟨t,Es.mpr (GG fun z=>?_),rfl⟩;obtain⟨v,hv⟩:=eM hx
   rw[h4 t (hn t z)] at hv; cases hv)
  rw[DQ,DQ,EG] at this
  lia
 have hk:∀(i:Nat)(p:Key×V),kvs[i]?=some p->∃s g,p.1=.inl ((s:Nat):Int)/\f s=some g:=fun i p hp=>by
  obtain⟨s,es⟩:=h3 p.1 (FV (Ea hp));have hv:=tG h2 hp;rw[es] at hv;cases hf:f s with
  |none=>rw[h4 s hf] at hv;cases hv
  |some g=>exact⟨s,g,es,hf⟩
 refine⟨a,_,rfl,SqT.of ha,rfl,_,_,rfl,_,_,rfl,rfl,?_⟩;refine⟨_,rfl,L,kvs,rfl,h1,fun o=>?_⟩;have dL0:∀s g,f s=some g->D0 s≠L:=fun s g hg=>(h5 s g hg).2.2;refine sV (a:=L) (o:=o) (kvs:=kvs) (fun i ys H'=>LdI H4 H' L D0 (yN H4 D0) f kvs o i ys) ⟨af,sX (Kp.refl _) h1,Ec _,fun s hs=>?_,fun j s v _ hj=>?_,fun _ _=>rfl,fun s g _ h=>?_⟩ (fun i ys H' hi z=>z.n) (Ee hkl (by decide)) (fun i ys H' hi z=>z.l) (fun i p ys H' hp z=>?_) (fun ys H' z Ld' hLd=>?_)
 ·obtain⟨g,hg⟩:=EM.mp hs;exact .inl (by rw[au (dL0 s g hg)];exact hpv s hs)
 ·obtain⟨s',g,es,hg⟩:=hk j _ hj;have:s'=s:=by injection es with es;exact(Int.ofNat.inj es).symm
  subst this;rw[au (dL0 s' g hg)];exact hpv s' (by rw[hg];exact fun z=>by cases z)
 ·rw[GW] at h;cases h
 ·obtain⟨s1,g,es,hg⟩:=hk i p hp;have hi:i<kvs.length:=(DU.mp hp).1;have fs:f s1≠none:=by rw[hg];exact fun z=>by cases z
  obtain⟨a1,⟨pvs,b1,b2,b3,b4,b5⟩,a3⟩:=h5 s1 g hg;have epv:yN H4 D0 s1=pvs:=by have:=hpv s1 fs;rw[b1] at this;injection this with this;injection this with this;exact this.symm
  have hpl:=z.pl i s1 p.2 (DP _) (by rw[<- es];exact hp);rw[epv] at hpl;rw[es];have gL:∀{H''},H'' L=some (.frz o (.dK kvs))->IE H'' L (.int (s1:Nat)) (some (.ref (D0 s1))):=fun {H''} h=>.inl ⟨kvs,.inl (s1:Int),.inr ⟨o,h⟩,rfl,a1.symm⟩;refine⟨_,rfl,.inl (s1:Int),rfl,_,rfl,_,rfl,L,_,rfl,gL z.l,D0 s1,pvs,rfl,hpl,fun o2=>?_⟩;have zl:(upd H' (D0 s1) (.frz o2 (.dK pvs))) L=some (.frz o (.dK kvs)):=by rw[au (HI a3)];exact z.l
  have zd:(upd H' (D0 s1) (.frz o2 (.dK pvs))) (D0 s1)=some (.frz o2 (.dK pvs)):=af;have zk:Kp H4 (upd H' (D0 s1) (.frz o2 (.dK pvs))):=sX z.kp hpl;have zo:∀b,b≠D0 s1->(upd H' (D0 s1) (.frz o2 (.dK pvs))) b=H' b:=fun b hb=>au hb;generalize upd H' (D0 s1) (.frz o2 (.dK pvs))=H5 at zl zd zk zo ⊢;have hpl4:pvs.length<=4:=by
   have:=List.Nodup.length_le_of_subset b2 (l₂:=[.inl 0,.inl 1,.inl 2,.inl 3]) (fun x hx=>by
    obtain⟨p,hp,rfl⟩:=b3 x hx;have:p=0\/p=1\/p=2\/p=3:=by lia
    rcases this with rfl | rfl | rfl | rfl <;> simp)
   rw[DQ] at this;exact this
  refine sV (a:=D0 s1) (o:=o2) (kvs:=pvs) (fun j zs H''=>Ia H5 H''/\zs.length<=j/\∀p:Nat,((.inl (p:Int):Key)∈(pvs.take j).map (·.1)->bg zs (.inl (p:Int))=(g p).map (fun e=>V.int (e:Nat)))/\((.inl (p:Int):Key)∉(pvs.take j).map (·.1)->bg zs (.inl (p:Int))=none)) ⟨Ia.refl _,DP _,fun p=>?_⟩ (fun j zs H'' hj y=>y.2.1) (Ee hpl4 (by decide)) (fun j zs H'' hj y=>y.1 _ _ zd) (fun j r zs H'' hr' y=>?_) (fun zs H'' y e he=>?_)
  ·rw[GW];exact⟨(fun h=>by cases h),fun _=>rfl⟩
  ·obtain⟨y1,y2,y3⟩:=y;have hj:j<pvs.length:=(DU.mp hr').1;obtain⟨p',hp4,ep⟩:=b3 r.1 (FV (Ea hr'));have hv:=tG b2 hr';rw[ep] at hv;have hge:∃e,g p'=some e:=by
    cases hgp:g p' with
    |none=>rw[b4 p' hgp] at hv;cases hv
    |some e=>exact⟨e,rfl⟩
   obtain⟨e,hge⟩:=hge;obtain⟨v',hv',t,r',ev,ht,_⟩:=b5 p' e hge;rw[hv'] at hv;injection hv with hv;have ht2:H'' t=some (.tup [.int (e:Nat),r']):=y1 _ _ (zk _ _ ht fun _ e=>by cases e);rw[ep];have gD:IE H'' (D0 s1) (.int (p':Nat)) (some v'):=.inl ⟨pvs,.inl (p':Int),.inr ⟨o2,y1 _ _ zd⟩,rfl,hv'.symm⟩;subst ev;refine⟨_,rfl,.inl (p':Int),rfl,_,rfl,_,rfl,L,_,rfl,gL (y1 _ _ zl),_,rfl,D0 s1,_,rfl,gD,t,_,0,_,rfl,rfl,SqT.of ht2,rfl,NxD.mk hj ⟨y1,Ee (bO _ _ _) (HM y2),fun p=>?_⟩⟩;rw[bj];by_cases ek:(.inl (p:Int):Key)=.inl (p':Int)
   ·have:p=p':=by injection ek with ek;exact Int.ofNat.inj ek
    subst this;rw[Hq rfl];exact⟨fun _=>by rw[hge];rfl,fun h=>absurd ((dH hr' _).mpr (.inl ep.symm)) h⟩
   ·rw[Ho ek];exact⟨fun h=>(y3 p).1 (((dH hr' _).mp h).resolve_left fun q=>ek (q.trans ep)),fun h=>(y3 p).2 fun q=>h ((dH hr' _).mpr (.inr q))⟩
  ·obtain⟨y1,y2,y3⟩:=y;rw[Ez] at y3;have U:=ao he (.dK zs);have V1:=y1.trans U;have ned:∀t,f t≠none->e≠D0 t:=fun t ht q=>by
    rcases z.rd t ht with w|⟨o',w⟩
    ·by_cases qt:D0 t=D0 s1
     ·rw[q,qt,y1 _ _ zd] at he;cases he
     ·rw[q,y1 _ _ (by rw[zo _ qt];exact w)] at he;cases he
    ·by_cases qt:D0 t=D0 s1
     ·rw[q,qt,y1 _ _ zd] at he;cases he
     ·rw[q,y1 _ _ (by rw[zo _ qt];exact w)] at he;cases he
   refine NxD.mk hi ⟨V1 _ _ zl,zk.trans (Kp.of V1),Ee (bO _ _ _) (HM z.n),fun t ht=>?_,fun j t v hj ht=>?_,fun t ht=>?_,fun t gt hgt ht=>?_⟩
   ·by_cases qt:D0 t=D0 s1
    ·have:t=s1:=h6 t s1 ht fs qt;subst this;rw[epv];exact .inr ⟨o2,V1 _ _ zd⟩
    ·refine(z.rd t ht).imp (fun w=>V1 _ _ (by rw[zo _ qt];exact w)) fun hq114=>?_;obtain⟨o',w⟩:=hq114;exact⟨o',V1 _ _ (by rw[zo _ qt];exact w)⟩
   ·obtain⟨t',gt,et,hgt⟩:=hk j _ ht;have:t'=t:=by injection et with et;exact(Int.ofNat.inj et).symm
    subst this;have nts:t'≠s1:=fun q=>by
     have:=yA h2 ht hp (by rw[es,q])
     lia
    have qt:D0 t'≠D0 s1:=fun q=>nts (h6 t' s1 (by rw[hgt];exact fun z=>by cases z) fs q);exact V1 _ _ (by rw[zo _ qt];exact z.pl j t' v (by lia) ht)
   ·have n1:=fun q=>ht ((dH hp _).mpr (.inl q));have n2:=fun q=>ht ((dH hp _).mpr (.inr q));rw[bj,Ho (fun q=>n1 (by rw[es];exact q))];exact z.no t n2
   ·by_cases q:t=s1
    ·subst q;have eg:gt=g:=by rw[hg] at hgt;injection hgt with hgt;exact hgt.symm
     subst eg;refine⟨e,zs,by rw[bj,Hq rfl],af,ned,fun p hp4=>?_⟩;cases hgp:gt p with
     |none=>
      exact(y3 p).2 fun q=>by
       obtain⟨v,hv⟩:=eM q;rw[b4 p hgp] at hv;cases hv
     |some e'=>
      obtain⟨v',hv',_⟩:=b5 p e' hgp;rw[(y3 p).1 (gG hv'),hgp]
    ·have nk:(.inl ((t:Nat):Int):Key)≠.inl ((s1:Nat):Int):=gM q;obtain⟨e',qvs,c1,c2,c3,c4⟩:=z.yes t gt hgt (((dH hp _).mp ht).resolve_left (by rw[es];exact nk));refine⟨e',qvs,by rw[bj,Ho nk];exact c1,V1 _ _ (by rw[zo _ (c3 s1 fs)];exact c2),c3,c4⟩
 ·have U:=ao hLd (.dK ys);have hLD:Ld (upd H' Ld' (.dK ys)) Ld' f:=by
   refine⟨ys,af,fun s hs=>z.no s fun q=>?_,fun s g hg=>?_⟩
   ·rw[Ez] at q;obtain⟨v,hv⟩:=eM q;rw[h4 s hs] at hv;cases hv
   ·have hin:(.inl ((s:Nat):Int):Key)∈(kvs.take kvs.length).map (·.1):=by rw[Ez];exact gG (h5 s g hg).1
    obtain⟨e,qvs,c1,c2,_,c4⟩:=z.yes s g hg hin;exact⟨e,qvs,c1,U _ _ c2,c4⟩
  refine⟨_,rfl,Ld',f,_,rfl,hLD,hS,by lia,fun g rs m H6 S6 n6 hm hg=>?_⟩;have K06:Kp H H6:=K04.trans (z.kp.trans ((Kp.of U).trans (Kp.of S6)));refine q g rs _ H6 K06 (ye (K04.trans (z.kp.trans (Kp.of U))) n6) hg ⟨dL f,m,F,hm,rfl⟩ ?_;rw[kM];have:=hS.len m
  lia
end
end K3
namespace L2
open PySem PySem.Spec PyProof.Rows
theorem xS{K:W.Frag}{a:Addr}{xs:List V}{k:Nat}{js:List Nat}{g:TG}{tc:TT}{wi1:TI}{g1:TG}{tc1:TT}{te:TE}{σ:St}{H:Hp}{Q:VK}(P:Nat->List V->Hp->Prop)(h0:P 0 [] H)(hz:∀i ys H,i<=xs.length->P i ys H->ys.length<=sizeLine)
  (hl:∀i ys H,i<=xs.length->P i ys H->SqL K H a xs)
  (hs:∀i x ys H,xs[i]?=some x->P i ys H->g x (List.replicate k none++cS js σ) H fun σ2 H2=>tc σ2 H2 fun b H3=>if b=true then wi1 σ2 H3 fun J1 H4=>jU J1 g1 tc1 te σ2 H4 ys fun ys' H5=>Nx xs.length i P ys' H5 else Nx xs.length i P ys H3)
  (hd:∀ys H,P xs.length ys H->∀p,H p=none->Q (.ref p) (upd H p (.lst ys))):oJ (Itl K a) k js g tc wi1 g1 tc1 te σ H Q:=
 sC P h0 hz (fun i ys H h p=>⟨xs,xs[i],hl i ys H (EH h) p,by simp [h]⟩) (fun ys H p=>⟨xs,hl _ ys H (DP _) p,DP _⟩) (fun i ys H x H' hi p y=>by
  obtain⟨e,y⟩:=y;subst e
  exact hs i x ys _ (y xs (hl i ys _ (EH hi) p)) p) hd
theorem xx{K:W.Frag}{a:Addr}{xs:List V}{g:TG}{tc:TT}{te:TE}{σ0:St}{H0:Hp}{ys0:List V}{Q:List V->Hp->Prop}(P:Nat->St->List V->Hp->Prop)(h0:P 0 σ0 ys0 H0)(hz:∀j σ ys H,j<=xs.length->P j σ ys H->ys.length<sizeLine)
  (hl:∀j σ ys H,j<=xs.length->P j σ ys H->SqT K H a xs)
  (hs:∀j σ ys H x,xs[j]?=some x->P j σ ys H->g x σ H fun σ2 H2=>tc σ2 H2 fun b H3=>if b=true then te σ2 H3 fun y H4=>NxV xs.length j P σ2 (ys++[y]) H4 else NxV xs.length j P σ2 ys H3)
  (hd:∀σ ys H,P xs.length σ ys H->Q ys H):jU (Itt K a) g tc te σ0 H0 ys0 Q:=
 sg P h0 hz (fun j σ ys H h p=>⟨xs,xs[j],hl j σ ys H (EH h) p,by simp [h]⟩) (fun σ ys H p=>⟨xs,hl _ σ ys H (DP _) p,DP _⟩) (fun j σ ys H x H' hj p y=>by
  obtain⟨e,y⟩:=y;subst e
  exact hs j σ ys _ x (y xs (hl j σ ys _ (EH hj) p)) p) hd
end L2
namespace K3
open PySem PySem.Spec PyProof.Rows L2
section
variable {P:Program}{w:World}{K:PySem.W.Frag}{mg:Str->Option Value}{base:Heap}
def w2 (r:Row):Nat:=((r.take 2).filter fun o=>o.isSome).length
def JP(G:List Row):Nat:=(G.map w2).sum
theorem zm(r:Row):w2 r<=2:=Ee (FO _ _) (by rw[Eu];exact Gy _ _)
theorem JH:∀G:List Row,JP G<=2*G.length
 |[]=>DP _
 |r::G=>by
  have:=JH G;have:=zm r;show w2 r+JP G<=2*(G.length+1)
  lia
theorem mw{G:List Row}{i:Nat}{r:Row}(h:G[i]?=some r):JP (G.take (i+1))=JP (G.take i)+w2 r:=by
 unfold JP;rw[Eo,h,Ef,List.sum_append];rfl
theorem nS{r:Row}(h:r.length=4):∃a b c d,r=[a,b,c,d]:=by
 match r,h with
 |[a,b,c,d],_=>exact⟨a,b,c,d,rfl⟩
def OS:Sp:=fun vs H Q _=>∃l us ws,vs=[.ref l]/\H l=some (.lst us)/\Mks H us ws/\Wds ws /\
 ∀G H',Kp H H'->GOf (wF ws) G->Q (.int ((JP G:Nat)-(G.length:Nat)+1)) H'
theorem wC{dg d:DD}(AB:(dg "graph_of" 35 ["makers"] dg 6 Mp))(D:Def K mg "rank" (top 36) ["makers"] d)(Aj:mg "len"=none):(fk 7 d ["makers"] OS):=by
 exists["makers","graph","told"]
 obtain⟨l,us,ws,rfl,hl,hM,hW,q⟩:=h;refine⟨_,(ae (aw 1 (bu AB.1 AB.2 (0) aC)) (ae (sG 2 (aA (ts:=["ends","end"]) (cap:=[]) (js:=[]) rfl rfl rfl rfl rfl rfl (by decide +kernel)) (bp (1)) (am 0 (nd ["ends","end"])) (@aX _) (@uj _ _ _ _ K rfl (dG (show SlR _ (zU K) from OR) (0) (@Jh _) (eA (ah _)))) (am 1 (nd ["ends","end"])) (@kn _ _ _ (aB Jj (1) (bR _) (aD _))) (1) (by intro _ _;rfl)) (aq (aH (ay Ij (ay IC (aP HW Aj (2) aC) (aP HW Aj (1) aC)) (ah _)))))),?_⟩
 walk_at "d"
 refine⟨_,rfl,l,us,ws,rfl,hl,hM,hW,fun g rs G H1 k1 n1 hg hG lg=>?_⟩;have ll:=hg.len;refine⟨_,rfl,g,rfl,⟨_,SqL.of hg.lst⟩,?_⟩;refine xS (K:=K) (a:=g) (xs:=rs) (fun i ys H'=>Ia H1 H'/\ys.length=JP (G.take i)) ⟨Ia.refl _,rfl⟩ (fun i ys H' hi z=>?_) (fun i ys H' hi z=>SqL.of (z.1 _ _ hg.lst)) (fun i x ys H' hx z=>?_) (fun ys H' z p hp=>?_)
 ·have:=JH (G.take i);rw[Eu] at this;rw[z.2];exact aJ (by lia)
 ·obtain⟨z1,z2⟩:=z;have hi:i<rs.length:=(DU.mp hx).1;obtain⟨r,hr',a,rfl,ha⟩:=dY hg.rows hx;have h4:=hg.four r (Ea hr');have wn:=mw hr';obtain⟨x0,x1,x2,x3,rfl⟩:=nS h4;have bnd:=JH (G.take i);rw[Eu] at bnd;refine⟨_,rfl,_,rfl,a,_,rfl,SqT.of (z1 _ _ ha),(fun h=>absurd (show HT.sIx 4 4 (some 2)=4 from h.2) (by decide)),fun p hp=>?_⟩;have U:=ao hp (.tup (qB ([x0,x1,x2,x3].map ov) none (some 2)));refine⟨p,rfl,⟨_,SqT.of af⟩,?_⟩;refine xx (K:=K) (a:=p) (xs:=[ov x0,ov x1]) (fun j σ' zs H''=>(∃c,σ'=[some (.ref a),c])/\Ia (upd H' p (.tup (qB ([x0,x1,x2,x3].map ov) none (some 2)))) H''/\zs.length=ys.length+((([x0,x1]:Row).take j).filter fun o=>o.isSome).length) ⟨⟨_,rfl⟩,Ia.refl _,rfl⟩ (fun j σ' zs H'' hj y=>?_) (fun j σ' zs H'' hj y=>SqT.of (y.2.1 _ _ af)) (fun j σ' zs H'' x hx y=>?_) (fun σ' zs H'' y=>?_)
  ·have:=FO (fun o=>o.isSome) (([x0,x1]:Row).take j);rw[Eu] at this;rw[y.2.2,z2];exact Fi (by simp at this;lia:_<=1000) (by decide)
  ·obtain⟨⟨c,rfl⟩,y1,y2⟩:=y;have hj:j<2:=(DU.mp hx).1;have hx':(([x0,x1]:Row).map ov)[j]?=some x:=hx;rw[DY] at hx';obtain⟨o,ho,rfl⟩:=EB.mp hx';refine⟨_,rfl,rfl,_,rfl,?_⟩;have et:(([x0,x1]:Row).take (j+1)).filter (fun o=>o.isSome)=(([x0,x1]:Row).take j).filter (fun o=>o.isSome)++[o].filter (fun o=>o.isSome):=by rw[Eo,ho,List.filter_append];rfl
   cases o with
   |none=>
    rw[show(!decide (ov (none:Option Int)=V.non))=false from rfl];dsimp only;rw[Ho Ek];refine NxV.mk hj ?_;exact⟨⟨_,rfl⟩,y1,by rw[et,y2];simp⟩
   |some n=>
    rw[show(!decide (ov (some n)=V.non))=true from rfl];dsimp only;rw[Hq rfl];refine⟨_,rfl,?_⟩;refine NxV.mk hj ?_;exact⟨⟨_,rfl⟩,y1,by rw[et,DR,y2,DR];rfl⟩
  ·obtain⟨_,y1,y2⟩:=y;refine Nx.mk hi ⟨z1.trans (U.trans y1),?_⟩;rw[y2,z2,wn];rfl
 ·obtain⟨z1,z2⟩:=z;have U:=ao hp (.lst ys);rw[ll,Ez] at z2;refine⟨_,rfl,p,ys,rfl,.inl (SqL.of af),_,rfl,g,rs,rfl,.inl (SqL.of ((z1.trans U) _ _ hg.lst)),_,_,rfl,rfl,_,_,rfl,rfl,?_⟩;have:=q G _ (k1.trans (Kp.of (z1.trans U))) hG;rw[<- z2,<- ll] at this;exact this
def cJ (G:List Row):Bool:=G.all fun r=>r.all fun o=>o.isSome
theorem Ks:∀r:Row,inV .non (r.map ov)=!(r.all fun o=>o.isSome)
 |[]=>rfl
 |o::r=>by
  have:=Ks r;unfold inV at this ⊢;rw[Ex,FC,this,Gx];cases o with
  |none=>rfl
  |some i=>rfl
theorem lh(r:Row):(r.map ov).all Jy=true:=by
 rw[EE];intro x hx;obtain⟨o,_,rfl⟩:=Em.mp hx;cases o<;>rfl
theorem so(G:List Row):(!((G.map fun r=>!(r.all fun o=>o.isSome)).any id))=cJ G:=by
 unfold cJ;induction G with
 |nil=>rfl
 |cons r G ih=>rw[Ex,FC,Gx,<- ih];simp
def Nu:Sp:=fun vs H Q _=>∃g rs G,vs=[.ref g]/\GrL H g rs G/\∀H',Ia H H'->Q (.bl (cJ G)) H'
theorem vX{d:DD}(D:Def K mg "is_full" (top 37) ["graph"] d)(Dy:mg "any"=none):(fk 1 d ["graph"] Nu):=by
 exists["graph"]
 obtain⟨g,rs,G,rfl,hg,q⟩:=h;refine⟨_,(aq (aH (@sN _ _ _ _ (aS (qY hc) Dy Om (aL (bB (aA (ts:=["ends"]) (cap:=[]) (js:=[]) rfl rfl rfl rfl rfl rfl (by decide +kernel)) (bp (0)) (am 0 (nd ["ends"])) (@aX _) (cu (show OpR _ _ (rIn K false) from Kg) (bR _) (0) rfl)) (by rfl)))))),?_⟩
 walk_at "d"
 have ll:=hg.len;refine⟨_,rfl,g,rfl,⟨_,SqL.of hg.lst⟩,?_⟩;refine fH (K:=K) (a:=g) (xs:=rs) (fun i ys H'=>Ia H H'/\ys=((G.take i).map fun r=>!(r.all fun o=>o.isSome)).map V.bl) ⟨Ia.refl _,rfl⟩ (fun i ys H' hi z=>by rw[z.2,DQ,DQ,Eu];lia) (by rw[ll];exact aJ (Ee hg.few (by decide))) (fun i ys H' hi z=>SqL.of (z.1 _ _ hg.lst)) (fun i x ys H' hx z=>?_) (fun ys H' z p hp=>?_)
 ·obtain⟨z1,rfl⟩:=z;have hi:i<rs.length:=(DU.mp hx).1;obtain⟨r,hr',a,rfl,ha⟩:=dY hg.rows hx;refine⟨_,rfl,a,_,rfl,.inr (SqT.of (z1 _ _ ha)),rfl,lh r,Nx.mk hi ⟨z1,?_⟩⟩;rw[Eo,hr',Ef,Ef];show _++[V.bl (inV .non (r.map ov))]=_;rw[Ks];rfl
 ·obtain⟨z1,rfl⟩:=z;have U:=ao hp (.lst (((G.take rs.length).map fun r=>!(r.all fun o=>o.isSome)).map V.bl));refine⟨p,_,rfl,SqL.of af,_,rfl,?_⟩;have:=q _ (z1.trans U);rw[ll,Ez,so];rw[ll,Ez] at this;exact this
def OB:Sp:=fun vs H Q _=>∃l us ws,vs=[.ref l]/\H l=some (.lst us)/\Mks H us ws/\Wds ws /\
 ∀G H',Kp H H'->GOf (wF ws) G->Q (if cJ G=true then .int (G.length:Nat) else .non) H'
theorem yz{dg df d:DD}(AB:(dg "graph_of" 35 ["makers"] dg 6 Mp))(AN:(dg "is_full" 37 ["graph"] df 1 Nu))(D:Def K mg "index" (top 38) ["makers"] d)(Aj:mg "len"=none):(fk 7 d ["makers"] OB):=by
 exists["makers","graph"]
 obtain⟨l,us,ws,rfl,hl,hM,hW,q⟩:=h;refine⟨_,(ae (aw 1 (bu AB.1 AB.2 (0) aC)) (aq (aH (eQ (fE (bu AN.1 AN.2 (1) aC)) (aP HW Aj (1) aC) (bR _))))),?_⟩
 walk_at "d"
 refine⟨_,rfl,l,us,ws,rfl,hl,hM,hW,fun g rs G H1 k1 n1 hg hG lg=>?_⟩;refine⟨_,rfl,g,rs,G,rfl,hg,fun H2 S2=>⟨_,rfl,?_⟩⟩;have:=q G _ (k1.trans (Kp.of S2)) hG;cases hf:cJ G with
 |true=>
  rw[hf,Hq rfl,<- hg.len] at this;exact⟨_,rfl,g,rs,rfl,.inl (SqL.of (S2 _ _ hg.lst)),this⟩
 |false=>
  rw[hf,Ho (by decide)] at this;exact this
def cM (a:Fin 4):Nat:=if a.val=0 then 117 else if a.val=1 then 118 else if a.val=2 then 85 else 86
theorem Nb:∀a:Fin 4,isW (cM a):=by unfold isW;decide
theorem KP:∀a:Fin 4,pl4 (cM a)=a:=by decide
theorem dJ{c:Nat}(h:isW c):cM (pl4 c)=c:=by rcases h with rfl|rfl|rfl|rfl<;>rfl
theorem lF{c:Nat}(h:isW c):pl4 (bk c)=iv4 (pl4 c):=by rcases h with rfl|rfl|rfl|rfl<;>rfl
theorem uY{c d:Nat}(h:isW c)(k:isW d)(e:pl4 c=pl4 d):c=d:=by rw[<- dJ h,e,dJ k]
theorem Kr:∀{cs:List Nat},(∀c∈cs,isW c)->Red cs->FG.IB iv4 (cs.map pl4)
 |[],_,_=>trivial
 |[_],_,_=>trivial
 |c::d::r,hW,h=>by
  have hc:=hW c DS;have hd:=hW d (Eg _ DS);exact⟨fun e=>h.1 (uY hd hc.bk (by rw[e,lF hc])),Kr (cs:=d::r) (fun x hx=>hW x (Eg _ hx)) h.2⟩
theorem LG:∀(cs st:List Nat),(∀c∈cs,isW c)->(∀c∈st,isW c)->FG.nf iv4 (((cs.foldl psh st).reverse).map pl4)=FG.nf iv4 ((st.reverse++cs).map pl4)
 |[],st,_,_=>by rw[Et];rfl
 |c::cs,st,h,hs=>by
  have hc:=h c DS;have hp:∀x∈psh st c,isW x:=fun x hx=>(kD hx).elim (hs x) fun e=>by rw[e];exact hc
  rw[Fh,LG cs (psh st c) (fun d hd=>h d (Eg _ hd)) hp];cases st with
  |nil=>rfl
  |cons d s=>
   rw[eY];by_cases e:d=bk c
   ·rw[Hq e,Fg,Ej,Ef,Ef]
    have:=FG.Jb IH (s.reverse.map pl4) [pl4 d,pl4 c] (cs.map pl4) (by
     rw[e,lF hc]
     exact FG.IQ IH [pl4 c])
    exact this.symm
   ·rw[Ho e]
    congr 1
    rw[Fg,Ej];rfl
theorem qx{cs:List Nat}(h:∀c∈cs,isW c):FG.nf iv4 ((red cs).map pl4)=FG.nf iv4 (cs.map pl4):=LG cs [] h fun _ h=>by cases h
theorem fi{ws:List (List Nat)}(h:Wds ws):∀w∈wF ws,FG.IB iv4 w:=fun w hw=>by
 obtain⟨cs,hc,rfl⟩:=Em.mp hw;exact Kr (h.w cs hc) (h.r cs hc)
theorem GOf.isIn{ws:List (List (Fin 4))}{G:List Row}(h:GOf ws G){w:List Nat}(hw:∀c∈w,isW c)(hr:Red w):iR G w=some 0↔FG.InH iv4 ws (w.map pl4):=h.gone (Kr hw hr)
def ovd:Option Int->PyData
 |none=>.none
 |some i=>.int i
def grd (G:List Row):PyData:=.list (G.map fun r=>.tuple (r.map ovd))
theorem km{H:Hp}:∀r:Row,DatAll K H (r.map ov) (r.map ovd)
 |[]=>.nil
 |none::r=>.cons .non (km r)
 |some i::r=>.cons (.int i) (km r)
theorem lU{H:Hp}:∀{vs:List V}{G:List Row},Paired (gf H) vs G->DatAll K H vs (G.map fun r=>.tuple (r.map ovd))
 |_,_,.nil=>.nil
 |_,_,.cons ⟨a,e,h⟩ r=>by subst e;exact .cons (.tup (SqT.of h) (km _)) (lU r)
theorem Ko:∀r:Row,PyData.canLayAll0 (r.map ovd)=true
 |[]=>rfl
 |none::r=>Ko r
 |some i::r=>Ko r
theorem LW:∀G:List Row,PyData.canLayAll0 (G.map fun r=>.tuple (r.map ovd))=true
 |[]=>rfl
 |r::G=>by
  show(PyData.canLayAll0 (r.map ovd)&&PyData.canLayAll0 (G.map fun r=>.tuple (r.map ovd)))=true;rw[Ko,LW G];rfl
theorem Ju:∀r:Row,PyData.depthAll (r.map ovd)=0
 |[]=>rfl
 |none::r=>by show max 0 (PyData.depthAll (r.map ovd))=0;rw[Ju r];rfl
 |some i::r=>by show max 0 (PyData.depthAll (r.map ovd))=0;rw[Ju r];rfl
theorem JB:∀G:List Row,PyData.depthAll (G.map fun r=>.tuple (r.map ovd))<=1
 |[]=>Ec _
 |r::G=>by
  have e:(PyData.tuple (r.map ovd)).depth=PyData.depthAll (r.map ovd)+1:=by simp[PyData.depth]
  show max (PyData.tuple (r.map ovd)).depth (PyData.depthAll (G.map fun r=>.tuple (r.map ovd)))<=1;rw[e,Ju];exact Nat.max_le.mpr ⟨DP _,JB G⟩
theorem pR(G:List Row):(grd G).depth<=60:=by
 have e:(grd G).depth=PyData.depthAll (G.map fun r=>.tuple (r.map ovd))+1:=by unfold grd;simp[PyData.depth]
 have:=JB G;lia
theorem Nw:∀G:List Row,PyData.eqv (grd G) (.list [])=G.isEmpty
 |[]=>rfl
 |_::_=>rfl
theorem rm{c:Nat}(h:isW c):iH ("uvUV":Str).cps.toList (⟨#[c]⟩:Str).cps.toList=some (place c):=by
 rcases h with rfl|rfl|rfl|rfl<;>decide +kernel
theorem wo{x:Str}(h:As x):PyData.strOk x=true:=by
 unfold PyData.strOk;rw[<- GR,EE];intro c hc;exact Ht (Nat.lt_trans (h c hc) (by decide))
theorem DatAll.strs{H:Hp}:∀xs:List Str,DatAll K H (xs.map V.str) (xs.map PyData.str)
 |[]=>.nil
 |x::r=>.cons (.str x) (DatAll.strs r)
theorem NK:∀xs:List Str,PyData.eqv (.list (xs.map PyData.str)) (.list [])=xs.isEmpty
 |[]=>rfl
 |_::_=>rfl
theorem KR:∀xs:List Str,(∀x∈xs,PyData.strOk x=true)->PyData.canLayAll0 (xs.map PyData.str)=true
 |[],_=>rfl
 |x::r,h=>by
  show(PyData.strOk x&&PyData.canLayAll0 (r.map PyData.str))=true;rw[h x DS,KR r fun y hy=>h y (Eg _ hy)];rfl
theorem JC:∀xs:List Str,PyData.depthAll (xs.map PyData.str)=0
 |[]=>rfl
 |x::r=>by
  show max 0 (PyData.depthAll (r.map PyData.str))=0;rw[JC r];rfl
theorem kh(xs:List Str):(PyData.list (xs.map PyData.str)).depth<=60:=by
 have e:(PyData.list (xs.map PyData.str)).depth=PyData.depthAll (xs.map PyData.str)+1:=by simp[PyData.depth]
 rw[e,JC];decide
theorem Dr.put{p W:Addr}{H H':Hp}(h:Dr p H H')(n:H W=none)(ne:W≠p)(o:HO):Dr p H (upd H' W o):=by
 refine⟨fun b u e=>?_,?_⟩
 ·have e1:=aE p H _ _ e;have nb:b≠W:=aU e1 n;have e2:=h.same _ _ e;have np:b≠p:=fun z=>by unfold hid at e;rw[Hq z] at e;cases e
  rw[aQ np] at e2 ⊢;rw[au nb];exact e2
 ·obtain⟨a,b,c,e,r⟩:=h.ds;exact⟨a,b,c,by rw[au (HI ne)];exact e,r⟩
theorem gx{p W:Addr}{H:Hp}(ne:W≠p)(o:HO):hid p (upd H W o) W=some o:=by rw[aQ ne,af]
theorem sT{l W b:Addr}{H:Hp}{o o':HO}(h:hid l H b=some o)(ne:b≠W):hid l (upd H W o') b=some o:=by
 by_cases e:b=l
 ·subst e;rw[show hid b H b=none from Hq rfl] at h;cases h
 ·rw[aQ e] at h ⊢;rw[au ne];exact h
structure Gw(cs:List Nat):Prop where
 w:∀c∈cs,isW c
 r:Red cs
 l10:cs.length<=10
theorem ix(ws:List (List Nat))(cs:List Nat):aR ws++[V.str (txt cs)]=aR (ws++[cs]):=by show _=(ws++[cs]).map _;rw[Ef];rfl
theorem jx{l:List V}{r:Int}(h0:0<=r)(h1:r<(l.length:Int)):∃v,atI l r=some v/\v∈l:=by
 obtain⟨n,rfl⟩:=Int.eq_ofNat_of_zero_le h0;have hl:n<l.length:=by lia
 exact⟨l[n],bG (DW hl),Ep hl⟩
theorem mI(ws:List (List Nat)):aR ws=(ws.map txt).map V.str:=by rw[EL];rfl
def OZ:Sp:=fun vs H Q _=>∃p,∃m:Nat,vs=[.ref p,.int (m:Int)]/\1<=m/\m<=10/\Ds H p/\∀W ws H',Dr p H H'->H W=none->hid p H' W=some (.lst (aR ws))->Wds ws->Q (.ref W) H'
theorem xC{dd dt dh db d:DD}(Am:(dg "_law_draw" 43 ["draws","many"] dd 1 JR))(BR:(dg "_law_wide_text" 50 ["draws","most"] dt 3 PD))(Au:(dg "_law_short" 45 ["word"] dh 2 Oi))(AA:(dg "_law_back_word" 46 ["word"] db 2 Pg))(D:Def K mg "_law_wide_makers" (top 51) ["draws","most"] d)(Aj:mg "len"=none)(Ai:mg "range"=none):(fk 4 d ["draws","most"] OZ):=by
 exists["draws","most","words","many","k","word","one","other","way"]
 obtain⟨p,m,rfl,m1,m10,ds,q⟩:=h;have big:∀n:Nat,n<=100000->n<=sizeLine:=fun n h=>aJ (by lia);refine⟨_,(ae (aw 2 (aY (Ii _))) (ae (aw 3 (aN HY (aY (ag (ay Ij (ah _) (bz Am.1 Am.2 (ag (0) (aL (ah _) bI) aC))) (aL (ay Ij (ah _) (bz Am.1 Am.2 (ag (0) (aL (ah _) bI) aC))) (by rfl)) (by rfl))) (ay JF (bz Am.1 Am.2 (ag (0) (aL (ah _) bI) aC)) (ah _)))) (ae (fZ (br (aB JW (3) (ah _) (aD _)) (aq (aw 1 (ah _))) (HZ _))) (ae (bE (bA Ai (aL (3) aC)) (ar 4) (ae (aw 5 (bz BR.1 BR.2 (ag (0) (aL (aN HY (aY (ag (ah _) (ag (ah _) (aL (1) aC) bI) bI)) (bz Am.1 Am.2 (ag (0) (aL (ah _) bI) aC))) (by rfl)) aC))) (ae (fZ (br (aB (fY hr.units) (2) (aY (Ii _)) (aD _)) (ae (aw 6 (aN HY (2) (bz Am.1 Am.2 (ag (0) (aL (aP HW Aj (2) aC) dv) aC)))) (ae (aw 7 (aN HY (2) (bz Am.1 Am.2 (ag (0) (aL (aP HW Aj (2) aC) dv) aC)))) (ae (aw 8 (bz Am.1 Am.2 (ag (0) (aL (ah _) bI) aC))) (aq (br (aB Lh (8) (ah _) (aD _)) (aq (aw 5 (bu Au.1 Au.2 (aN HY (aY (ag (ay Ig (6) (7)) (ag (ay Ig (6) (5)) (ag (ay Ig (6) (bu AA.1 AA.2 (7) aC)) (aL (ay Ig (5) (6)) (by rfl)) (by rfl)) (by rfl)) (by rfl))) (8)) (by rfl)))) (HZ _)))))) (HZ _))) (aq (aV (cE (2) (bu Au.1 Au.2 (dG KZ (5) (@Jh _) (eA (1))) (by rfl)) dv)))))) (aq (aH (2))))))),?_⟩
 walk_at "d"
 refine⟨Ec _,fun W nW=>?_⟩;have W0:=Dr.new ds nW (.lst []);have g0:hid p (upd H W (.lst [])) W=some (.lst (aR [])):=cF ds nW _;have neW:W≠p:=fun z=>by obtain⟨a,b,c,e,_⟩:=ds;rw[z,e] at nW;cases nW
 refine⟨_,rfl,p,4,rfl,W0.ds,by decide,by decide,fun r1 H1 a0 a1 dr1=>?_⟩;refine⟨_,_,rfl,rfl,_,rfl,p,8,rfl,dr1.ds,by decide,by decide,fun r2 H2 b0 b1 dr2=>?_⟩;refine⟨_,_,rfl,rfl,aJ (by show 2<=1000000;decide),fun L nL=>?_⟩;have D1:=Dr.new dr2.ds nL (.lst [.int (1+r1),.int (1+r2)]);have gL:=cF dr2.ds nL (.lst [.int (1+r1),.int (1+r2)]);refine⟨_,rfl,p,4,rfl,D1.ds,by decide,by decide,fun r3 H3 c0 c1 dr3=>?_⟩;have gL3:=aE p _ _ _ (dr3.same _ _ gL);obtain⟨v1,ev1,mv1⟩:=jx (l:=[V.int (1+r1),.int (1+r2)]) (r:=r3/3) (by lia) (by show r3/3<2;lia);obtain⟨many,rfl,mn1,mn8⟩:∃n:Nat,v1=.int (n:Int)/\1<=n/\n<=8:=by
  simp only[Eb,EI,or_false] at mv1;rcases mv1 with rfl|rfl
  ·exact⟨(1+r1).toNat,by congr 1;lia,by lia,by lia⟩
  ·exact⟨(1+r2).toNat,by congr 1;lia,by lia,by lia⟩
 refine⟨_,_,rfl,rfl,⟨by decide,by decide⟩,L,_,r3/3,_,rfl,rfl,SqL.of gL3,ev1,?_⟩;have DD3:=W0.trans (dr1.trans (dr2.trans (D1.trans dr3)));have g3:hid p H3 W=some (.lst (aR [])):=dr3.same _ _ (D1.same _ _ (dr2.same _ _ (dr1.same _ _ g0)));refine⟨fun σ' H'=>∃mo:Nat,σ'=[some (.ref p),some (.int (mo:Int)),some (.ref W),some (.int (many:Int)),none,none,none,none,none]/\H'=H3/\1<=mo/\mo<=10,?_,?_⟩
 ·refine⟨_,rfl,_,_,rfl,rfl,decide ((4:Int)<(many:Int)),rfl,?_⟩;cases h48:decide ((4:Int)<(many:Int)) with
  |true=>exact⟨8,rfl,rfl,by decide,by decide⟩
  |false=>exact⟨m,rfl,rfl,m1,m10⟩
 rintro _ _ ⟨mo,rfl,rfl,mo1,mo10⟩;refine⟨_,rfl,(many:Int),rfl,by lia,by lia,?_⟩;rw[EC];refine bH (lo:=0) (n:=many) (fun i σ H'=>(∃a4 a5 a6 a7 a8,σ=[some (.ref p),some (.int (mo:Int)),some (.ref W),some (.int (many:Int)),a4,a5,a6,a7,a8])/\Dr p H H'/\∃ws,hid p H' W=some (.lst (aR ws))/\ws.length=i/\∀cs∈ws,Gw cs) ⟨⟨_,_,_,_,_,rfl⟩,DD3,[],g3,rfl,fun cs h=>absurd h (by simp)⟩ (fun i σ H' hi z=>?_) (fun σ H' z=>?_)
 ·obtain⟨⟨a4,a5,a6,a7,a8,rfl⟩,dr,ws,gW,lw,hw⟩:=z;have el:(aR ws).length=ws.length:=DQ ..;have lws:(aR ws).length<sizeLine:=DT (show _<1000000 by lia) (aJ (DP _));refine⟨_,rfl,_,rfl,aJ (by show 3<=1000000;decide),fun L5 nL5=>?_⟩;have D5:=Dr.new dr.ds nL5 (.lst [.int 3,.int 6,.int (mo:Int)]);have gL5:=cF dr.ds nL5 (.lst [.int 3,.int 6,.int (mo:Int)]);refine⟨_,rfl,p,3,rfl,D5.ds,by decide,by decide,fun r5 H5 d0 d1 dr5=>?_⟩;have gL6:=aE p _ _ _ (dr5.same _ _ gL5);obtain⟨v5,ev5,mv5⟩:=jx (l:=[V.int 3,.int 6,.int (mo:Int)]) d0 d1;obtain⟨m5,rfl,m51,m52⟩:∃n:Nat,v5=.int (n:Int)/\1<=n/\n<=10:=by
   simp only[Eb,EI,or_false] at mv5;rcases mv5 with rfl|rfl|rfl
   ·exact⟨3,rfl,by decide,by decide⟩
   ·exact⟨6,rfl,by decide,by decide⟩
   ·exact⟨mo,rfl,mo1,mo10⟩
  refine⟨L5,_,r5,_,rfl,rfl,SqL.of gL6,ev5,?_⟩;refine⟨p,m5,rfl,dr5.ds,m51,by lia,fun wd H6 dr6 wdW wdR wdl=>?_⟩;have DD6:=dr.trans (D5.trans (dr5.trans dr6));have gW6:=dr6.same _ _ (dr5.same _ _ (D5.same _ _ gW));refine⟨fun σ' H'=>∃u a6 a7 a8,σ'=[some (.ref p),some (.int (mo:Int)),some (.ref W),some (.int (many:Int)),some (.int (0+(i:Int))),some (.str (txt u)),a6,a7,a8]/\Dr p H H'/\hid p H' W=some (.lst (aR ws))/\(∀c∈u,isW c)/\u.length<=20,?_,?_⟩
  ·refine⟨_,rfl,Ec _,fun e7 ne7=>?_⟩;have S7:=ao ne7 (.lst []);have gW7:=S7.hid _ _ gW6;have DD7:=DD6.trans (Dr.of_same DD6.ds S7);have gW7':hid p (upd H6 e7 (.lst [])) W=some (.lst ((ws.map txt).map V.str)):=by rw[<- mI];exact gW7
   refine⟨.list ((ws.map txt).map PyData.str),.list [],.lst (SqL.of (aE p _ _ _ gW7')) (DatAll.strs _),.lst (SqL.of af) .nil,KR _ (fun z h=>by obtain⟨cs,hcs,rfl⟩:=Em.mp h;exact wo fun c hc=>((hw cs hcs).w c hc).asc),rfl,kh _,!(ws.map txt).isEmpty,(by show V.bl (!PyData.eqv _ _)=_;rw[NK]),?_⟩;generalize upd H6 e7 (.lst [])=H7 at gW7 DD7 ⊢;cases hE:(!(ws.map txt).isEmpty) with
   |false=>
    exact⟨wd,_,_,_,rfl,DD7,gW7,wdW,by lia⟩
   |true=>
    have l0:1<=ws.length:=by
     cases ws with
     |nil=>cases hE
     |cons _ _=>exact HM (Ec _)
    refine⟨_,rfl,_,rfl,_,rfl,W,_,rfl,.inl (SqL.of (aE p _ _ _ gW7)),p,_,rfl,DD7.ds,by lia,by lia,fun k1 H8 f0 f1 dr8=>?_⟩;obtain⟨v8,ev8,mv8⟩:=jx f0 f1;obtain⟨one,ho,rfl⟩:=Em.mp mv8;have gW8:=dr8.same _ _ gW7;refine⟨W,_,k1,_,rfl,rfl,SqL.of (aE p _ _ _ gW8),ev8,?_⟩;refine⟨_,rfl,_,rfl,_,rfl,W,_,rfl,.inl (SqL.of (aE p _ _ _ gW8)),p,_,rfl,dr8.ds,by lia,by lia,fun k2 Ha h0 h1 dra=>?_⟩;obtain⟨va,eva,mva⟩:=jx h0 h1;obtain⟨other,hoo,rfl⟩:=Em.mp mva;have gWa:=dra.same _ _ gW8;refine⟨W,_,k2,_,rfl,rfl,SqL.of (aE p _ _ _ gWa),eva,?_⟩;refine⟨_,rfl,p,8,rfl,dra.ds,by decide,by decide,fun way Hb y0 y1 drb=>?_⟩;have gWb:=drb.same _ _ gWa;have DDb:=DD7.trans (dr8.trans (dra.trans drb));have g1:=hw one ho;have g2:=hw other hoo;have g1l:=g1.l10;have g2l:=g2.l10;refine⟨_,rfl,_,_,rfl,rfl,decide (way<4),rfl,?_⟩;cases hB:decide (way<4) with
    |false=>
     exact⟨wd,_,_,_,rfl,DDb,gWb,wdW,by lia⟩
    |true=>
     have hB':=Hy hB;refine⟨_,rfl,_,rfl,_,_,rfl,rfl,big _ (by show one.length+other.length<=100000;lia),_,rfl,_,rfl,_,_,rfl,rfl,big _ (by show one.length+wd.length<=100000;lia),?_⟩;refine⟨_,rfl,_,rfl,other,rfl,g2.w,by lia,fun Hc Sc=>⟨_,_,rfl,rfl,big _ (by show one.length+(bw other).length<=100000;rw[iA];lia),_,rfl,_,rfl,_,_,rfl,rfl,big _ (by show wd.length+one.length<=100000;lia),aJ (by show 4<=1000000;decide),fun L8 nL8=>?_⟩⟩;have Dc:=DDb.trans (Dr.of_same DDb.ds Sc);have gWc:=Sc.hid _ _ gWb;have Sd:=ao nL8 (.lst [.str (txt one++txt other),.str (txt one++txt wd),.str (txt one++txt (bw other)),.str (txt wd++txt one)]);have Dd:=Dc.trans (Dr.of_same Dc.ds Sd);have gWd:=Sd.hid _ _ gWc;obtain⟨v9,ev9,mv9⟩:=jx (l:=[V.str (txt one++txt other),.str (txt one++txt wd),.str (txt one++txt (bw other)),.str (txt wd++txt one)]) y0 hB';obtain⟨z,rfl,zW,zl⟩:∃z,v9=.str (txt z)/\(∀c∈z,isW c)/\z.length<=20:=by
      have ap:∀a b:List Nat,(∀c∈a,isW c)->(∀c∈b,isW c)->∀c∈a++b,isW c:=fun a b ha hb c hc=>(DX.mp hc).elim (ha c) (hb c);have lb:=iA other;simp only[Eb,EI,or_false] at mv9;rcases mv9 with rfl|rfl|rfl|rfl
      ·exact⟨_,by rw[bU],ap _ _ g1.w g2.w,by rw[DR];lia⟩
      ·exact⟨_,by rw[bU],ap _ _ g1.w wdW,by rw[DR];lia⟩
      ·exact⟨_,by rw[bU],ap _ _ g1.w (zF g2.w),by rw[DR];lia⟩
      ·exact⟨_,by rw[bU],ap _ _ wdW g1.w,by rw[DR];lia⟩
     refine⟨_,rfl,L8,_,way,_,rfl,rfl,SqL.of af,ev9,?_⟩;refine⟨z,rfl,zW,by lia,fun He Se=>?_⟩;exact⟨red z,_,_,_,rfl,Dd.trans (Dr.of_same Dd.ds Se),Se.hid _ _ gWd,oN zW,by have:=fB z;lia⟩
  rintro _ H4 ⟨u,a6,a7,a8,rfl,D4,gW4,uW,ul⟩;refine⟨_,rfl,.inl ⟨rfl,_,SqL.of (aE p _ _ _ gW4)⟩,_,rfl,_,rfl,_,rfl,txt u,rfl,big _ (by show u.length<=100000;lia),?_⟩;rw[ir];refine⟨u.take mo,rfl,fun c hc=>uW c (FT hc),(by rw[Eu];lia),fun H9 S9=>?_⟩;have D9:=D4.trans (Dr.of_same D4.ds S9);have gW9:=S9.hid _ _ gW4;refine⟨W,aR ws,_,rfl,rfl,aE p _ _ _ gW9,lws,⟨_,_,_,_,_,rfl⟩,Dr.put D9 nW neW _,ws++[red (u.take mo)],?_,by rw[DR,lw];rfl,fun cs h=>?_⟩
  ·rw[gx neW,ix]
  ·rcases DX.mp h with h|h
   ·exact hw cs h
   ·rw[Ei.mp h];have uW':∀c∈u.take mo,isW c:=fun c hc=>uW c (FT hc);exact⟨oN uW',iM uW',by have:=fB (u.take mo);rw[Eu] at this;lia⟩
 ·obtain⟨⟨a4,a5,a6,a7,a8,rfl⟩,dr,ws,gW,lw,hw⟩:=z;exact⟨_,rfl,q W ws H' dr nW gW ⟨by lia,by lia,fun cs h=>(hw cs h).w,fun cs h=>(hw cs h).r,fun cs h=>(hw cs h).l10⟩⟩
abbrev ky(s c:Nat):List Key:=[.inl ((s:Nat):Int),.inr ⟨#[c]⟩]
def Pz:V->Option Nat
 |.int i=>some i.toNat
 |_=>none
def dK (kvs:List (List Key×V))(s:Nat)(a:Fin 4):Option Nat:=(bg kvs (ky s (cM a))).bind Pz
def yP (d:Nat->Fin 4->Option Nat)(o:List Nat)(s:Nat):Row:=l4.map fun a=>(d s a).map fun t=>((o.idxOf t:Nat):Int)
theorem uz(d:Nat->Fin 4->Option Nat)(m:Nat):cGd d m=(FG.ord l4 d 0 m).map (yP d (FG.ord l4 d 0 m)):=by
 unfold cGd toG FG.canon FG.rowOf yP;rw[EL];refine FQ fun s _=>?_;simp only[Function.comp_def,EL,GX]
def grD (d:Nat->Fin 4->Option Nat)(s:Nat)(os:List Nat)(j:Nat):List Nat:=(l4.take j).foldl (FG.Iv d s) os
theorem qM{d:Nat->Fin 4->Option Nat}{s:Nat}{os:List Nat}{j:Nat}(hj:j<4)(h:d s ⟨j,hj⟩=none):grD d s os (j+1)=grD d s os j:=by
 unfold grD;rw[Eo,iS hj,Fu];show FG.Iv d s _ _=_;unfold FG.Iv;rw[h]
theorem qE{d:Nat->Fin 4->Option Nat}{s n:Nat}{os:List Nat}{j:Nat}(hj:j<4)(h:d s ⟨j,hj⟩=some n):(n∈grD d s os j->grD d s os (j+1)=grD d s os j)/\(n∉grD d s os j->grD d s os (j+1)=grD d s os j++[n]):=by
 have e:grD d s os (j+1)=FG.Iv d s (grD d s os j) ⟨j,hj⟩:=by
  unfold grD;rw[Eo,iS hj,Fu];rfl
 rw[e];unfold FG.Iv;rw[h];exact⟨fun m=>Hq m,fun m=>Ho m⟩
theorem vq{d:Nat->Fin 4->Option Nat}{s i:Nat}(h:(FG.ord l4 d 0 i)[i]?=some s):grD d s (FG.ord l4 d 0 i) 4=FG.ord l4 d 0 (i+1):=by
 rw[FG.MX h];rfl
theorem nj{os y:List Nat}{t:Nat}(h:t∈os):(os++y).idxOf t=os.idxOf t:=by
 rw[List.idxOf_append,Hq h]
theorem iX{d:Nat->Fin 4->Option Nat}{s:Nat}{o:List Nat}{j:Nat}(hj:j<4):(l4.take (j+1)).map (fun a=>(d s a).map fun t=>((o.idxOf t:Nat):Int))=(l4.take j).map (fun a=>(d s a).map fun t=>((o.idxOf t:Nat):Int))++[(d s ⟨j,hj⟩).map fun t=>((o.idxOf t:Nat):Int)]:=by
 rw[Eo,iS hj,Ef];rfl
theorem oC{i:Nat}(hi:i<4):([117,118,85,86]:List Nat)[i]'hi=cM ⟨i,hi⟩:=by
 have:i=0\/i=1\/i=2\/i=3:=by lia
 rcases this with rfl|rfl|rfl|rfl<;>rfl
theorem Pr:("uvUV":Str)=txt [117,118,85,86]:=by decide +kernel
theorem LV:∀xs:List Int,PyData.depthAll (xs.map PyData.int)=0
 |[]=>rfl
 |x::r=>by
  show max 0 (PyData.depthAll (r.map PyData.int))=0;rw[LV r];rfl
theorem uN{H H':Hp}{L:List (Addr×HO)}{x:Addr×HO}(h:Hs H (L++[x]) H'):Hs H L H' where
 all:=h.all
 at':=fun a o m=>h.at' a o (Eh _ m)
 nd:=by have:=h.nd;rw[Ef] at this;exact(Fp.mp this).1
 fr:=fun a o m=>h.fr a o (Eh _ m)
abbrev iv(os:List Nat):List V:=(os.map fun n=>((n:Nat):Int)).map V.int
theorem jX(os:List Nat)(n:Nat):iv os++[V.int ((n:Nat):Int)]=iv (os++[n]):=by
 show _=((os++[n]).map _).map V.int;rw[Ef,Ef];rfl
theorem IK:∀(k:Nat){os:List Nat},os.Nodup->(∀n∈os,n<k)->os.length<=k
 |0,[],_,_=>DP _
 |0,a::r,_,h=>absurd (h a DS) (FU _)
 |k+1,os,hn,h=>by
  have h1:=IK k (os:=os.erase k) (hn.erase k) fun n hm=>by
   have hm1:=List.mem_of_mem_erase hm;have:=h n hm1;have hne:n≠k:=fun z=>by rw[z] at hm;exact(List.Nodup.not_mem_erase hn) hm
   lia
  have h2:os.length<=(os.erase k).length+1:=by
   rw[List.length_erase];split<;>lia
  lia
theorem Ox:∀(os:List Nat),(∀n∈os,n<100)->PyData.weightAll ((os.map fun n=>((n:Nat):Int)).map PyData.int)<=8*os.length
 |[],_=>DP _
 |n::r,h=>by
  have ih:=Ox r fun m hm=>h m (Eg _ hm);have hn:=h n DS;have hw:PyData.weight (.int ((n:Nat):Int))<=7:=by
   show(if ((n:Nat):Int)==0 then 0 else (((n:Nat):Int).natAbs.log2+1))<=7;split
   ·decide
   ·rename_i c;have n0:n≠0:=fun z=>c (by rw[z];rfl);have:n.log2<7:=(GA n0).mpr (by lia);show n.log2+1<=7;lia
  show PyData.weight (.int ((n:Nat):Int))+1+PyData.weightAll ((r.map fun n=>((n:Nat):Int)).map PyData.int)<=8*(r.length+1);lia
theorem oO{os:List Nat}(h:∀n∈os,n<100)(hl:os.length<=1000):PyData.layable0 (.list ((os.map fun n=>((n:Nat):Int)).map PyData.int))=true:=by
 unfold PyData.layable0;have h1:(PyData.list ((os.map fun n=>((n:Nat):Int)).map PyData.int)).canLay0=true:=Ja _;have h2:(PyData.list ((os.map fun n=>((n:Nat):Int)).map PyData.int)).depth<=64:=by
  have e:(PyData.list ((os.map fun n=>((n:Nat):Int)).map PyData.int)).depth=PyData.depthAll ((os.map fun n=>((n:Nat):Int)).map PyData.int)+1:=by simp[PyData.depth]
  rw[e,LV];decide
 have h3:(PyData.list ((os.map fun n=>((n:Nat):Int)).map PyData.int)).weight<=2^20:=by
  show PyData.weightAll _<=2^20;have:=Ox os h;lia
 rw[h1,Ht h2,Ht h3];rfl
theorem pN(n:Nat):∀os:List Nat,(os.map fun n=>((n:Nat):Int)).idxOf ((n:Nat):Int)=os.idxOf n
 |[]=>rfl
 |m::r=>by
  rw[Ex,FW,FW,pN n r];by_cases h:m=n
  ·subst h;simp
  ·rw[show(m==n)=false from beq_false_of_ne h,show(((m:Nat):Int)==((n:Nat):Int))=false from beq_false_of_ne fun z=>h (Int.ofNat.inj z)]
theorem Lw:∀os:List Nat,(iv os).all Jy=true
 |[]=>rfl
 |n::r=>Lw r
theorem xI(n:Nat):∀os:List Nat,inV (.int (n:Int)) (iv os)=decide (n∈os)
 |[]=>by simp[inV]
 |m::r=>by
  have ih:=xI n r;unfold inV at ih ⊢;show(eqV (.int ((m:Nat):Int)) (.int (n:Int))||(iv r).any fun y=>eqV y (.int (n:Int)))=_;rw[ih];show((((m:Nat):Int)==((n:Nat):Int))||decide (n∈r))=_;by_cases h:m=n
  ·subst h;simp
  ·have:(((m:Nat):Int)==((n:Nat):Int))=false:=by simp;lia
   rw[this,Bool.false_or];refine decide_eq_decide.mpr ⟨fun z=>Eg _ z,fun z=>(Eb.mp z).elim (fun q=>absurd q.symm h) id⟩
theorem gG{kvs:List (List Key×V)}{k:List Key}{v:V}(h:bg kvs k=some v):∃kv∈kvs,kv.2=v:=by
 unfold bg at h;obtain⟨kv,h1,h2⟩:=EB.mp h;exact⟨kv,Hk h1,h2⟩
theorem ff{H:Hp}{o:Addr}{xs:List V}{x:HO}(ho:H o=some (.lst xs)){us:List V}{G:List Row}(h:Paired (gf H) us G):Paired (gf (upd H o x)) us G:=
 Paired.IL h fun v r hq115=>by obtain⟨a,e,q⟩:=hq115;exact⟨a,e,by rw[au (fun z=>by rw[z,ho] at q;cases q)];exact q⟩
theorem gU{H H':Hp}(S:Ia H H'){us:List V}{G:List Row}(h:Paired (gf H) us G):Paired (gf H') us G:=
 Paired.IL h fun v r hq116=>by obtain⟨a,e,q⟩:=hq116;exact⟨a,e,S _ _ q⟩
def Py:Sp:=fun vs H Q _=>∃D kvs,vs=[.ref D]/\H D=some (.dT kvs)/\(∀kv∈kvs,∃n:Nat,kv.2=.int (n:Int)/\n<100)/\∀g us m H',Ia H H'->H g=none->(FG.ord l4 (dK kvs) 0 m).length<=m->(FG.ord l4 (dK kvs) 0 m).length<=100->GrL H' g us (cGd (dK kvs) m)->Q (.ref g) H'
theorem zg{d:DD}(D:Def K mg "_law_graph" (top 48) ["ways"] d)(Aj:mg "len"=none)(Ap:mg "tuple"=none):(fk 1 d ["ways"] Py):=by
 exists["ways","order","graph","row","letter","there"]
 obtain⟨Dw,kvs,rfl,hD,hv,q⟩:=h;refine⟨_,(ae (aw 1 (aY (aL (ah _) bI))) (ae (aw 2 (aY (Ii _))) (ae (dM (aB Lh (aP HW Aj (2) aC) (aP HW Aj (1) aC) (aD _)) (ae (aw 3 (aY (Ii _))) (ae (bE (gQ (bo _)) (ar 4) (ae (aw 5 (iJ (bK hr) (0) (bh (ag (aN HY (1) (aP HW Aj (2) aC)) (aL (4) aC) (by rfl))) ⟨rfl,rfl,rfl,rfl⟩)) (ae (br (@PW.pt _ _ _ (fF (aB Jj (5) (bR _) (aD _)) (cZ (aB JU (5) (1) rfl)))) (aq (aV (cE (1) (5) aC))) (HZ _)) (aq (aV (cE (3) (eQ (aB Kd (5) (bR _) (aD _)) (bR _) (fG HD PySem.F.slot_list_index PySem.F.type_list_index JX (1) (aL (5) aC))) (by rfl))))))) (aq (aV (cE (2) (bS IG Ap Jf (aL (3) aC)) dv)))))) (aq (aH (2)))))),?_⟩
 walk_at "d"
 refine⟨aJ (by show 1<=1000000;decide),fun o no=>?_⟩;refine⟨Ec _,fun g ng=>?_⟩;have F0:=((Hs.start H).new no (.lst (iv [0]))).new ng (.lst [])
 refine⟨fun m σ H'=>∃(os:List Nat) (us:List V) (G:List Row) (e3 e4 e5:Option V),σ=[some (.ref Dw),some (.ref o),some (.ref g),e3,e4,e5]/\Hs H [(o,.lst (iv os)),(g,.lst us)] H'/\Paired (gf H') us G/\(∀r∈G,r.length=4)/\os.Nodup/\(∀n∈os,n < 100)/\G.length<=os.length/\1<=os.length/\m=200 - G.length/\os=FG.ord l4 (dK kvs) 0 G.length/\∀y,G=(os.take G.length).map (yP (dK kvs) (os++y)),
  ⟨200,[0],[],[],_,_,_,rfl,F0,.nil,fun r h=>absurd h (by simp),by simp,fun n hn=>by rw[Ei.mp hn];decide,Ec _,DP _,rfl,rfl,fun _=>rfl⟩,?_⟩
 rintro m σ H1 ⟨os,us,G,e3,e4,e5,rfl,F,hP,h4,hN,hL,hGo,ho1,rfl,hOs,hGy⟩;have go:=F.get 0;have gg:=F.get 1;have ol:=IK 100 hN hL;have ul:=aT hP;have il:(iv os).length=os.length:=by show((os.map _).map V.int).length=_;rw[DQ,DQ]
 refine⟨_,rfl,g,us,rfl,.inl (SqL.of gg),_,rfl,o,_,rfl,.inl (SqL.of go),_,_,rfl,rfl,decide (G.length<os.length),?_,?_⟩
 ·show V.bl (decide (((us.length:Nat):Int)<(((iv os).length:Nat):Int)))=_;rw[ul,il]
  congr 1
  exact decide_eq_decide.mpr ⟨fun h=>by lia,fun h=>by lia⟩
 cases hb:decide (G.length<os.length) with
 |false=>
  refine⟨_,rfl,?_⟩;have hbf:=of_decide_eq_false hb;have eG:G=cGd (dK kvs) G.length:=by
   have:=hGy [];rw[Et,ES (by lia)] at this;rw[uz,<- hOs];exact this
  refine q g us G.length H1 F.all (F.fr g _ (Eg _ DS)) (by rw[<- hOs];lia) (by rw[<- hOs];exact ol) ?_;rw[<- eG];exact⟨gg,hP,h4,by lia⟩
 |true=>
  have hb':=Hy hb;obtain⟨s1,hs1⟩:∃s1,os[G.length]?=some s1:=⟨_,DW hb'⟩
  refine⟨_,fun σ' H' z=>z,?_⟩;refine⟨Ec _,fun r nr=>?_⟩;have F2:=F.new nr (.lst []);have hP2:=gU (ao nr (.lst [])) hP;refine⟨txt [117,118,85,86],(by rw[Pr]),by decide +kernel,?_⟩;refine fN (cs:=[117,118,85,86]) (fun i σ H'=>∃(os':List Nat)(rw_:Row)(e4 e5:Option V),σ=[some (.ref Dw),some (.ref o),some (.ref g),some (.ref r),e4,e5]/\Hs H [(o,.lst (iv os')),(g,.lst us),(r,.lst (rw_.map ov))] H'/\Paired (gf H') us G/\os'.Nodup/\(∀n∈os',n<100)/\G.length<os'.length/\rw_.length=i/\os'=grD (dK kvs) s1 os i/\(∃y,os'=os++y)/\∀y,rw_=(l4.take i).map fun a=>(dK kvs s1 a).map fun t=>(((os'++y).idxOf t:Nat):Int)) ⟨os,[],_,_,rfl,F2,hP2,hN,hL,hb',rfl,rfl,⟨[],(Et _).symm⟩,fun _=>rfl⟩ (fun i hi σ H' z=>?_) (fun σ H' z=>?_)
  ·obtain⟨os',rw_,e4,e5,rfl,F3,hP3,hN3,hL3,hG3,hr3,hO3,hX3,hR3⟩:=z;have ol3:=IK 100 hN3 hL3;have go3:=F3.get 0;have gg3:=F3.get 1;have gr3:=F3.get 2;have hD3:=F3.all _ _ hD;have hi4:i<4:=hi;have es1:os'[G.length]=s1:=by
    obtain⟨y,ey⟩:=hX3;have:os'[G.length]?=some s1:=by rw[ey,EZ hb'];exact hs1
    rw[DW hG3] at this;exact HC this
   have edk:dK kvs s1 ⟨i,hi4⟩=(bg kvs [.inl ((os'[G.length]:Nat):Int),.inr ⟨#[[117,118,85,86][i]]⟩]).bind Pz:=by
    rw[es1];show(bg kvs (ky s1 (cM ⟨i,hi4⟩))).bind Pz=_;rw[<- oC hi4]
   have hat:atI (iv os') ((us.length:Nat):Int)=some (.int ((os'[G.length]:Nat):Int)):=by
    refine bG ?_;rw[ul,DY,DY,DW hG3];rfl
   refine⟨_,rfl,Dw,rfl,.inr ⟨kvs,.inl hD3⟩,_,rfl,_,rfl,g,us,rfl,.inl (SqL.of gg3),o,_,_,_,rfl,rfl,SqL.of go3,hat,_,rfl,aJ (by show 2<=1000000;decide),fun b nb=>?_⟩;have S4:=ao nb (.tup [.int ((os'[G.length]:Nat):Int),.str ⟨#[[117,118,85,86][i]]⟩]);have F4:=F3.mono S4;have hP4:=gU S4 hP3;refine⟨_,IE.t (k:=[.inl ((os'[G.length]:Nat):Int),.inr ⟨#[[117,118,85,86][i]]⟩]) (S4 _ _ hD3) af,?_⟩;generalize upd H' b (.tup [.int ((os'[G.length]:Nat):Int),.str ⟨#[[117,118,85,86][i]]⟩])=H4 at F4 hP4 ⊢;have go4:=F4.get 0;have gr4:=F4.get 2;have bigr:(rw_.map ov).length<sizeLine:=DT (show _<1000000 by rw[DQ,hr3];have:i<4:=hi;lia) (aJ (DP _));cases hv0:bg kvs [.inl ((os'[G.length]:Nat):Int),.inr ⟨#[[117,118,85,86][i]]⟩] with
   |none=>
    refine⟨_,rfl,rfl,false,rfl,?_⟩;refine⟨_,rfl,.inl ⟨rfl,_,SqL.of gr4⟩,_,rfl,rfl,true,rfl,r,_,_,rfl,rfl,gr4,bigr,os',rw_++[none],_,_,rfl,?_,ff gr4 hP4,hN3,hL3,hG3,by rw[DR,hr3];rfl,?_,hX3,fun y=>?_⟩
    rotate_left
    ·rw[qM hi4 (by rw[edk,hv0];rfl)];exact hO3
    ·rw[iX hi4,<- hR3 y,edk,hv0];rfl
    rw[show rw_.map ov++[V.non]=(rw_++[none]).map ov by rw[Ef];rfl];exact F4.put 2 _
   |some v=>
    obtain⟨kv,mk,rfl⟩:=gG hv0;obtain⟨n,en,n100⟩:=hv kv mk;rw[en] at hv0;have edn:dK kvs s1 ⟨i,hi4⟩=some n:=by rw[edk,hv0];rfl
    obtain⟨gY,gN⟩:=qE (os:=os) hi4 edn;rw[en,GM];refine⟨_,rfl,rfl,true,rfl,?_⟩;refine⟨_,rfl,_,rfl,o,_,rfl,.inl (SqL.of go4),rfl,Lw _,!decide (n∈os'),(by rw[<- xI];rfl),?_⟩;by_cases hm:n∈os'
    ·rw[Ht hm];obtain⟨osX,eX⟩:∃osX,osX=os':=⟨_,rfl⟩
     subst eX;have F5:=F4;have go5:=go4;have gr5:=gr4;have hP5:=hP4;have mX:=hm;have hNX:=hN3;have hLX:=hL3;have hOX:osX=grD (dK kvs) s1 os (i+1):=by rw[gY (by rw[<- hO3];exact hm)];exact hO3
     have hXX:=hX3;have hRX:∀y,rw_=(l4.take i).map fun a=>(dK kvs s1 a).map fun t=>(((osX++y).idxOf t:Nat):Int):=hR3;refine⟨_,rfl,.inl ⟨rfl,_,SqL.of gr5⟩,_,rfl,rfl,false,rfl,_,rfl,.inl ⟨rfl,_,SqL.of go5⟩,_,rfl,o,osX.map (fun n=>((n:Nat):Int)),(n:Int),rfl,rfl,SqL.of go5,oO hLX (by lia),Em.mpr ⟨n,mX,rfl⟩,r,_,_,rfl,rfl,gr5,bigr,osX,rw_++[some (((osX.map fun n=>((n:Nat):Int)).idxOf (n:Int):Nat):Int)],_,_,rfl,?_,ff gr5 hP5,hNX,hLX,by lia,by rw[DR,hr3];rfl,hOX,hXX,fun y=>?_⟩
     rotate_left
     ·rw[iX hi4,<- hRX y,edn];show _=_++[some (((osX++y).idxOf n:Nat):Int)]
      rw[nj mX,pN]
     rw[show rw_.map ov++[V.int (((osX.map fun n=>((n:Nat):Int)).idxOf (n:Int):Nat):Int)]=(rw_++[some (((osX.map fun n=>((n:Nat):Int)).idxOf (n:Int):Nat):Int)]).map ov by rw[Ef];rfl];exact F5.put 2 _
    ·rw[Hu hm];refine⟨_,rfl,.inl ⟨rfl,_,SqL.of go4⟩,_,rfl,o,_,_,rfl,rfl,go4,DT (show(iv os').length<1000000 by rw[DQ,DQ];lia) (aJ (DP _)),?_⟩;rw[jX];have F5:=F4.put 0 (.lst (iv (os'++[n])));have hP5:=ff (x:=.lst (iv (os'++[n]))) go4 hP4;have hNX:(os'++[n]).Nodup:=Fp.mpr ⟨hN3,by simp,fun a ha b hb=>by rw[Ei.mp hb];exact fun z=>hm (z▸ha)⟩;have hLX:∀m∈os'++[n],m<100:=fun m h=>(DX.mp h).elim (hL3 m) fun z=>by rw[Ei.mp z];exact n100
     have lX:(os'++[n]).length=os'.length+1:=by rw[DR];rfl
     have mX:n∈os'++[n]:=DV _ DS;have hOX:os'++[n]=grD (dK kvs) s1 os (i+1):=by rw[gN (by rw[<- hO3];exact hm),<- hO3]
     have hXX:∃y,os'++[n]=os++y:=by obtain⟨y,ey⟩:=hX3;exact⟨y++[n],by rw[ey,Ej]⟩
     have hRX:∀y,rw_=(l4.take i).map fun a=>(dK kvs s1 a).map fun t=>((((os'++[n])++y).idxOf t:Nat):Int):=fun y=>by rw[Ej];exact hR3 _
     generalize os'++[n]=osX at F5 hP5 hNX hLX lX mX hOX hXX hRX ⊢;have lX2:=IK 100 hNX hLX;generalize upd H4 o (.lst (iv osX))=H5 at F5 hP5 ⊢;have go5:=F5.get 0;have gr5:=F5.get 2;refine⟨_,rfl,.inl ⟨rfl,_,SqL.of gr5⟩,_,rfl,rfl,false,rfl,_,rfl,.inl ⟨rfl,_,SqL.of go5⟩,_,rfl,o,osX.map (fun n=>((n:Nat):Int)),(n:Int),rfl,rfl,SqL.of go5,oO hLX (by lia),Em.mpr ⟨n,mX,rfl⟩,r,_,_,rfl,rfl,gr5,bigr,osX,rw_++[some (((osX.map fun n=>((n:Nat):Int)).idxOf (n:Int):Nat):Int)],_,_,rfl,?_,ff gr5 hP5,hNX,hLX,by lia,by rw[DR,hr3];rfl,hOX,hXX,fun y=>?_⟩
     rotate_left
     ·rw[iX hi4,<- hRX y,edn];show _=_++[some (((osX++y).idxOf n:Nat):Int)]
      rw[nj mX,pN]
     rw[show rw_.map ov++[V.int (((osX.map fun n=>((n:Nat):Int)).idxOf (n:Int):Nat):Int)]=(rw_++[some (((osX.map fun n=>((n:Nat):Int)).idxOf (n:Int):Nat):Int)]).map ov by rw[Ef];rfl];exact F5.put 2 _
  ·obtain⟨os',rw_,e4,e5,rfl,F3,hP3,hN3,hL3,hG3,hr3,hO3,hX3,hR3⟩:=z;have go3:=F3.get 0;have gg3:=F3.get 1;have gr3:=F3.get 2;refine⟨_,rfl,.inl ⟨rfl,_,SqL.of gg3⟩,_,rfl,r,_,rfl,.inl ⟨SqL.of gr3,fun tp ntp=>?_⟩⟩;have S4:=ao ntp (.tup (rw_.map ov));have F4:=F3.mono S4;have gg4:=F4.get 1;have hP4:=gU S4 hP3;refine⟨g,us,_,rfl,rfl,gg4,DT (show us.length<1000000 by have:=IK 100 hN3 hL3;lia) (aJ (DP _)),?_⟩;have hO4:os'=FG.ord l4 (dK kvs) 0 (G.length+1):=by
    rw[hO3,hOs];exact vq (by rw[<- hOs];exact hs1)
   refine⟨200-(G.length+1),by lia,os',us++[.ref tp],G++[rw_],_,_,_,rfl,?_,?_,?_,hN3,hL3,by rw[DR];exact hG3,by lia,by rw[DR];rfl,by rw[DR];exact hO4,fun y=>?_⟩
   rotate_left 3
   ·obtain⟨y1,ey⟩:=hX3;have hs1':os'[G.length]?=some s1:=by rw[ey,EZ hb'];exact hs1
    rw[DR];show G++[rw_]=(os'.take (G.length+1)).map _;rw[Eo,hs1',Ef];show _=_++[yP (dK kvs) (os'++y) s1]
    congr 1
    ·rw[ey,List.take_append_of_le_length (EH hb'),Ej];exact hGy (y1++y)
    ·congr 1
     exact hR3 y
   ·have F5:=F4.put 1 (.lst (us++[.ref tp]));exact uN (L:=[_,_]) F5
   ·have tg:tp≠g:=fun z=>by rw[z] at ntp;rw[ntp] at gg3;cases gg3
    exact bt (ff gg4 hP4) ⟨tp,rfl,by rw[au tg];exact af⟩
   ·intro r' hr';rcases DX.mp hr' with h|h
    ·exact h4 r' h
    ·rw[Ei.mp h];exact hr3
end
set_option hygiene false in
local macro_rules | `(tactic| walk_at "c")=>`(tactic| ((try with_reducible refine zX fun Dq hD Rq hR=>?_); walk_at "e"))
set_option hygiene false in
local macro_rules | `(tactic| walk_at "e")=>`(tactic| ((repeat refine yc (R:=Rq) hR fun Rq hR=>?_); (try refine xR (R:=Rq) hR ?_); (try (first | refine xf (D':=Dq) hD ?_ | refine yr (D':=Dq) hD ?_))))
section
variable {P:Program}{w:World}{K:PySem.W.Frag}{mg:Str->Option Value}{base:Heap}
abbrev Jn:=Nat×Nat×Nat
def Ej0 (jl:List Jn)(s:Nat)(a:Fin 4)(t:Nat):Prop:=(s,cM a,t)∈jl
def pj (n:Nat)(cs:List Nat)(j:Nat):List Jn:=(List.range j).flatMap fun i=>[(FG.st n cs.length i,cs.getD i 0,FG.st n cs.length (i+1)),(FG.st n cs.length (i+1),bk (cs.getD i 0),FG.st n cs.length i)]
theorem ug(n:Nat)(cs:List Nat)(j:Nat):pj n cs (j+1)=pj n cs j++[(FG.st n cs.length j,cs.getD j 0,FG.st n cs.length (j+1))]++[(FG.st n cs.length (j+1),bk (cs.getD j 0),FG.st n cs.length j)]:=by
 unfold pj;rw[Fq,List.flatMap_append,Ej];rfl
theorem vQ{n:Nat}{cs:List Nat}{jl:List Jn}(hW:∀c∈cs,isW c)(s:Nat)(a:Fin 4)(t:Nat):FG.NR iv4 (Ej0 jl) n (cs.map pl4) s a t↔Ej0 (jl++pj n cs cs.length) s a t:=by
 unfold FG.NR Ej0;rw[DX,DQ];refine or_congr Iff.rfl ?_;unfold pj;rw[Gq];constructor
 ·rintro⟨i,c,hc,h⟩;rw[DY] at hc;obtain⟨c0,h0,rfl⟩:=EB.mp hc;have hi:=(DU.mp h0).1;have hw:=hW c0 (Ea h0);have ed:cs.getD i 0=c0:=by rw[ED,h0];rfl
  refine⟨i,Es.mpr hi,?_⟩;rw[ed];rcases h with ⟨rfl,rfl,rfl⟩|⟨rfl,rfl,rfl⟩
  ·rw[dJ hw];exact DS
  ·rw[<- lF hw,dJ hw.bk];exact Eg _ DS
 ·rintro⟨i,hi,h⟩;have hi:=Es.mp hi;have h0:cs[i]?=some cs[i]:=DW hi;have hw:=hW _ (Ep hi);have ed:cs.getD i 0=cs[i]:=by rw[ED,h0];rfl
  rw[ed] at h;refine⟨i,pl4 cs[i],by rw[DY,h0];rfl,?_⟩;rcases Eb.mp h with h|h
  ·injection h with h1 h;injection h with h2 h3;exact .inl ⟨h1,by rw[<- h2,KP],h3⟩
  ·rw[Ei] at h;injection h with h1 h;injection h with h2 h3;exact .inr ⟨h1,by rw[<- lF hw,<- h2,KP],h3⟩
def IS(many:Nat)(jl:List Jn):Prop:=∀j∈jl,j.1<many/\isW j.2.1/\j.2.2<many
theorem vB{wd:List (List (Fin 4))}{jl:List Jn}{n:Nat}{cs:List Nat}(hP:FG.Pre iv4 wd (Ej0 jl) 0)(hn:1<=n)(hg:IS n jl)(hW:∀c∈cs,isW c):FG.Pre iv4 (wd++[cs.map pl4]) (Ej0 (jl++pj n cs cs.length)) 0:=
 (hP.OI IH hn (fun s a t e=>by have:=hg _ e;exact⟨this.1,this.2.2⟩) (cs.map pl4)).same fun s a t=>vQ hW s a t
def El (nm:List Nat)(kvs:List (List Key×V))(jl:List Jn)(s:Nat)(a:Fin 4)(t:Nat):Prop:=
 bg kvs (ky s (cM a))=some (.int ((t:Nat):Int))\/∃j∈jl,nm.getD j.1 0=s/\j.2.1=cM a/\nm.getD j.2.2 0=t
theorem eZ{s c s' c':Nat}(h:ky s c=ky s' c'):s=s'/\c=c':=by
 injection h with h1 h2;injection h1 with h1;injection h2 with h2 _;injection h2 with h2;injection h2 with h2;have h3:[c]=[c']:=congrArg Array.toList h2;injection h3 with h3;exact⟨Int.ofNat.inj h1,h3⟩
theorem rH{many:Nat}{jl:List Jn}(hg:IS many jl)(s:Nat)(a:Fin 4)(t:Nat):Ej0 jl s a t↔El (List.range many) [] jl s a t:=by
 have gd:∀x,x<many->(List.range many).getD x 0=x:=fun x hx=>by rw[ED,GF hx];rfl
 unfold Ej0 El;constructor
 ·intro h;have:=hg _ h;exact .inr ⟨_,h,gd _ this.1,rfl,gd _ this.2.2⟩
 ·rintro (h|⟨⟨x,c,y⟩,h,h1,h2,h3⟩)
  ·rw[fQ] at h;cases h
  ·have:=hg _ h;rw[gd _ this.1] at h1;rw[gd _ this.2.2] at h3;subst h1 h3
   replace h2:c=cM a:=h2
   subst h2;exact h
section
variable {nm:List Nat}{kvs:List (List Key×V)}{jl0:List Jn}{a b c a' b':Nat}
theorem wL(hc:isW c)(ea:nm.getD a 0=a')(eb:nm.getD b 0=b')(hv:bg kvs (ky a' c)=none)(s:Nat)(x:Fin 4)(t:Nat):El nm kvs (jl0++[(a,c,b)]) s x t↔El nm (kvs++[(ky a' c,.int ((b':Nat):Int))]) jl0 s x t:=by
 unfold El;rw[<- fL _ hv,bj];constructor
 ·rintro (h|⟨j,hj,h1,h2,h3⟩)
  ·left
   rw[Ho (fun z=>by rw[z,hv] at h;cases h)];exact h
  ·rcases DX.mp hj with hj|hj
   ·exact .inr ⟨j,hj,h1,h2,h3⟩
   ·rw[Ei] at hj;subst hj
    left
    have e1:a'=s:=ea.symm.trans h1;have e2:c=cM x:=h2;have e3:b'=t:=eb.symm.trans h3;rw[<- e1,<- e2,<- e3,Hq rfl]
 ·rintro (h|⟨j,hj,h⟩)
  ·by_cases e:ky s (cM x)=ky a' c
   ·rw[Hq e] at h;obtain⟨e1,e2⟩:=eZ e;injection h with h;injection h with h;exact .inr ⟨(a,c,b),DV _ DS,ea.trans e1.symm,e2.symm,eb.trans (Int.ofNat.inj h)⟩
   ·rw[Ho e] at h;exact .inl h
  ·exact .inr ⟨j,Eh _ hj,h⟩
theorem uk(ea:nm.getD a 0=a')(eb:nm.getD b 0=b')(hv:bg kvs (ky a' c)=some (.int ((b':Nat):Int)))(s:Nat)(x:Fin 4)(t:Nat):El nm kvs (jl0++[(a,c,b)]) s x t↔El nm kvs jl0 s x t:=by
 unfold El;constructor
 ·rintro (h|⟨j,hj,h1,h2,h3⟩)
  ·exact .inl h
  ·rcases DX.mp hj with hj|hj
   ·exact .inr ⟨j,hj,h1,h2,h3⟩
   ·rw[Ei] at hj;subst hj
    left
    have e1:a'=s:=ea.symm.trans h1;have e2:c=cM x:=h2;have e3:b'=t:=eb.symm.trans h3;rw[<- e1,<- e2,<- e3];exact hv
 ·rintro (h|⟨j,hj,h⟩)
  ·exact .inl h
  ·exact .inr ⟨j,Eh _ hj,h⟩
def mg2 (lost kept:Nat)(nm:List Nat):List Nat:=nm.map fun n=>if n=lost then kept else n
theorem tR{lost kept x many:Nat}(hl:nm.length=many)(hx:x<many):(mg2 lost kept nm).getD x 0=FG.sub lost kept (nm.getD x 0):=by
 unfold mg2 FG.sub;rw[ED,ED,DY,DW (by lia)];rfl
theorem sh{lost kept many:Nat}{jl2:List Jn}(hl:nm.length=many)(fx:∀n∈nm,n<many/\nm.getD n 0=n)(hg:IS many (jl0++[(a,c,b)]))(ea:nm.getD a 0=a')(eb:nm.getD b 0=b')(ma:a'∈nm)(mb:b'∈nm)
  (hk:∀s x t,bg kvs (ky s (cM x))=some (.int ((t:Nat):Int))->s∈nm/\t∈nm)(h1:∀j∈jl2,isW j.2.1/\bg kvs (ky j.1 j.2.1)=some (.int ((j.2.2:Nat):Int)))(h2:∀s x t,bg kvs (ky s (cM x))=some (.int ((t:Nat):Int))->(s,cM x,t)∈jl2)
  (s:Nat)(x:Fin 4)(t:Nat):El (mg2 lost kept nm) [] (jl0++jl2++[(a',c,b')]) s x t↔∃s0 t0,El nm kvs (jl0++[(a,c,b)]) s0 x t0/\FG.sub lost kept s0=s/\FG.sub lost kept t0=t:=by
 have at0:∀{x},x<many->(mg2 lost kept nm).getD x 0=FG.sub lost kept (nm.getD x 0):=fun {x} hx=>tR hl hx;have atn:∀{n},n∈nm->(mg2 lost kept nm).getD n 0=FG.sub lost kept n:=fun {n} hn=>by rw[at0 (fx n hn).1,(fx n hn).2]
 have hab:=hg (a,c,b) (DV _ DS);constructor
 ·rintro (h|⟨⟨p,q,r⟩,hj,e1,e2,e3⟩)
  ·rw[fQ] at h;cases h
  ·rcases DX.mp hj with hj|hj
   ·rcases DX.mp hj with hj|hj
    ·have:=hg _ (Eh _ hj);exact⟨nm.getD p 0,nm.getD r 0,.inr ⟨(p,q,r),Eh _ hj,rfl,e2,rfl⟩,by rw[<- at0 this.1];exact e1,by rw[<- at0 this.2.2];exact e3⟩
    ·obtain⟨k1,k2⟩:=h1 _ hj
     replace e2:q=cM x:=e2
     subst e2;obtain⟨m1,m2⟩:=hk p x r k2;exact⟨p,r,.inl k2,by rw[<- atn m1];exact e1,by rw[<- atn m2];exact e3⟩
   ·rw[Ei] at hj;injection hj with j1 hj;injection hj with j2 j3;subst j1 j2 j3;exact⟨p,r,.inr ⟨(a,q,b),DV _ DS,ea,e2,eb⟩,by rw[<- atn ma];exact e1,by rw[<- atn mb];exact e3⟩
 ·rintro⟨s0,t0,h|⟨⟨p,q,r⟩,hj,e1,e2,e3⟩,rfl,rfl⟩
  ·obtain⟨m1,m2⟩:=hk s0 x t0 h;exact .inr ⟨_,Eh _ (DV _ (h2 s0 x t0 h)),atn m1,rfl,atn m2⟩
  ·rcases DX.mp hj with hj'|hj'
   ·have:=hg _ (Eh _ hj');exact .inr ⟨(p,q,r),Eh _ (Eh _ hj'),by rw[<- e1];exact at0 this.1,e2,by rw[<- e3];exact at0 this.2.2⟩
   ·rw[Ei] at hj';injection hj' with j1 hj';injection hj' with j2 j3;subst j1 j2 j3;have e1':a'=s0:=ea.symm.trans e1;have e3':b'=t0:=eb.symm.trans e3;subst e1' e3';exact .inr ⟨(a',q,b'),DV _ DS,atn ma,e2,atn mb⟩
theorem uc{lost kept many:Nat}(hl:nm.length=many)(fx:∀n∈nm,n<many/\nm.getD n 0=n)(hk:kept∈nm)(hne:kept≠lost):∀n∈mg2 lost kept nm,n<many/\(mg2 lost kept nm).getD n 0=n:=fun n hn=>by
 obtain⟨m,hm,rfl⟩:=Em.mp hn;have h:(if m=lost then kept else m)∈nm/\(if m=lost then kept else m)≠lost:=by
  by_cases e:m=lost
  ·rw[Hq e];exact⟨hk,hne⟩
  ·rw[Ho e];exact⟨hm,e⟩
 obtain⟨h1,h2⟩:=h;refine⟨(fx _ h1).1,?_⟩;rw[tR hl (fx _ h1).1,(fx _ h1).2];exact Ho h2
end
theorem NH{nm:List Nat}{kvs:List (List Key×V)}(hk:∀s c v,bg kvs (ky s c)=some v->∃n:Nat,v=.int ((n:Nat):Int))(s:Nat)(a:Fin 4)(t:Nat):El nm kvs [] s a t↔dK kvs s a=some t:=by
 unfold El dK;constructor
 ·rintro (h|⟨j,hj,_⟩)
  ·rw[h];rfl
  ·cases hj
 ·intro h
  left
  obtain⟨v,hv,h2⟩:=EN.mp h;obtain⟨n,rfl⟩:=hk s (cM a) v hv;rw[hv];injection h2 with h2;rw[<- h2];rfl
abbrev dU(H:Hp)(v:V)(j:Nat×Nat×Nat):Prop:=∃t,v=.ref t/\H t=some (.tup [.int (j.1:Int),.str ⟨#[j.2.1]⟩,.int (j.2.2:Int)])
theorem wN{H H':Hp}{L L':List (Addr×HO)}(h:Hs H L H')(s:L'.Sublist L):Hs H L' H':=⟨h.all,fun a o m=>h.at' a o (s.subset m),(s.map _).nodup h.nd,fun a o m=>h.fr a o (s.subset m)⟩
theorem xO{a:Addr}{o:Obj}{kvs:List (List Key×V)}{k:Nat}{js:List Nat}{g:TG}{tc:TT}{te:TE}{σ:L2.St}{H:Hp}{Q:VK}(P:Nat->List V->Hp->Prop)(h0:P 0 [] H)(hz:∀i ys H,i<=kvs.length->P i ys H->ys.length<=i)(hn:kvs.length<=sizeLine)
  (hl:∀i ys H,i<=kvs.length->P i ys H->H a=some (.frz o (.dT kvs)))
  (hs:∀i p b ys H,kvs[i]?=some p->H b=some (.tup (p.1.map kV))->P i ys H->g (.ref b) (List.replicate k none++cS js σ) H fun σ2 H2=>tc σ2 H2 fun b H3=>if b=true then te σ2 H3 fun y H4=>Nx kvs.length i P (ys++[y]) H4 else Nx kvs.length i P ys H3)
  (hd:∀ys H,P kvs.length ys H->∀p,H p=none->Q (.ref p) (upd H p (.lst ys))):ib (ItT a o kvs) k js g tc te σ H Q:=
 eo P h0 hz hn (fun i ys H hi p=>⟨hl i ys H (EH hi) p,hi⟩) (fun ys H p=>⟨hl _ ys H (DP _) p,DP _⟩)
  (fun i ys H x H' hi p y=>by obtain⟨e,b,pp,h1,rfl,h2⟩:=y;subst e;exact hs i pp b ys _ h1 h2 p) hd
theorem kN{kvs:List (List Key×V)}{k:List Key}{v:V}(h:bg kvs k=some v):∃kv∈kvs,k=kv.1/\kv.2=v:=by
 unfold bg at h;obtain⟨kv,h1,h2⟩:=EB.mp h;exact⟨kv,Hk h1,by have:=List.find?_some h1;simpa using(Eq.symm (by simpa using this)),h2⟩
theorem rG{kvs:List (List Key×V)}{p:List Key×V}(h:p∈kvs):∃v,bg kvs p.1=some v:=by
 have:(bg kvs p.1).isSome=true:=by rw[<- cm];exact Fo.mpr ⟨p,h,Ht rfl⟩
 exact Fz.mp this
def yT (many:Nat)(nm:List Nat)(kvs:List (List Key×V)):Prop:=∀kv∈kvs,∃a c b:Nat,kv=([.inl ((a:Nat):Int),.inr ⟨#[c]⟩],.int ((b:Nat):Int))/\a<many/\isW c/\b∈nm/\a∈nm
theorem gm{α β:Type}{R:α->β->Prop}:∀{xs:List α}{ys:List β},Paired R xs ys->ys≠[]->∃xs0 x ys0 y,xs=xs0++[x]/\ys=ys0++[y]/\Paired R xs0 ys0/\R x y
 |_,_,.nil,h=>absurd rfl h
 |_,_,.cons (a:=x) (b:=y) a .nil,_=>⟨[],x,[],y,rfl,rfl,.nil,a⟩
 |_,_,.cons (a:=x) (b:=y) a (.cons b r),_=>by
  obtain⟨xs0,x0,ys0,y0,e1,e2,h,q⟩:=gm (.cons b r) (by simp);exact⟨x::xs0,x0,y::ys0,y0,by rw[e1];rfl,by rw[e2];rfl,.cons a h,q⟩
theorem iD{α β:Type}{R:α->β->Prop}:∀{xs xs':List α}{ys ys':List β},Paired R xs ys->Paired R xs' ys'->Paired R (xs++xs') (ys++ys')
 |_,_,_,_,.nil,h=>h
 |_,_,_,_,.cons a r,h=>.cons a (iD r h)
def dn (many:Nat)(nm:List Nat):Nat:=((List.range many).filter fun n=>decide (n∈nm)).length
theorem iE{p q:Nat->Bool}(h:∀x,p x=true->q x=true):∀l:List Nat,(l.filter p).length<=(l.filter q).length
 |[]=>DP _
 |a::l=>by
  have ih:=iE h l;rw[EK,EK];cases hp:p a with
  |true=>rw[h a hp,Hq rfl,Hq rfl];exact HM ih
  |false=>
   rw[Ho (by decide)];split
   ·exact Fe ih
   ·exact ih
theorem ig{p q:Nat->Bool}(h:∀x,p x=true->q x=true){z:Nat}(hq:q z=true)(hp:p z=false):∀l:List Nat,z∈l->(l.filter p).length<(l.filter q).length
 |[],m=>absurd m (by simp)
 |a::l,m=>by
  have le:=iE h l;rw[EK,EK];by_cases e:a=z
  ·subst e;rw[hq,hp,Hq rfl];exact Nat.lt_succ_of_le le
  ·have ih:=ig h hq hp l ((Eb.mp m).elim (fun q=>absurd q.symm e) id);cases hpa:p a with
   |true=>rw[h a hpa,Hq rfl,Hq rfl];exact GV ih
   |false=>
    rw[Ho (by decide)];split
    ·exact Fn ih
    ·exact ih
theorem pf{lost kept:Nat}{nm:List Nat}{n:Nat}(hk:kept∈nm)(hne:kept≠lost)(h:n∈mg2 lost kept nm):n∈nm/\n≠lost:=by
 obtain⟨m,hm,rfl⟩:=Em.mp h;by_cases e:m=lost
 ·rw[Hq e];exact⟨hk,hne⟩
 ·rw[Ho e];exact⟨hm,e⟩
theorem zB{many lost kept:Nat}{nm:List Nat}(hl:lost∈nm)(hk:kept∈nm)(hne:kept≠lost)(hlm:lost<many):dn many (mg2 lost kept nm)<dn many nm:=
 ig (p:=fun n=>decide (n∈mg2 lost kept nm)) (q:=fun n=>decide (n∈nm)) (z:=lost) (fun x hx=>Ht (pf hk hne (Hy hx)).1) (Ht hl) (Hu fun z=>(pf hk hne z).2 rfl) _ (Es.mpr hlm)
def jd (jl:List (Nat×Nat×Nat)):List PyData:=jl.map fun j=>.tuple [.int (j.1:Int),.str ⟨#[j.2.1]⟩,.int (j.2.2:Int)]
theorem jF{H:Hp}:∀{vs:List V}{jl:List (Nat×Nat×Nat)},Paired (dU H) vs jl->DatAll K H vs (jd jl)
 |_,_,.nil=>.nil
 |_,_,.cons ⟨a,e,h⟩ r=>by subst e;exact .cons (.tup (SqT.of h) (.cons (.int _) (.cons (.str _) (.cons (.int _) .nil)))) (jF r)
theorem sM{many:Nat}:∀{jl:List (Nat×Nat×Nat)},IS many jl->PyData.canLayAll0 (jd jl)=true
 |[],_=>rfl
 |j::r,h=>by
  have hj:=h j DS;have ok:PyData.strOk (⟨#[j.2.1]⟩:Str)=true:=wo fun c hc=>by rw[Ei.mp hc];exact hj.2.1.asc
  have e:PyData.canLayAll0 (jd (j::r))=(PyData.strOk (⟨#[j.2.1]⟩:Str)&&PyData.canLayAll0 (jd r)):=by
   show((true&&(PyData.strOk (⟨#[j.2.1]⟩:Str)&&(true&&true)))&&PyData.canLayAll0 (jd r))=_;cases PyData.strOk (⟨#[j.2.1]⟩:Str)<;>rfl
  rw[e,ok,sM fun i hi=>h i (Eg _ hi)];rfl
theorem KQ:∀jl:List (Nat×Nat×Nat),PyData.depthAll (jd jl)<=1
 |[]=>Ec _
 |j::r=>by
  show max (PyData.tuple [.int (j.1:Int),.str ⟨#[j.2.1]⟩,.int (j.2.2:Int)]).depth (PyData.depthAll (jd r))<=1;exact Nat.max_le.mpr ⟨DP _,KQ r⟩
theorem qc(jl:List (Nat×Nat×Nat)):(PyData.list (jd jl)).depth<=60:=by
 have e:(PyData.list (jd jl)).depth=PyData.depthAll (jd jl)+1:=by simp[PyData.depth]
 have:=KQ jl;lia
theorem Pa:∀jl:List (Nat×Nat×Nat),PyData.eqv (.list (jd jl)) (.list [])=jl.isEmpty
 |[]=>rfl
 |_::_=>rfl
theorem lq(n:Nat):((List.range n).map fun i=>V.int ((i:Nat):Int))=iv (List.range n):=by show _=((List.range n).map _).map V.int;rw[EL];rfl
theorem mE{nm:List Nat}{a:Nat}(h:a<nm.length):atI (iv nm) (a:Int)=some (.int ((nm[a]:Nat):Int)):=by
 refine bG ?_;rw[DY,DY,DW h];rfl
theorem bX{H:Hp}{o:Addr}{y x:HO}(ho:H o=some y)(hy:∀xs,y≠.tup xs){us:List V}{G:List (Nat×Nat×Nat)}(h:Paired (dU H) us G):Paired (dU (upd H o x)) us G:=
 Paired.IL h fun v r hq117=>by obtain⟨a,e,q⟩:=hq117;exact⟨a,e,by rw[au (fun z=>by rw[z,ho] at q;exact hy _ (HC q))];exact q⟩
theorem bf{H H':Hp}(S:Ia H H'){us:List V}{G:List (Nat×Nat×Nat)}(h:Paired (dU H) us G):Paired (dU H') us G:=
 Paired.IL h fun v r hq118=>by obtain⟨a,e,q⟩:=hq118;exact⟨a,e,S _ _ q⟩
theorem IS.mono{m n:Nat}{jl:List (Nat×Nat×Nat)}(h:IS m jl)(l:m<=n):IS n jl:=fun j hj=>by have:=h j hj;exact⟨by lia,this.2.1,by lia⟩
theorem IS.snoc{m:Nat}{jl:List (Nat×Nat×Nat)}{j:Nat×Nat×Nat}(h:IS m jl)(hj:j.1<m/\isW j.2.1/\j.2.2<m):IS m (jl++[j]):=fun i hi=>(DX.mp hi).elim (h i) fun z=>by rw[Ei.mp z];exact hj
def Mq:Sp:=fun vs H Q _=>∃W ws,vs=[.ref W]/\H W=some (.lst (aR ws))/\ws.length<=9/\(∀cs∈ws,∀c∈cs,isW c)/\(∀cs∈ws,cs.length<=10)/\∀D kvs H',Ia H H'->H' D=some (.dT kvs)->(∀kv∈kvs,∃n:Nat,kv.2=.int (n:Int)/\n<100)->FG.Fold iv4 (wF ws) (dK kvs) 0->Q (.ref D) H'
theorem vE{dx d:DD}(D_ow:(dg "_law_other_way" 44 ["letter"] dx 1 Oz))(D:Def K mg "_law_ways" (top 55) ["words"] d)(Aj:mg "len"=none)(Ai:mg "range"=none)(AH:mg "int"=none)(Ao:mg "list"=none)(AI:mg "max"=none)(Az:mg "min"=none):(fk 2 d ["words"] Mq):=by
 exists["words","ways","many","joins","word","here","at","there","names","letter","known","lost","kept"]
 obtain⟨W,ws,rfl,gW,w9,wW,wl,q⟩:=h;refine⟨_,(ae (ac 1 (@JO _ _)) (ae (aw 2 (ah _)) (ae (aw 3 (aY (Ii _))) (ae (bE (bp (0)) (ar 4) (ae (aw 5 (ah _)) (aq (bE (bA Ai (aL (aP Ir Aj (4) aC) dv)) (ar 6) (ae (aw 7 (@xa _ _ _ (eQ (aB IX (6) (ay IC (aP Ir Aj (4) aC) (ah _)) (aD _)) (ah _) (2)))) (ae (aw 2 (ay Ij (2) (bS Kc AH Lx (aL (cu Lh (6) (ay IC (aP Ir Aj (4) aC) (ah _)) (aD _)) (by rfl))))) (ae (aV (cE (3) (bh (ag (5) (ag (aN Lq (4) (6)) (aL (7) aC) (by rfl)) aC)) (by rfl))) (ae (aV (cE (3) (bh (ag (7) (ag (bu D_ow.1 D_ow.2 (aN Lq (4) (6)) (by rfl)) (aL (5) aC) dv) aC)) (by rfl))) (aq (aw 5 (7))))))))))) (ae (aw 8 (du Ao Ai (aL (2) aC))) (ae (dM (aB (fY hr.units) (3) (aY (Ii _)) (aD _)) (ae (cx (wY HD PySem.F.slot_list_pop PySem.F.type_list_pop NS (3)) (cj (ax (ar 5) (ax (ar 9) (ax (ar 7) (Ip _)))))) (ae (aw 5 (aN HY (8) (5))) (ae (aw 7 (aN HY (8) (7))) (ae (aw 10 (iJ (bK hr) (1) (bh (ag (5) (aL (9) aC) aC)) ⟨rfl,rfl,rfl,rfl⟩)) (aq (br (aB Kd (10) (bR _) (aD _)) (aq (fA (bK hr) (1) (bh (ag (5) (aL (9) aC) aC)) (7))) (aq (br (aB Jp (10) (7) (aD _)) (ae (ac 11 (aS (jh hc) AI LR (ag (10) (aL (7) aC) aC))) (ae (ac 12 (aS (gi hc) Az Lb (ag (10) (aL (7) aC) aC))) (ae (jT 8 (aA (ts:=["name"]) (cap:=["lost","kept"]) (js:=[11,12]) rfl rfl rfl rfl rfl rfl (by decide +kernel)) (bp (8)) (am 0 (nd ["name","lost","kept"])) (@aX _) (eQ (aB IX (0) (1) (aD _)) (2) (0))) (ae (aV (fG HD PySem.F.slot_list_extend PySem.F.type_list_extend Jw (3) (aL (bB (aA (ts:=["key"]) (cap:=["ways"]) (js:=[1]) rfl rfl rfl rfl rfl rfl (by decide +kernel)) (@su _ _ _ _ (1)) (am 0 (nd ["key","ways"])) (@aX _) (bh (ag (aN (show IxR _ (rE K) from Il) (0) (ah _)) (ag (aN (show IxR _ (rE K) from Il) (0) (ah _)) (aL (bC (bK hr) (1) (0)) (by rfl)) (by rfl)) (by rfl)))) (by rfl)))) (ae (ac 1 (@JO _ _)) (aq (aV (cE (3) (bh (ag (5) (ag (9) (aL (7) aC) aC) aC)) (by rfl))))))))) (HZ _)))))))))) (aq (aH (1))))))))),?_⟩
 walk_at "d"
 walk_at "c"
 refine fun Dk nD=>?_
 walk_at "c"
 refine⟨Ec _,fun J nJ=>?_⟩;have F0:=((Hs.start H).new nD (.dT [])).new nJ (.lst [])
 walk_at "c"
 refine⟨_,rfl,W,rfl,⟨_,SqL.of (F0.all _ _ gW)⟩,?_⟩;have tl:(aR ws).length=ws.length:=DQ ..
 walk_at "c"
 refine dP (K:=K) (a:=W) (xs:=aR ws) (fun i σ H'=>∃(many:Nat)(js:List V)(jl:List (Nat×Nat×Nat))(e4 e5 e6 e7:Option V),σ=[some (.ref W),some (.ref Dk),some (.int (many:Int)),some (.ref J),e4,e5,e6,e7,none,none,none,none,none]/\Hs H [(Dk,.dT []),(J,.lst js)] H'/\Paired (dU H') js jl/\IS many jl/\1<=many/\many<=1+10*i/\jl.length<=20*i/\FG.Pre iv4 (wF (ws.take i)) (Ej0 jl) 0) ⟨1,[],[],_,_,_,_,rfl,F0,.nil,fun j h=>absurd h (by simp),DP _,DP _,DP _,(FG.Pre.none 0).same fun s a t=>⟨False.elim,fun h=>by cases h⟩⟩ (fun i σ H' hi z=>by obtain⟨_,_,_,_,_,_,_,_,F,_⟩:=z;exact SqL.of (F.all _ _ gW)) (fun i x σ H' hx z=>?_) (fun σ H' z=>?_)
 ·obtain⟨many,js,jl00,e4,e5,e6,e7,rfl,F,hJ,gJ,m1,m2,jn,hP0⟩:=z;have gJ00:=gJ;rw[DY] at hx;obtain⟨cs,hcs,rfl⟩:=EB.mp hx;have mcs:=Ea hcs;have cW:=wW cs mcs;have cl:=wl cs mcs;have hi:i<ws.length:=(DU.mp hcs).1;have zl:(txt cs).length<=sizeLine:=aJ (by show cs.length<=1000000;lia)
  walk_at "c"
  refine⟨_,rfl,txt cs,rfl,zl,_,rfl,(by show -(2^62)<=((cs.length:Nat):Int);lia),(by show((cs.length:Nat):Int)<2^62;lia),?_⟩;show ∃W_1:Nat->Nat->L2.St->Hp->Prop,_
  walk_at "c"
  refine bH (lo:=0) (n:=cs.length) (fun j σ H'=>∃(mn:Nat)(js:List V)(jl:List (Nat×Nat×Nat))(here:Nat)(e6 e7:Option V),σ=[some (.ref W),some (.ref Dk),some (.int (mn:Int)),some (.ref J),some (.str (txt cs)),some (.int (here:Int)),e6,e7,none,none,none,none,none]/\Hs H [(Dk,.dT []),(J,.lst js)] H'/\Paired (dU H') js jl/\IS mn jl/\here<mn/\mn<=many+j/\jl.length<=20*i+2*j/\jl=jl00++pj many cs j/\here=FG.st many cs.length j/\mn=many+min j (cs.length-1)) ⟨many,js,jl00,0,_,_,rfl,F,hJ,gJ,by lia,DP _,jn,(Et _).symm,(Hq (.inl rfl)).symm,by rw[Nat.zero_min];rfl⟩ (fun j σ H' hj z=>?_) (fun σ H' z=>?_)
  ·obtain⟨mn,js,jl,here,e6,e7,rfl,F,hJ,gJ,hh,mn2,jn,hjl,hhe,hmn⟩:=z;have hci:=cW _ (Ep hj);have pl:=aT hJ;have hn:(txt cs).length=cs.length:=by show cs.toArray.size=_;simp
   have bigj:∀n:Nat,n<=100000->n<sizeLine:=fun n h=>DT (show n<1000000 by lia) (aJ (DP _));have eat:atI (txt cs).cps.toList (0+(j:Int))=some cs[j]:=by rw[EF];exact bG (DW hj)
   walk_at "c"
   refine⟨fun x H0=>H'=H0/\x=.int ((FG.st many cs.length (j+1):Nat):Int),?_,?_⟩
   ·walk_at "c"
    refine⟨_,rfl,_,rfl,txt cs,rfl,zl,_,_,rfl,rfl,rfl,decide (j+1=cs.length),?_,?_⟩
    ·show V.bl (decide (V.int (0+(j:Int))=V.int ((((txt cs).length:Nat):Int)-1)))=_;rw[hn]
     congr 1
     walk_at "e"
     exact decide_eq_decide.mpr ⟨fun h=>by injection h with h;lia,fun h=>by congr 1;lia⟩
    by_cases hlast:j+1=cs.length
    ·rw[Ht hlast]
     walk_at "e"
     refine⟨rfl,?_⟩;unfold FG.st;rw[Hq (by lia)];rfl
    ·rw[Hu hlast]
     walk_at "e"
     refine⟨_,rfl,rfl,?_⟩;unfold FG.st;rw[Ho (by lia),hmn,show many+min j (cs.length-1)=many+(j+1)-1 by lia]
   rintro _ _ ⟨rfl,rfl⟩;obtain⟨th,hth⟩:∃th,th=FG.st many cs.length (j+1):=⟨_,rfl⟩
   obtain⟨mn',em'⟩:∃m:Nat,m=many+min (j+1) (cs.length-1):=⟨_,rfl⟩
   have hthl:th<mn':=by rw[hth,em'];unfold FG.st;split<;>lia
   rw[<- hth];have ecj:cs.getD j 0=cs[j]:=by rw[ED,DW hj];rfl
   have hj2:jl++[(here,cs[j],th)]++[(th,bk cs[j],here)]=jl00++pj many cs (j+1):=by rw[ug,hjl,<- hhe,<- hth,ecj];simp only[Ej]
   have gJ':IS mn' jl:=gJ.mono (by lia)
   walk_at "c"
   refine⟨_,rfl,_,rfl,_,rfl,txt cs,rfl,zl,_,_,rfl,rfl,_,_,rfl,rfl,.inr ⟨_,rfl,_,_,rfl,rfl,?_⟩⟩;have em:(mn:Int)+(if decide ((0:Int)+(j:Int)<(((txt cs).length:Nat):Int)-1)=true then 1 else 0)=(mn':Int):=by
    rw[hn];by_cases h:(0:Int)+(j:Int)<((cs.length:Nat):Int)-1
    ·rw[Ht h,Hq rfl];lia
    ·rw[Hu h,Ho (by decide)];lia
   have hv:(fun i j=>V.int (i+j)) (mn:Int) (if decide ((0:Int)+(j:Int)<(((txt cs).length:Nat):Int)-1)=true then 1 else 0)=V.int (mn':Int):=congrArg V.int em;rw[hv];have gJ0:=F.get 1
   walk_at "c"
   refine⟨_,rfl,.inl ⟨rfl,_,SqL.of gJ0⟩,_,rfl,_,rfl,_,rfl,txt cs,_,cs[j],rfl,rfl,zl,eat,_,rfl,aJ (by show 3<=1000000;decide),fun t1 n1=>?_⟩;have S1:=ao n1 (.tup [.int (here:Int),.str ⟨#[cs[j]]⟩,.int (th:Int)]);have F1:=F.mono S1;have gJ1:=F1.get 1;have hJ1:=bf S1 hJ
   walk_at "c"
   refine⟨J,js,_,rfl,rfl,gJ1,bigj _ (by lia),?_⟩;have F2:=F1.put 1 (.lst (js++[.ref t1]));have tJ:t1≠J:=fun z=>by rw[z] at n1;rw[n1] at gJ0;cases gJ0
   have hJ2:Paired (dU (upd (upd H' t1 (.tup [.int (here:Int),.str ⟨#[cs[j]]⟩,.int (th:Int)])) J (.lst (js++[.ref t1])))) (js++[.ref t1]) (jl++[(here,cs[j],th)]):=bt (bX gJ1 (fun _ z=>nomatch z) hJ1) ⟨t1,rfl,by rw[au tJ];exact af⟩;have g2:=gJ'.snoc (j:=(here,cs[j],th)) ⟨by show here<mn';lia,hci,hthl⟩;have l2:(js++[V.ref t1]).length=js.length+1:=by rw[DR];rfl
   have k2:(jl++[(here,cs[j],th)]).length=jl.length+1:=by rw[DR];rfl
   generalize upd (upd H' t1 (.tup [.int (here:Int),.str ⟨#[cs[j]]⟩,.int (th:Int)])) J (.lst (js++[.ref t1]))=H2 at F2 hJ2 ⊢;generalize js++[V.ref t1]=js2 at F2 hJ2 l2 ⊢;generalize jl++[(here,cs[j],th)]=jl2 at hJ2 g2 k2 hj2;have gJ2:=F2.get 1
   walk_at "c"
   refine⟨_,rfl,.inl ⟨rfl,_,SqL.of gJ2⟩,_,rfl,_,rfl,_,rfl,txt cs,_,cs[j],rfl,rfl,zl,eat,cs[j],rfl,hci,fun H3 S3=>⟨_,rfl,aJ (by show 3<=1000000;decide),fun t2 n2=>?_⟩⟩;have F3:=F2.mono S3;have S4:=ao n2 (.tup [.int (th:Int),.str ⟨#[bk cs[j]]⟩,.int (here:Int)]);have F4:=F3.mono S4;have gJ4:=F4.get 1;have gJ3:=F3.get 1;have hJ4:=bf S4 (bf S3 hJ2)
   walk_at "c"
   refine⟨J,js2,_,rfl,rfl,gJ4,bigj _ (by lia),?_⟩
   walk_at "c"
   refine⟨_,rfl,?_⟩;have F5:=F4.put 1 (.lst (js2++[.ref t2]));have tJ2:t2≠J:=fun z=>by rw[z] at n2;rw[n2] at gJ3;cases gJ3
   walk_at "c"
   refine⟨mn',js2++[V.ref t2],jl2++[(th,bk cs[j],here)],th,_,_,rfl,F5,bt (bX gJ4 (fun _ z=>nomatch z) hJ4) ⟨t2,rfl,by rw[au tJ2];exact af⟩,g2.snoc (j:=(th,bk cs[j],here)) ⟨hthl,hci.bk,by show here<mn';lia⟩,hthl,by lia,by rw[DR];show jl2.length+1<=_;lia,hj2,rfl,em'⟩
  ·obtain⟨mn,js,jl,here,e6,e7,rfl,F,hJ,gJ,hh,mn2,jn,hjl,hhe,hmn⟩:=z
   walk_at "c"
   refine⟨mn,js,jl,_,_,_,_,rfl,F,hJ,gJ,by lia,by lia,by lia,?_⟩;rw[Eo,hcs];show FG.Pre iv4 (List.map _ (ws.take i++[cs])) _ 0;rw[Ef,hjl]
   walk_at "c"
   exact vB hP0 m1 gJ00 cW
 ·obtain⟨many,js,jl,e4,e5,e6,e7,rfl,F,hJ,gJ,m1,m2,jn,hP0⟩:=z;rw[tl] at m2 jn hP0;rw[Ez] at hP0;have hP1:=hP0.same (rH gJ)
  walk_at "c"
  refine⟨_,rfl,many,rfl,by lia,fun Nn nN=>?_⟩;rw[lq];have S0:=ao nN (.lst (iv (List.range many)));have F1:=F.new nN (.lst (iv (List.range many)));have F2:Hs H [(J,.lst js),(Nn,.lst (iv (List.range many))),(Dk,.dT [])] (upd H' Nn (.lst (iv (List.range many)))):=
   ⟨F1.all,fun a o m=>F1.at' a o (by simp at m ⊢;rcases m with h|h|h<;>simp[h]),by have:=F1.nd;simp at this ⊢;exact⟨⟨this.2,fun z=>this.1.1 z.symm⟩,fun z=>this.1.2 z.symm⟩,fun a o m=>F1.fr a o (by simp at m ⊢;rcases m with h|h|h<;>simp[h])⟩
  walk_at "c"
  refine⟨fun m σ H'=>∃(js:List V) (jl:List (Nat×Nat×Nat)) (nm:List Nat) (kvs:List (List Key×V)) (Nn Dk:Addr) (e4 e5 e6 e7 e9 e10 e11 e12:Option V),σ=[some (.ref W),some (.ref Dk),some (.int (many:Int)),some (.ref J),e4,e5,e6,e7,some (.ref Nn),e9,e10,e11,e12]/\Hs H [(J,.lst js),(Nn,.lst (iv nm)),(Dk,.dT kvs)] H'/\Paired (dU H') js jl/\IS many jl/\nm.length=many/\(∀n∈nm,n < many)/\yT many nm kvs/\jl.length+kvs.length<=180/\m=dn many nm * 200+jl.length/\(∀n∈nm,n < many/\nm.getD n 0=n)/\FG.Pre iv4 (wF ws) (El nm kvs jl) 0,
   ⟨_,js,jl,List.range many,[],Nn,Dk,_,_,_,_,_,_,_,_,rfl,F2,bf S0 hJ,gJ,EG,fun n hn=>Es.mp hn,fun kv h=>absurd h (by simp),by show jl.length+0<=180;lia,rfl,(fun n hn=>⟨Es.mp hn,by rw[ED,GF (Es.mp hn)];rfl⟩),hP1⟩,?_⟩
  clear F F1 F2 hJ gJ jn S0 nN hP0 hP1;rintro m σ H1 ⟨js,jl,nm,kvs,Nn,Dk,e4,e5,e6,e7,e9,e10,e11,e12,rfl,F,hJ,gJ,nl,nlt,gK,jk,rfl,fx,hP⟩;have kval:∀s c v,bg kvs (ky s c)=some v->∃b:Nat,v=.int ((b:Nat):Int)/\s∈nm/\b∈nm/\isW c:=fun s c v hv=>by
   obtain⟨kv,mk,ek,rfl⟩:=kN hv;obtain⟨a,c',b,rfl,_,h2,h3,h4⟩:=gK kv mk;obtain⟨e1,e2⟩:=eZ ek;subst e1 e2
   walk_at "c"
   exact⟨b,rfl,h4,h3,h2⟩
  walk_at "c"
  refine⟨_,rfl,Ec _,fun z1 nz1=>?_⟩;have S1:=ao nz1 (.lst []);have F1:=F.mono S1;have hJ1:=bf S1 hJ;have gJ1:=F1.get 0
  walk_at "c"
  refine⟨.list (jd jl),.list [],.lst (SqL.of gJ1) (jF hJ1),.lst (SqL.of af) .nil,sM gJ,rfl,qc _,!jl.isEmpty,(by show V.bl (!PyData.eqv _ _)=_;rw[Pa]),?_⟩;generalize upd H1 z1 (.lst [])=H2 at F1 hJ1 gJ1 ⊢;cases hE:(!jl.isEmpty) with
  |false=>
   walk_at "c"
   refine⟨_,rfl,?_⟩;have jn0:jl=[]:=by cases jl with|nil=>rfl|cons _ _=>cases hE
   subst jn0
   walk_at "c"
   refine q Dk kvs H2 F1.all (F1.get 2) (fun kv hkv=>?_) (hP.done (NH fun s c v hv=>by obtain⟨b,e,_⟩:=kval s c v hv;exact⟨b,e⟩));obtain⟨a,c,b,rfl,_,_,hb,_⟩:=gK kv hkv
   walk_at "c"
   exact⟨b,rfl,by have:=nlt b hb;lia⟩
  |true=>
   have hne:jl≠[]:=fun z=>by rw[z] at hE;cases hE
   walk_at "c"
   refine⟨_,fun σ' H' z=>z,?_⟩;obtain⟨js0,x,jl0,⟨a,c,b⟩,rfl,rfl,hJ0,t0,rfl,ht0⟩:=gm hJ1 hne;obtain⟨ha,hcW,hb⟩:=gJ (a,c,b) (DV _ DS)
   replace ha:a<many:=ha
   replace hb:b<many:=hb
   replace hcW:isW c:=hcW
   have gJ0:IS many jl0:=fun i hi=>gJ i (Eh _ hi);have elast:(js0++[V.ref t0])[(js0++[V.ref t0]).length-1]?=some (.ref t0):=by rw[DR];show(js0++[V.ref t0])[js0.length+1-1]?=_;rw[Nat.add_sub_cancel,Ff (DP _),Nat.sub_self];rfl
   walk_at "c"
   refine⟨_,rfl,.inl ⟨rfl,_,SqL.of gJ1⟩,J,_,_,rfl,rfl,gJ1,elast,?_⟩;rw[List.dropLast_concat];have F2:=F1.put 0 (.lst js0);have ht2:upd H2 J (.lst js0) t0=some (.tup [.int (a:Int),.str ⟨#[c]⟩,.int (b:Int)]):=by rw[au (fun z=>by rw[z,gJ1] at ht0;cases ht0)];exact ht0
   have hJ2:=bX (x:=.lst js0) gJ1 (fun _ z=>nomatch z) hJ0;generalize upd H2 J (.lst js0)=H3 at F2 ht2 hJ2 ⊢;have gN:=F2.get 1;have gD:=F2.get 2
   walk_at "c"
   refine⟨t0,_,rfl,SqT.of ht2,rfl,_,_,rfl,_,_,rfl,_,_,rfl,rfl,?_⟩
   walk_at "c"
   refine⟨_,rfl,_,rfl,Nn,_,_,_,rfl,rfl,SqL.of gN,mE (by lia),?_⟩
   walk_at "c"
   refine⟨_,rfl,_,rfl,Nn,_,_,_,rfl,rfl,SqL.of gN,mE (by lia),?_⟩;have ha2:nm[a]∈nm:=Ep _;have hb2:nm[b]∈nm:=Ep _;have ea:nm.getD a 0=nm[a]:=by rw[ED,DW (by lia)];rfl
   have eb:nm.getD b 0=nm[b]:=by rw[ED,DW (by lia)];rfl
   generalize nm[a]=a' at ha2 ea ⊢;generalize nm[b]=b' at hb2 eb ⊢;have la:=nlt a' ha2;have lb:=nlt b' hb2;have pl:=aT hJ2;have jk':jl0.length+1+kvs.length<=180:=by rw[DR] at jk;exact jk
   have em:(jl0++[(a,c,b)]).length=jl0.length+1:=by rw[DR];rfl
   walk_at "c"
   refine⟨_,rfl,Dk,rfl,.inr ⟨kvs,.inl gD⟩,_,rfl,_,rfl,aJ (by show 2<=1000000;decide),fun kb nkb=>?_⟩;have S4:=ao nkb (.tup [.int (a':Int),.str ⟨#[c]⟩]);have F3:=F2.mono S4;have hJ3:=bf S4 hJ2
   walk_at "c"
   refine⟨_,IE.t (k:=[.inl (a':Int),.inr ⟨#[c]⟩]) (S4 _ _ gD) af,?_⟩;generalize upd H3 kb (.tup [.int (a':Int),.str ⟨#[c]⟩])=H4 at F3 hJ3 ⊢;have gN3:=F3.get 1;have gD3:=F3.get 2;have gJ3:=F3.get 0;cases hv:bg kvs [.inl (a':Int),.inr ⟨#[c]⟩] with
   |none=>
    walk_at "e"
    refine⟨_,rfl,rfl,true,rfl,?_⟩
    walk_at "e"
    refine⟨_,rfl,_,rfl,_,rfl,_,rfl,aJ (by show 2<=1000000;decide),fun kc nkc=>?_⟩;have S5:=ao nkc (.tup [.int (a':Int),.str ⟨#[c]⟩]);have F5:=F3.mono S5;have hJ5:=bf S5 hJ3;have gD5:=F5.get 2
    walk_at "e"
    refine⟨Dk,_,rfl,Lg.t (k:=[.inl (a':Int),.inr ⟨#[c]⟩]) gD5 af (DT (show kvs.length<1000000 by lia) (aJ (DP _))),?_⟩;rw[fL _ hv];have F6:=F5.put 2 (.dT (kvs++[([.inl (a':Int),.inr ⟨#[c]⟩],.int (b':Int))]))
    walk_at "e"
    refine⟨dn many nm*200+jl0.length,by rw[em];lia,js0,jl0,nm,_,Nn,Dk,_,_,_,_,_,_,_,_,rfl,F6,bX gD5 (fun _ z=>nomatch z) hJ5,gJ0,nl,nlt,fun kv hkv=>?_,by rw[DR];show jl0.length+(kvs.length+1)<=180;lia,rfl,fx,hP.same (wL hcW ea eb hv)⟩;rcases DX.mp hkv with h|h
    ·walk_at "e"
     exact gK kv h
    ·rw[Ei.mp h];exact⟨a',c,b',rfl,la,hcW,hb2,ha2⟩
   |some v=>
    obtain⟨n,rfl,_,hn,_⟩:=kval a' c v hv;have ln:=nlt n hn;rw[GM]
    walk_at "e"
    refine⟨_,rfl,rfl,false,rfl,?_⟩
    walk_at "e"
    refine⟨_,rfl,_,rfl,rfl,!decide (n=b'),?_,?_⟩
    ·congr 2
     walk_at "e"
     exact decide_eq_decide.mpr ⟨fun h=>by injection h with h;lia,fun h=>by rw[h]⟩
    by_cases hnb:n=b'
    ·rw[Ht hnb]
     walk_at "e"
     exact⟨dn many nm*200+jl0.length,by rw[em];lia,js0,jl0,nm,kvs,Nn,Dk,_,_,_,_,_,_,_,_,rfl,F3,hJ3,gJ0,nl,nlt,gK,by lia,rfl,fx,hP.same (uk ea eb (by rw[<- hnb];exact hv))⟩
    ·rw[Hu hnb]
     walk_at "e"
     refine⟨_,rfl,_,rfl,(n:Int),(b':Int),rfl,?_⟩
     walk_at "e"
     refine⟨_,rfl,_,rfl,(n:Int),(b':Int),rfl,?_⟩;obtain⟨lost,kept,el,ek,hlost,hkept,hlk,hl0,hor⟩:∃lost kept:Nat,(if (b':Int)>(n:Int) then (b':Int) else (n:Int))=(lost:Int)/\(if (b':Int)<(n:Int) then (b':Int) else (n:Int))=(kept:Int)/\lost∈nm/\kept∈nm/\kept≠lost/\lost≠0/\((lost=b'/\kept=n)\/(lost=n/\kept=b')):=by
      by_cases h:n<b'
      ·walk_at "e"
       exact⟨b',n,by rw[Hq (by lia)],by rw[Ho (by lia)],hb2,hn,by lia,by lia,.inl ⟨rfl,rfl⟩⟩
      ·walk_at "e"
       exact⟨n,b',by rw[Ho (by lia)],by rw[Hq (by lia)],hn,hb2,by lia,by lia,.inr ⟨rfl,rfl⟩⟩
     rw[el,ek];have llost:=nlt lost hlost;have nl2:(iv nm).length=nm.length:=by show((nm.map _).map V.int).length=_;rw[DQ,DQ]
     walk_at "e"
     refine⟨_,rfl,Nn,rfl,⟨_,SqL.of gN3⟩,?_⟩
     walk_at "e"
     refine fH (K:=K) (a:=Nn) (xs:=iv nm) (fun i ys H'=>H'=H4/\ys=iv (mg2 lost kept (nm.take i))) ⟨rfl,rfl⟩ (fun i ys H' hi z=>by rw[z.2];show((((nm.take i).map _).map _).map V.int).length<=i;rw[DQ,DQ,DQ,Eu];lia) (aJ (by rw[nl2];lia)) (fun i ys H' hi z=>by rw[z.1];exact SqL.of gN3) (fun i x ys H' hx z=>?_) (fun ys H' z N2 nN2=>?_)
     ·obtain⟨rfl,rfl⟩:=z;rw[DY,DY] at hx;obtain⟨y,hy,rfl⟩:=EB.mp hx;obtain⟨nn,hnn,rfl⟩:=EB.mp hy;have hi:i<nm.length:=(DU.mp hnn).1;have es:iv (mg2 lost kept (nm.take i))++[V.int ((if nn=lost then kept else nn:Nat):Int)]=iv (mg2 lost kept (nm.take (i+1))):=by
       rw[jX,Eo,hnn];show iv (_++[_])=iv ((_++[nn]).map _);rw[Ef];rfl
      walk_at "e"
      refine⟨_,rfl,_,rfl,rfl,decide (nn=lost),?_,?_⟩
      ·congr 1
       walk_at "e"
       exact decide_eq_decide.mpr ⟨fun h=>by injection h with h;lia,fun h=>by rw[h]⟩
      by_cases h:nn=lost
      ·rw[Ht h]
       walk_at "e"
       refine⟨_,rfl,Nx.mk (by rw[nl2];exact hi) ⟨rfl,?_⟩⟩;rw[<- es,Hq h]
      ·rw[Hu h]
       walk_at "e"
       refine⟨_,rfl,Nx.mk (by rw[nl2];exact hi) ⟨rfl,?_⟩⟩;rw[<- es,Ho h]
     ·obtain⟨rfl,rfl⟩:=z;rw[nl2,Ez];have S6:=ao nN2 (.lst (iv (mg2 lost kept nm)));have F6:=F3.new nN2 (.lst (iv (mg2 lost kept nm)));have hJ6:=bf S6 hJ3;generalize upd H' N2 (.lst (iv (mg2 lost kept nm)))=H6 at F6 hJ6 ⊢;have gJ6:=F6.get 0;have gD6:=F6.get 2
      walk_at "e"
      refine⟨_,rfl,.inl ⟨rfl,_,SqL.of gJ6⟩,_,rfl,Dk,kvs,rfl,gD6,fun o=>?_⟩;have F7:=F6.put 2 (.frz o (.dT kvs));have hJ7:=bX (x:=.frz o (.dT kvs)) gD6 (fun _ z=>nomatch z) hJ6;generalize upd H6 Dk (.frz o (.dT kvs))=H7 at F7 hJ7 ⊢;have gD7:=F7.get 2
      walk_at "e"
      refine xO (a:=Dk) (o:=o) (kvs:=kvs) (fun i ys H'=>Ia H7 H'/\∃jl2,Paired (dU H') ys jl2/\IS many jl2/\jl2.length=i/\(∀j∈jl2,isW j.2.1/\bg kvs (ky j.1 j.2.1)=some (.int ((j.2.2:Nat):Int)))/\∀p∈kvs.take i,∃j∈jl2,p.1=ky j.1 j.2.1) ⟨Ia.refl _,[],.nil,fun j h=>absurd h (by simp),rfl,(fun j h=>absurd h (by simp)),fun p h=>absurd h (by simp)⟩ (fun i ys H' hi z=>by obtain⟨_,jl2,h1,_,h2,_⟩:=z;rw[aT h1,h2];exact DP _) (aJ (by lia)) (fun i ys H' hi z=>z.1 _ _ gD7) (fun i p b0 ys H' hp hb0 z=>?_) (fun ys H' z l9 nl9=>?_)
      ·obtain⟨z1,jl2,h1,h2,h3,h5,h6⟩:=z;have hi:i<kvs.length:=(DU.mp hp).1;have mp:=Ea hp;obtain⟨a1,c1,b1,rfl,l1,w1,m1',_⟩:=gK p mp;obtain⟨v,hv⟩:=rG mp;obtain⟨b2,rfl,_,m2',_⟩:=kval a1 c1 v hv;have l2:=nlt b2 m2';have hb1:H' b0=some (.tup [.int (a1:Int),.str ⟨#[c1]⟩]):=hb0
       walk_at "e"
       refine⟨_,rfl,b0,_,0,_,rfl,rfl,SqT.of hb1,rfl,_,rfl,b0,_,1,_,rfl,rfl,SqT.of hb1,rfl,_,rfl,_,rfl,Dk,_,rfl,.inr ⟨kvs,[.inl (a1:Int),.inr ⟨#[c1]⟩],b0,.inr ⟨o,z1 _ _ gD7⟩,rfl,hb1,hv.symm⟩,aJ (by show 3<=1000000;decide),fun t5 n5=>?_⟩;have S5:=ao n5 (.tup [.int (a1:Int),.str ⟨#[c1]⟩,.int (b2:Int)])
       walk_at "e"
       refine Nx.mk hi ⟨z1.trans S5,jl2++[(a1,c1,b2)],bt (bf S5 h1) ⟨t5,rfl,af⟩,h2.snoc (j:=(a1,c1,b2)) ⟨l1,w1,l2⟩,by rw[DR,h3];rfl,fun j hj=>?_,fun p' hp'=>?_⟩
       ·rcases DX.mp hj with hj|hj
        ·walk_at "e"
         exact h5 j hj
        ·rw[Ei.mp hj];exact⟨w1,hv⟩
       ·rw[Eo,hp] at hp';rcases DX.mp hp' with hp'|hp'
        ·obtain⟨j,hj,e⟩:=h6 p' hp'
         walk_at "e"
         exact⟨j,Eh _ hj,e⟩
        ·walk_at "e"
         refine⟨(a1,c1,b2),DV _ DS,?_⟩;rw[Ei.mp hp']
      ·obtain⟨z1,jl2,h1,h2,h3,h5,h6⟩:=z;have S8:=z1.trans (ao nl9 (.lst ys));have F8:=F7.mono S8;have hJ8:=bf S8 hJ7;have h18:=bf (ao nl9 (.lst ys)) h1;have gJ8:=F8.get 0;have pl2:=aT h1;have lj:l9≠J:=fun z=>by
        have:=z1 _ _ (F7.get 0);rw[z] at nl9;rw[nl9] at this;cases this
       walk_at "e"
       refine⟨J,l9,js0,ys,rfl,rfl,gJ8,af,aJ (by lia),?_⟩;have F9:=F8.put 0 (.lst (js0++ys));have hJ9:=bX (x:=.lst (js0++ys)) gJ8 (fun _ z=>nomatch z) hJ8;have h19:=bX (x:=.lst (js0++ys)) gJ8 (fun _ z=>nomatch z) h18;have hJa:=iD hJ9 h19;generalize upd (upd H' l9 (.lst ys)) J (.lst (js0++ys))=H9 at F9 hJa ⊢
       walk_at "e"
       refine fun D2 nD2=>?_;have Fa:=F9.new nD2 (.dT []);have Sa:=ao nD2 (.dT []);have hJb:=bf Sa hJa;have gJa:=Fa.get 0
       walk_at "e"
       refine⟨_,rfl,.inl ⟨rfl,_,SqL.of gJa⟩,_,rfl,_,rfl,_,rfl,aJ (by show 3<=1000000;decide),fun t9 n9=>?_⟩;have Sb:=ao n9 (.tup [.int (a':Int),.str ⟨#[c]⟩,.int (b':Int)]);have Fb:=Fa.mono Sb;have gJb:=Fb.get 0;have hJc:=bf Sb hJb;have tj:t9≠J:=fun z=>by rw[z] at n9;rw[n9] at gJa;cases gJa
       walk_at "e"
       refine⟨J,_,_,rfl,rfl,gJb,DT (show(js0++ys).length<1000000 by rw[DR];lia) (aJ (DP _)),?_⟩;have Fc:=Fb.put 0 (.lst (js0++ys++[V.ref t9]));have hd:=zB (many:=many) hlost hkept hlk llost;have el9:(jl0++jl2++[(a',c,b')]).length=jl0.length+kvs.length+1:=by rw[DR,DR,h3];rfl
       walk_at "e"
       refine⟨dn many (mg2 lost kept nm)*200+(jl0++jl2++[(a',c,b')]).length,by rw[el9,em];lia,js0++ys++[V.ref t9],jl0++jl2++[(a',c,b')],mg2 lost kept nm,[],N2,D2,_,_,_,_,_,_,_,_,rfl,wN Fc (.cons_cons _ (.cons _ (.cons _ (.cons_cons _ (.cons_cons _ .slnil))))),bt (bX gJb (fun _ z=>nomatch z) hJc) ⟨t9,rfl,by rw[au tj];exact af⟩,?_,by unfold mg2;rw[DQ];exact nl,fun n hn=>nlt n (pf hkept hlk hn).1,fun kv h=>absurd h (by simp),by rw[el9];show jl0.length+kvs.length+1+0<=180;lia,rfl,uc nl fx hkept hlk,?_⟩
       rotate_left
       ·have hv1:=hv;have e1:El nm kvs (jl0++[(a,c,b)]) a' (pl4 c) n:=.inl (by rw[dJ hcW];exact hv1);have e2:El nm kvs (jl0++[(a,c,b)]) a' (pl4 c) b':=.inr ⟨(a,c,b),DV _ DS,ea,(dJ hcW).symm,eb⟩
        have em:=sh (lost:=lost) (kept:=kept) nl fx gJ ea eb ha2 hb2 (fun s x t h=>by obtain⟨b,e,q1,q2,_⟩:=kval s (cM x) _ h; injection e with e; exact⟨q1,by rw[Int.ofNat.inj e]; exact q2⟩) h5 (fun s x t h=>by
         obtain⟨kv,mk,ek,_⟩:=kN h;obtain⟨⟨j1,j2,j3⟩,hj,e⟩:=h6 kv (by rw[Ez];exact mk);rw[<- ek] at e;obtain⟨q1,q2⟩:=eZ e;have h5j:=(h5 _ hj).2;subst q1 q2;rw[h] at h5j;injection h5j with h5j;injection h5j with h5j
         rw[Int.ofNat.inj h5j]; exact hj)
        rcases hor with ⟨rfl,rfl⟩|⟨rfl,rfl⟩
        ·walk_at "e"
         exact hP.merge IH e1 e2 hl0 em
        ·walk_at "e"
         exact hP.merge IH e2 e1 hl0 em
       walk_at "e"
       refine IS.snoc (fun i hi=>(DX.mp hi).elim (gJ0 i) (h2 i)) (j:=(a',c,b')) ⟨la,hcW,lb⟩
end
end K3
namespace L2
open PySem PySem.Spec PyProof.Rows
open PySem.MeetsSeq PySem.SeqAt
section
variable {X:Cx}
def vo (K:W.Frag):R2:=fun x y H Q=>∃l xs ds d,y=.ref l/\SqL K H l xs/\DatAll K H xs ds/\IY K H x d/\PyData.canLayAll0 ds=true/\d.canLay0=true/\d.depth<=60/\Q (.bl (!(ds.any fun e=>PyData.eqv e d))) H
theorem oo(hu:X.A.units+64<cLine):OpR X (compareOp .NotIn) (vo X.K):=by
 intro pins s σ H x y v u Q I rx ry h;obtain⟨l,xs,ds,d,rfl,hq,hD,hx,lD,lx,dep,q⟩:=h;cases ry;obtain⟨its,r,pl,hz⟩:=I.list hq;obtain⟨bs,rb⟩:=I.reads hx rx;have ln:=fj hD;have rl:=r.length;have rdAt:∀(m:Nat)(h:m<its.length),∃dm as,ds[m]?=some dm/\Reads s.heap its[m] dm as:=fun m h=>by
  have h1:xs[m]?=some xs[m]:=DW (by lia);have h2:ds[m]?=some ds[m]:=DW (by lia);obtain⟨w',hw,rw'⟩:=r.get h1;obtain⟨as,ra⟩:=I.reads (hV hD h1 h2) rw';rw[DW h] at hw;cases hw;exact⟨_,as,h2,ra⟩
 classical
 let ev:Value->Bool:=fun w'=>if k:∃d':PyData,d'.canLay0=true/\∃as,Reads s.heap w' d' as then PyData.eqv k.choose d else false
 have evAt:∀(w':Value)(d':PyData)(as:List Addr),d'.canLay0=true->Reads s.heap w' d' as->ev w'=PyData.eqv d' d:=fun w' d' as c rr=>by
  have k:∃d':PyData,d'.canLay0=true/\∃as,Reads s.heap w' d' as:=⟨d',c,as,rr⟩
  show(if k:_ then _ else _)=_;rw[dif_pos k];obtain⟨as',rr'⟩:=k.choose_spec.2;rw[Reads.unique _ _ _ _ _ k.choose_spec.1 rr' rr]
 refine SeqAt.notIn_listAt ev pl.isList (fun w' hw=>?_) ⟨.bl _,H,I,rfl,?_⟩
 ·obtain⟨m,hm,rfl⟩:=FP.mp (show w'∈its by simpa using hw);obtain⟨dm,as,h2,ra⟩:=rdAt m hm;rw[evAt _ _ _ (Je lD h2) ra];refine SeqAt.eqAt_reads dm d _ s its[m] v as bs ra rb (Je lD h2) lx ?_;have:=Gv dm.depth d.depth;show X.A.units+1+_<_;lia
 ·have e:its.toArray.any ev=ds.any fun e=>PyData.eqv e d:=by
   rw[show its.toArray.any ev=its.any ev by simp,HL,Fo,Fo];constructor
   ·rintro⟨w',hw,e⟩;obtain⟨m,hm,rfl⟩:=FP.mp hw;obtain⟨dm,as,h2,ra⟩:=rdAt m hm;rw[evAt _ _ _ (Je lD h2) ra] at e;exact⟨dm,Ea h2,e⟩
   ·rintro⟨dm,hm,e⟩;obtain⟨m,h2⟩:=FH hm;have hl:=(DU.mp h2).1;have hm':m<its.length:=by lia
    obtain⟨dm',as,h3,ra⟩:=rdAt m hm';rw[h2] at h3;cases h3;exact⟨_,Ep hm',by rw[evAt _ _ _ (Je lD h2) ra];exact e⟩
  rw[e];exact q
end
end L2
namespace K3
open PySem PySem.Spec PyProof.Rows L2
section
variable {P:Program}{w:World}{K:PySem.W.Frag}{mg:Str->Option Value}{base:Heap}
def sv:Option (List Nat)->V
 |none=>.non
 |some cs=>.str (txt cs)
def dB (sm:List (Option (List Nat)))(x:Nat):Prop:=∃cs,sm[x]?=some (some cs)
structure Bas(G:List Row)(D:Nat->Nat->Prop)(L:Nat)(sm:List (Option (List Nat)))(up:List (Nat×Nat)):Prop where
 n:sm.length=G.length
 done:∀i p:Nat,∀e:Nat,D i p->ent G i p=some (e:Int)->dB sm e
 w:∀cs,some cs∈sm->(∀c∈cs,isW c)/\cs.length<=L
 nd:up.Nodup
 u:∀q∈up,q.2<2/\dB sm q.1/\∃e:Nat,ent G q.1 q.2=some (e:Int)/\dB sm e
 c:up.length+1=(sm.filter fun o=>o.isSome).length
structure Mc(G:List Row):Prop where
 inr:∀i p:Nat,p<4->∀e,ent G i p=some e->∃n:Nat,e=(n:Int)/\n<G.length
 NT:∀j,0<j->j<G.length->∃i p,i<j/\p<4/\ent G i p=some (j:Int)
 bck:∀i p e:Nat,p<2->ent G i (p+2)=some (e:Int)->ent G e p=some (i:Int)
 all:∀i p,i<G.length->p<2->ent G i p≠none
theorem JA:∀{sm:List (Option (List Nat))}{e:Nat}{cs:List Nat},sm[e]?=some none->((sm.set e (some cs)).filter fun o=>o.isSome).length=(sm.filter fun o=>o.isSome).length+1
 |[],e,cs,h=>by cases h
 |o::r,0,cs,h=>by
  have:o=none:=by simpa using h
  subst this;rfl
 |o::r,e+1,cs,h=>by
  have ih:=JA (sm:=r) (e:=e) (cs:=cs) (by simpa using h);rw[List.set_cons_succ,EK,EK];cases o with
  |none=>exact ih
  |some x=>exact congrArg Nat.succ ih
theorem gc{sm:List (Option (List Nat))}{e x:Nat}{cs:List Nat}(he:e<sm.length):dB (sm.set e (some cs)) x↔x=e\/dB sm x:=by
 unfold dB;by_cases h:x=e
 ·subst h;rw[FL he];exact⟨fun _=>.inl rfl,fun _=>⟨cs,rfl⟩⟩
 ·rw[Fx (HI h)];exact⟨.inr,fun k=>k.resolve_left h⟩
section
variable {G:List Row}{D D':Nat->Nat->Prop}{L L':Nat}{sm:List (Option (List Nat))}{up:List (Nat×Nat)}{s p e:Nat}
theorem Bas.skip(h:Bas G D L sm up)(hL:L<=L')(hD:∀i q,D' i q->D i q\/(i=s/\q=p))(hs:∀e:Nat,ent G s p=some (e:Int)->dB sm e):Bas G D' L' sm up:=
 ⟨h.n,fun i q e d h2=>(hD i q d).elim (fun d=>h.done i q e d h2) fun hq119=>by obtain⟨a,b⟩:=hq119;exact hs e (by rw[<- a,<- b];exact h2),fun cs hc=>⟨(h.w cs hc).1,Ee (h.w cs hc).2 hL⟩,h.nd,h.u,h.c⟩
theorem Bas.step(F:Mc G)(h:Bas G D L sm up)(hL:L<=L')(hD:∀i q,D' i q->D i q\/(i=s/\q=p))(hp:p<4)(he:ent G s p=some (e:Int))(hn:sm[e]?=some none){cs:List Nat}(hs:sm[s]?=some (some cs))(hcs:cs.length+1<=L'){c:Nat}(hc:isW c) :
  Bas G D' L' (sm.set e (some (cs++[c]))) (up++[if p<2 then (s,p) else (e,p-2)]):=by
 have hlt:e<sm.length:=(DU.mp hn).1;have no:¬dB sm e:=fun⟨x,hx⟩=>by rw[hn] at hx;cases hx
 have mono:∀{x},dB sm x->dB (sm.set e (some (cs++[c]))) x:=fun hx=>(gc hlt).mpr (.inr hx);have self:dB (sm.set e (some (cs++[c]))) e:=(gc hlt).mpr (.inl rfl);refine⟨by rw[Ge];exact h.n,fun i q x d h2=>?_,fun x hx=>?_,?_,fun q hq=>?_,?_⟩
 ·rcases hD i q d with d|⟨rfl,rfl⟩
  ·exact mono (h.done i q x d h2)
  ·rw[he] at h2;injection h2 with h2;rw[<- Int.ofNat.inj h2];exact self
 ·rcases Hl hx with hx|hx
  ·exact⟨(h.w x hx).1,Ee (h.w x hx).2 hL⟩
  ·injection hx with hx;subst hx;have hw:=(h.w cs (Ea hs)).1;exact⟨fun y hy=>(DX.mp hy).elim (hw y) fun z=>by rw[Ei.mp z];exact hc,by rw[DR];exact hcs⟩
 ·rw[Fp];refine⟨h.nd,by simp,fun a ha b hb ab=>?_⟩;rw[Ei.mp hb] at ab;subst ab;obtain⟨_,u2,x,u3,u4⟩:=h.u _ ha;by_cases hp2:p<2
  ·rw[Hq hp2] at u3;rw[show ent G (s,p).1 (s,p).2=some (e:Int) from he] at u3;injection u3 with u3;rw[<- Int.ofNat.inj u3] at u4;exact no u4
  ·rw[Ho hp2] at u2;exact no u2
 ·rcases DX.mp hq with hq|hq
  ·obtain⟨u1,u2,x,u3,u4⟩:=h.u q hq;exact⟨u1,mono u2,x,u3,mono u4⟩
  ·rw[Ei.mp hq];by_cases hp2:p<2
   ·rw[Hq hp2];exact⟨hp2,mono ⟨cs,hs⟩,e,he,self⟩
   ·rw[Ho hp2];refine⟨by show p-2<2;lia,self,s,?_,mono ⟨cs,hs⟩⟩;exact F.bck s (p-2) e (by lia) (by rw[show p-2+2=p by lia];exact he)
 ·rw[DR,JA hn,<- h.c];rfl
theorem Bas.cur(F:Mc G)(h:Bas G (fun i p=>i<s/\p<4) s sm up)(h0:dB sm 0)(hs:s<G.length):∃cs,sm[s]?=some (some cs)/\cs.length<=s:=by
 have:dB sm s:=by
  by_cases z:s=0
  ·rw[z];exact h0
  ·obtain⟨i,p,hi,hp,e⟩:=F.NT s (by lia) hs;exact h.done i p s ⟨hi,hp⟩ e
 obtain⟨cs,hc⟩:=this;exact⟨cs,hc,(h.w cs (Ea hc)).2⟩
end
def prs (i j:Nat):List (Nat×Nat):=((List.range i).flatMap fun s=>[(s,0),(s,1)])++(List.range j).map fun a=>(i,a)
theorem eU(i j:Nat):prs i (j+1)=prs i j++[(i,j)]:=by
 unfold prs;rw[Fq,Ef,Ej];rfl
theorem kE(i:Nat):prs i 2=prs (i+1) 0:=by
 unfold prs;rw[show List.range (i+1)=List.range i++[i] from Fq,List.flatMap_append];simp[Fq]
theorem oh(i:Nat):(prs i 0).length=2*i:=by
 induction i with
 |zero=>rfl
 |succ i ih=>rw[<- kE,eU,eU,DR,DR,ih];rfl
theorem Lz{i:Nat}{q:Nat×Nat}:q∈prs i 0↔q.1<i/\q.2<2:=by
 obtain⟨s,a⟩:=q;unfold prs;rw[List.range_zero,FB,Et,Gq];constructor
 ·rintro⟨x,hx,h⟩;have hx:=Es.mp hx;rcases Eb.mp h with h|h
  ·injection h with h1 h2;subst h1 h2;exact⟨hx,by show 0<2;decide⟩
  ·rw[Ei] at h;injection h with h1 h2;subst h1 h2;exact⟨hx,by show 1<2;decide⟩
 ·rintro⟨h1,h2⟩
  replace h1:s<i:=h1
  replace h2:a<2:=h2
  refine⟨s,Es.mpr h1,?_⟩;have:a=0\/a=1:=by lia
  rcases this with rfl|rfl<;>simp
theorem wH(i:Nat):(prs i 0).Nodup:=by
 induction i with
 |zero=>exact Gi
 |succ i ih=>
  rw[<- kE,eU,eU,Ej,Fp];refine⟨ih,by simp,fun a ha b hb e=>?_⟩;have:=(Lz.mp ha).1;rw[e] at this;simp at hb;rcases hb with rfl|rfl
  ·exact Er _ this
  ·exact Er _ this
def tD (up l:List (Nat×Nat)):Nat:=(l.filter fun q=>!decide (q∈up)).length
theorem nC(up l:List (Nat×Nat))(q:Nat×Nat):tD up (l++[q])=tD up l+if decide (q∈up)=true then 0 else 1:=by
 unfold tD;rw[List.filter_append,DR]
 congr 1
 by_cases h:q∈up
 ·rw[Ht h];simp[h]
 ·rw[Hu h];simp[h]
theorem iu{α:Type}(p:α->Bool):∀l:List α,(l.filter p).length+(l.filter fun x=>!p x).length=l.length
 |[]=>rfl
 |a::l=>by
  have ih:=iu p l;rw[EK,EK,EA];cases p a with
  |true=>
   show(l.filter p).length+1+(l.filter fun x=>!p x).length=_
   lia
  |false=>
   show(l.filter p).length+((l.filter fun x=>!p x).length+1)=_
   lia
theorem rF{up:List (Nat×Nat)}{n:Nat}(nd:up.Nodup)(h:∀q∈up,q.1<n/\q.2<2):tD up (prs n 0)+up.length=2*n:=by
 have h1:=iu (fun q=>decide (q∈up)) (prs n 0);have h2:((prs n 0).filter fun q=>decide (q∈up)).length=up.length:=by
  refine Nat.le_antisymm (List.Nodup.length_le_of_subset ((wH n).filter _) fun q hq=>?_) (List.Nodup.length_le_of_subset nd fun q hq=>?_)
  ·exact Hy (FK.mp hq).2
  ·exact FK.mpr ⟨Lz.mpr (h q hq),Ht hq⟩
 rw[oh,h2] at h1;unfold tD
 lia
theorem all_some:∀{sm:List (Option (List Nat))},(∀j,j<sm.length->dB sm j)->(sm.filter fun o=>o.isSome).length=sm.length
 |[],_=>rfl
 |o::r,h=>by
  obtain⟨cs,hc⟩:=h 0 (GE _);have:o=some cs:=by simpa using hc
  subst this;have ih:=all_some (sm:=r) fun j hj=>by
   obtain⟨x,hx⟩:=h (j+1) (GV hj);exact⟨x,by simpa using hx⟩
  exact congrArg Nat.succ ih
abbrev rf(H:Hp)(v:V)(q:Nat×Nat):Prop:=∃a,v=.ref a/\H a=some (.tup [.int (q.1:Nat),.int (q.2:Nat)])
theorem fU{H H':Hp}(S:Ia H H'){us:List V}{up:List (Nat×Nat)}(h:Paired (rf H) us up):Paired (rf H') us up:=Paired.IL h fun v r hq120=>by obtain⟨a,e,q⟩:=hq120;exact⟨a,e,S _ _ q⟩
theorem kq{H:Hp}{o:Addr}{y x:HO}(ho:H o=some y)(hy:∀xs,y≠.tup xs){us:List V}{up:List (Nat×Nat)}(h:Paired (rf H) us up):Paired (rf (upd H o x)) us up:=
 Paired.IL h fun v r hq121=>by obtain⟨a,e,q⟩:=hq121;exact⟨a,e,by rw[au (fun z=>by rw[z,ho] at q;exact hy _ (HC q))];exact q⟩
def prd (q:Nat×Nat):PyData:=.tuple [.int (q.1:Nat),.int (q.2:Nat)]
theorem pG{H:Hp}:∀{us:List V}{up:List (Nat×Nat)},Paired (rf H) us up->DatAll K H us (up.map prd)
 |_,_,.nil=>.nil
 |_,_,.cons ⟨a,e,h⟩ r=>by subst e;exact .cons (.tup (SqT.of h) (.cons (.int _) (.cons (.int _) .nil))) (pG r)
theorem LL:∀up:List (Nat×Nat),PyData.canLayAll0 (up.map prd)=true
 |[]=>rfl
 |q::r=>FI.mpr ⟨rfl,LL r⟩
theorem tL(q r:Nat×Nat):PyData.eqv (prd q) (prd r)=decide (q=r):=by
 obtain⟨a,b⟩:=q;obtain⟨a',b'⟩:=r;show(decide ((a:Int)=a')&&(decide ((b:Int)=b')&&true))=_;rw[HL];simp only[Ey,decide_eq_true_eq,Prod.mk.injEq,and_true];lia
theorem vd(up:List (Nat×Nat))(q:Nat×Nat):((up.map prd).any fun e=>PyData.eqv e (prd q))=decide (q∈up):=by
 rw[List.any_map,HL,Fo,decide_eq_true_eq];constructor
 ·rintro⟨r,hr,e⟩;have e':PyData.eqv (prd r) (prd q)=true:=e;rw[tL] at e';rw[<- Hy e'];exact hr
 ·intro h;exact⟨q,h,by show PyData.eqv (prd q) (prd q)=true;rw[tL];exact Ht rfl⟩
theorem lE{α:Type}(x:α):∀k,(List.replicate k [x]).flatten=List.replicate k x
 |0=>rfl
 |k+1=>by rw[EJ,ER,lE x k];rfl
theorem DO:("":Str)=txt []:=by decide +kernel
theorem DK:("uv":Str)=txt [117,118]:=by decide +kernel
theorem bZ(cs:List Nat):(txt cs).length=cs.length:=by show cs.toArray.size=cs.length;simp
theorem kL{G:List Row}(h:∀r∈G,r.length=4){i:Nat}:ent G i 4=none:=by
 unfold ent;cases e:G[i]? with
 |none=>rfl
 |some r=>
  show(r[4]?).join=none;rw[Gn (by rw[h r (Ea e)];exact DP _)];rfl
theorem vA(q:Nat×Nat):(prd q).depth<=60:=by show(1:Nat)<=60;decide
def NZ:Sp:=fun vs H Q _=>∃g us G,vs=[.ref g]/\GrL H g us G/\Mc G/\1<=G.length/\G.length<=7 /\
 ∀W ws H',Ia H H'->H W=none->H' W=some (.lst (aR ws))->(∀cs∈ws,(∀c∈cs,isW c)/\Red cs/\cs.length<=100)->ws.length=G.length+1->Q (.ref W) H'
theorem xD{dh db d:DD}(Au:(dg "_law_short" 45 ["word"] dh 2 Oi))(AA:(dg "_law_back_word" 46 ["word"] db 2 Pg))(D:Def K mg "_law_basis" (top 47) ["graph"] d)(Aj:mg "len"=none)(Ai:mg "range"=none):(fk 3 d ["graph"] NZ):=by
 exists["graph","stems","used","state","at","there","found","text"]
 obtain⟨g,us,G,rfl,hG,hF,n1,n7,q⟩:=h;refine⟨_,(ae (aw 1 (ay JY (aY (aL (bo _) bI)) (ay OT (aY (aL (bR _) bI)) (ay IC (aP HW Aj (0) aC) (ah _))))) (ae (aw 2 (aY (Ii _))) (ae (bE (bA Ai (aL (aP HW Aj (0) aC) dv)) (ar 3) (aq (bE (bA Ai (aL (ah _) bI)) (ar 4) (ae (aw 5 (aN Il (aN HY (0) (3)) (4))) (aq (br (@PW.pt _ _ _ (fF (aB Jj (5) (bR _) (aD _)) (cZ (aB Kd (aN HY (1) (5)) (bR _) (aD _))))) (ae (cx (ay Ig (aN HY (1) (3)) (dZ (bo _) (4))) (kX (1) (5) set_list)) (aq (aV (cE (2) (aN HY (aY (ag (bh (ag (3) (aL (4) aC) aC)) (aL (bh (ag (5) (aL (ay IC (4) (ah _)) (by rfl)) aC)) (by rfl)) (by rfl))) (ay JF (4) (ah _))) (by rfl))))) (HZ _))))))) (ae (aw 6 (aY (Ii _))) (ae (bE (bA Ai (aL (aP HW Aj (0) aC) dv)) (ar 3) (aq (bE (bA Ai (aL (ah _) bI)) (ar 4) (ae (aw 5 (aN Il (aN HY (0) (3)) (4))) (aq (br (@PW.pt _ _ _ (fF (aB Jj (5) (bR _) (aD _)) (cZ (aB (oo hr.units) (bh (ag (3) (aL (4) aC) aC)) (2) rfl)))) (ae (aw 7 (ay Ig (aN HY (1) (3)) (dZ (bo _) (4)))) (aq (aV (cE (6) (bu Au.1 Au.2 (ay Ig (7) (bu AA.1 AA.2 (aN HY (1) (5)) (by rfl))) (by rfl)) dv)))) (HZ _))))))) (aq (aH (6)))))))),?_⟩
 walk_at "d"
 have ll:=hG.len;have gr0:∀{H':Hp},Ia H H'->GrL H' g us G:=fun S=>hG.mono S;refine⟨(by show 1<=sizeLine;decide),fun l1 nl1=>?_⟩;have A1:=ao nl1 (.lst [V.str ""]);refine⟨(by show 1<=sizeLine;decide),fun l2 nl2=>?_⟩;have A2:=ao nl2 (.lst [V.non]);refine⟨_,rfl,g,us,rfl,.inl (SqL.of ((gr0 (A1.trans A2)).lst)),_,_,rfl,rfl,?_⟩;refine⟨l2,_,[V.non],rfl,rfl,af,by lia,by lia,?_,fun l3 nl3=>?_⟩
 ·show 1*_<=_;exact aJ (by lia)
 have ek:(((us.length:Nat):Int)-1).toNat=G.length-1:=by lia
 rw[ek,lE];have A3:=ao nl3 (.lst (List.replicate (G.length-1) V.non));refine⟨l1,l3,_,_,rfl,rfl,(A2.trans A3) _ _ af,af,aJ (by rw[EU];show 1+_<=_;lia),fun st nst=>?_⟩;have em0:[V.str ""]++List.replicate (G.length-1) V.non=((some []::List.replicate (G.length-1) none):List (Option (List Nat))).map sv:=by
  rw[Ex,List.map_replicate];show _=V.str (txt [])::_;rw[<- DO];rfl
 rw[em0];have F1:=((Hs.start H).mono (A1.trans (A2.trans A3))).new nst (.lst (((some []::List.replicate (G.length-1) none):List (Option (List Nat))).map sv));generalize upd (upd (upd (upd H l1 (.lst [V.str ""])) l2 (.lst [V.non])) l3 (.lst (List.replicate (G.length-1) V.non))) st (.lst (((some []::List.replicate (G.length-1) none):List (Option (List Nat))).map sv))=H1 at F1 ⊢;refine⟨Ec _,fun u0 nu0=>?_⟩;have F2:=F1.new nu0 (.lst []);have B0:Bas G (fun i p=>i<0/\p<4) 0 (some []::List.replicate (G.length-1) none) []:=by
  refine⟨by rw[EA,EU];lia,fun i p e d=>absurd d.1 (FU _),fun cs h=>?_,Gi,fun q h=>absurd h (by simp),?_⟩
  ·rcases Eb.mp h with h|h
   ·injection h with h;subst h;exact⟨fun c h=>absurd h (by simp),DP _⟩
   ·have:=(Fv.mp h).2;cases this
  ·show 1=((some ([]:List Nat))::(List.replicate (G.length-1) (none:Option (List Nat))).filter fun o=>o.isSome).length;rw[List.filter_replicate];rfl
 refine⟨_,rfl,g,us,rfl,.inl (SqL.of ((gr0 F2.all).lst)),_,rfl,by lia,by lia,?_⟩;rw[EC,ll];refine bH (lo:=0) (n:=G.length) (fun i σ' H'=>∃e3 e4 e5 sm up uv,σ'=[some (.ref g),some (.ref st),some (.ref u0),e3,e4,e5,none,none]/\Hs H [(st,.lst (sm.map sv)),(u0,.lst uv)] H'/\Paired (rf H') uv up/\Bas G (fun i' p=>i'<i/\p<4) i sm up/\dB sm 0) ⟨_,_,_,some []::List.replicate (G.length-1) none,[],[],rfl,F2,.nil,B0,⟨[],rfl⟩⟩ (fun i σ' H' hi z=>?_) (fun σ' H' z=>?_)
 ·obtain⟨e3,e4,e5,sm,up,uv,rfl,F,hU,B,h0⟩:=z;obtain⟨cs0,hs0,ls0⟩:=B.cur hF h0 hi;obtain⟨a,r,er,ea,ha,r4⟩:=hG.row hi;refine⟨4,rfl,by decide,by decide,?_⟩;refine bH (lo:=0) (n:=4) (fun j σ' H'=>∃e4 e5 sm up uv cs0,σ'=[some (.ref g),some (.ref st),some (.ref u0),some (.int (0+(i:Int))),e4,e5,none,none]/\Hs H [(st,.lst (sm.map sv)),(u0,.lst uv)] H'/\Paired (rf H') uv up/\Bas G (fun i' p=>(i'<i/\p<4)\/(i'=i/\p<j)) (i+1) sm up/\dB sm 0/\sm[i]?=some (some cs0)/\cs0.length<=i) ⟨_,_,sm,up,uv,cs0,rfl,F,hU,B.skip (s:=0) (p:=4) (EO _) (fun i' q d=>d.elim .inl fun d=>absurd d.2 (FU _)) (fun e he=>by rw[kL hG.four] at he;cases he),h0,hs0,ls0⟩ (fun j σ' H' hj z=>?_) (fun σ' H' z=>?_)
  ·obtain⟨e4,e5,sm,up,uv,cs0,rfl,F,hU,B,h0,hs0,ls0⟩:=z;have ei:atI us (0+(i:Int))=some (.ref a):=by rw[EF];exact bG ea
   have ej:atI (r.map ov) (0+(j:Int))=some (ov (ent G i j)):=by rw[EF,gE er];exact bG (qf r4 hj)
   have gg:=gr0 F.all;have gst:=F.get 0;have gu:=F.get 1;have dn:∀i' q,(i'<i/\q<4)\/(i'=i/\q<j+1)->((i'<i/\q<4)\/(i'=i/\q<j))\/(i'=i/\q=j):=fun i' q d=>by lia
   refine⟨_,rfl,_,rfl,g,_,_,_,rfl,rfl,SqL.of gg.lst,ei,_,rfl,a,_,_,_,rfl,rfl,SqT.of (F.all _ _ ha),ej,?_⟩;cases he:ent G i j with
   |none=>
    refine⟨_,rfl,rfl,false,rfl,?_⟩;exact⟨_,_,sm,up,uv,cs0,rfl,F,hU,B.skip (DP _) dn (fun e h=>by rw[he] at h;cases h),h0,hs0,ls0⟩
   |some e=>
    obtain⟨n,rfl,hn⟩:=hF.inr i j hj e he;have hns:n<sm.length:=by rw[B.n];exact hn
    have hsn:=DW hns;have sat:∀{x:Nat}{o:Option (List Nat)},sm[x]?=some o->atI (sm.map sv) ((x:Nat):Int)=some (sv o):=fun {x o} h=>bG (by rw[DY,h];rfl);refine⟨_,rfl,rfl,true,rfl,?_⟩;refine⟨_,rfl,_,rfl,st,_,_,_,rfl,rfl,SqL.of gst,sat hsn,rfl,_,rfl,?_⟩;cases ho:sm[n] with
    |some x=>
     rw[ho] at hsn;exact⟨_,_,sm,up,uv,cs0,rfl,F,hU,B.skip (DP _) dn (fun e h=>by rw[he] at h;injection h with h;rw[<- Int.ofNat.inj h];exact⟨x,hsn⟩),h0,hs0,ls0⟩
    |none=>
     rw[ho] at hsn;have satI:atI (sm.map sv) (0+((i:Nat):Int))=some (.str (txt cs0)):=by rw[EF];exact sat hs0
     have cw:=Nb ⟨j,hj⟩;have ec:(("uvUV":Str)).cps[(0+(j:Int)).toNat]?=some (cM ⟨j,hj⟩):=by
      rw[EF,EC,Pr];show([117,118,85,86]:List Nat).toArray[j]?=_;rw[<- oC hj];simp[hj]
     refine⟨_,rfl,_,rfl,st,_,_,_,rfl,rfl,SqL.of gst,satI,_,rfl,_,_,_,rfl,rfl,by lia,by lia,(by rw[Pr];show 0+(j:Int)<4;lia),ec,_,_,rfl,rfl,aJ (by show(txt cs0).length+1<=_;rw[bZ];lia),?_⟩;rw[show(txt cs0++⟨#[cM ⟨j,hj⟩]⟩:Str)=txt (cs0++[cM ⟨j,hj⟩]) from bU cs0 [_]];have eix:ixN (sm.map sv).length ((n:Nat):Int)=some n:=by
      unfold ixN;rw[Hq (HN _),DQ,Hq (Gp.mpr hns),EC]
     refine⟨_,rfl,_,rfl,st,_,_,n,rfl,rfl,gst,eix,?_⟩;have es:(sm.map sv).set n (.str (txt (cs0++[cM ⟨j,hj⟩])))=(sm.set n (some (cs0++[cM ⟨j,hj⟩]))).map sv:=by rw[List.map_set];rfl
     rw[es];have F3:=F.put 0 (.lst ((sm.set n (some (cs0++[cM ⟨j,hj⟩]))).map sv));have hU3:=kq (x:=.lst ((sm.set n (some (cs0++[cM ⟨j,hj⟩]))).map sv)) gst (fun _ z=>nomatch z) hU;generalize upd H' st (.lst ((sm.set n (some (cs0++[cM ⟨j,hj⟩]))).map sv))=H3 at F3 hU3 ⊢;have gu3:=F3.get 1;refine⟨_,rfl,.inl ⟨rfl,_,SqL.of gu3⟩,_,rfl,_,rfl,(by show 2<=sizeLine;decide),fun t1 nt1=>?_⟩;have T1:=ao nt1 (.tup [.int (0+(i:Int)),.int (0+(j:Int))]);refine⟨_,rfl,_,rfl,_,_,rfl,rfl,(by show 2<=sizeLine;decide),fun t2 nt2=>?_⟩;have T2:=ao nt2 (.tup [ov (some ((n:Nat):Int)),(fun i j=>V.int (i-j)) (0+(j:Int)) 2]);refine⟨(by show 2<=sizeLine;decide),fun t3 nt3=>?_⟩;have T3:=ao nt3 (.lst [.ref t1,.ref t2]);obtain⟨tx,etx,htx⟩:∃tx,atI [V.ref t1,.ref t2] ((0+(j:Int))/2)=some (.ref tx)/\(upd (upd (upd H3 t1 (.tup [.int (0+(i:Int)),.int (0+(j:Int))])) t2 (.tup [ov (some ((n:Nat):Int)),(fun i j=>V.int (i-j)) (0+(j:Int)) 2])) t3 (.lst [.ref t1,.ref t2])) tx=some (.tup [.int (((if j<2 then (i,j) else (n,j-2):Nat×Nat).1:Nat):Int),.int (((if j<2 then (i,j) else (n,j-2):Nat×Nat).2:Nat):Int)]):=by
      by_cases h2:j<2
      ·refine⟨t1,?_,?_⟩
       ·rw[show(0+(j:Int))/2=0 by lia];rfl
       ·rw[Hq h2,(T2.trans T3) _ _ af,EF,EF]
      ·refine⟨t2,?_,?_⟩
       ·rw[show(0+(j:Int))/2=1 by lia];rfl
       ·rw[Ho h2,T3 _ _ af];show some (HO.tup [V.int ((n:Nat):Int),V.int (0+(j:Int)-2)])=_;rw[show(0+(j:Int)-2)=((j-2:Nat):Int) by lia]
     refine⟨_,rfl,_,_,rfl,rfl,⟨by decide,by decide⟩,t3,_,_,_,rfl,rfl,SqL.of af,etx,?_⟩;have F4:=F3.mono (T1.trans (T2.trans T3));have hU4:=fU (T1.trans (T2.trans T3)) hU3;generalize upd (upd (upd H3 t1 (.tup [.int (0+(i:Int)),.int (0+(j:Int))])) t2 (.tup [ov (some ((n:Nat):Int)),(fun i j=>V.int (i-j)) (0+(j:Int)) 2])) t3 (.lst [.ref t1,.ref t2])=H4 at F4 hU4 htx ⊢;have gu4:=F4.get 1;have hul:=aT hU4;have B':=B.step hF (DP _) dn hj he hsn hs0 (by lia) cw;have upl:up.length<=100:=by
      have:=B'.c;have h2:=FO (fun o:Option (List Nat)=>o.isSome) (sm.set n (some (cs0++[cM ⟨j,hj⟩])));rw[Ge,B.n] at h2;rw[DR] at this
      lia
     refine⟨u0,_,_,rfl,rfl,gu4,DT (show uv.length<1000000 by lia) (aJ (DP _)),?_⟩;have F5:=F4.put 1 (.lst (uv++[.ref tx]));have tu:tx≠u0:=fun z=>by rw[z,gu4] at htx;cases htx
     have ni:n≠i:=fun z=>by rw[z,hs0] at hsn;cases hsn
     exact⟨_,_,_,_,_,cs0,rfl,F5,bt (kq gu4 (fun _ z=>nomatch z) hU4) ⟨tx,rfl,by rw[au tu];exact htx⟩,B',(gc hns).mpr (.inr h0),by rw[Fx ni];exact hs0,ls0⟩
  ·obtain⟨e4,e5,sm,up,uv,cs0,rfl,F,hU,B,h0,hs0,ls0⟩:=z;exact⟨_,_,_,sm,up,uv,rfl,F,hU,B.skip (s:=0) (p:=4) (DP _) (fun i' q d=>.inl (by lia)) (fun e he=>by rw[kL hG.four] at he;cases he),h0⟩
 ·obtain⟨e3,e4,e5,sm,up,uv,rfl,F,hU,B,h0⟩:=z;have hall:∀j,j<G.length->dB sm j:=fun j hj=>by
   by_cases z:j=0
   ·rw[z];exact h0
   ·obtain⟨i,p,hi,hp,e⟩:=hF.NT j (by lia) hj;exact B.done i p j ⟨by lia,hp⟩ e
  have hcnt:up.length+1=G.length:=by rw[B.c,all_some (fun j hj=>hall j (by rw[<- B.n];exact hj)),B.n]
  refine⟨Ec _,fun fo nfo=>?_⟩;have F1:=F.new nfo (.lst (aR []));have hU1:=fU (ao nfo (.lst [])) hU;refine⟨_,rfl,g,us,rfl,.inl (SqL.of ((gr0 F1.all).lst)),_,rfl,by lia,by lia,?_⟩;rw[EC,ll];refine bH (lo:=0) (n:=G.length) (fun i σ' H'=>∃e3 e4 e5 e7 ws,σ'=[some (.ref g),some (.ref st),some (.ref u0),e3,e4,e5,some (.ref fo),e7]/\Hs H [(st,.lst (sm.map sv)),(u0,.lst uv),(fo,.lst (aR ws))] H'/\Paired (rf H') uv up/\ws.length=tD up (prs i 0)/\∀cs∈ws,(∀c∈cs,isW c)/\Red cs/\cs.length<=100) ⟨_,_,_,_,[],rfl,F1,hU1,rfl,fun cs h=>absurd h (by simp)⟩ (fun i σ' H' hi z=>?_) (fun σ' H' z=>?_)
  ·obtain⟨e3,e4,e5,e7,ws,rfl,F2,hU2,hw1,hw2⟩:=z;obtain⟨a,r,er,ea,ha,r4⟩:=hG.row hi;obtain⟨cs0,hs0⟩:=hall i hi;have ws0:=B.w cs0 (Ea hs0);refine⟨2,rfl,by decide,by decide,?_⟩;refine bH (lo:=0) (n:=2) (fun j σ' H'=>∃e4 e5 e7 ws,σ'=[some (.ref g),some (.ref st),some (.ref u0),some (.int (0+(i:Int))),e4,e5,some (.ref fo),e7]/\Hs H [(st,.lst (sm.map sv)),(u0,.lst uv),(fo,.lst (aR ws))] H'/\Paired (rf H') uv up/\ws.length=tD up (prs i j)/\∀cs∈ws,(∀c∈cs,isW c)/\Red cs/\cs.length<=100) ⟨_,_,_,ws,rfl,F2,hU2,hw1,hw2⟩ (fun j σ' H' hj z=>?_) (fun σ' H' z=>?_)
   ·obtain⟨e4,e5,e7,ws,rfl,F3,hU3,hw3,hw4⟩:=z;have ei:atI us (0+(i:Int))=some (.ref a):=by rw[EF];exact bG ea
    have ej:atI (r.map ov) (0+(j:Int))=some (ov (ent G i j)):=by rw[EF,gE er];exact bG (qf r4 (by lia))
    have gg:=gr0 F3.all;have gst:=F3.get 0;obtain⟨e,he⟩:=EM.mp (hF.all i j hi hj);obtain⟨n,rfl,hn⟩:=hF.inr i j (by lia) e he;rw[he] at ej;obtain⟨csn,hsn⟩:=hall n hn;have wsn:=B.w csn (Ea hsn);have wcl:ws.length<=100:=by
     have h1:=FO (fun q=>!decide (q∈up)) (prs i j);have h2:(prs i j).length<=100:=by
      unfold prs;rw[DR,DQ,EG];have:=oh i;unfold prs at this;rw[List.range_zero,FB,Et] at this;rw[this]
      lia
     unfold tD at hw3
     lia
    refine⟨_,rfl,_,rfl,g,_,_,_,rfl,rfl,SqL.of gg.lst,ei,_,rfl,a,_,_,_,rfl,rfl,SqT.of (F3.all _ _ ha),ej,?_⟩;refine⟨_,rfl,rfl,true,rfl,?_⟩;refine⟨_,rfl,_,rfl,(by show 2<=sizeLine;decide),fun t1 nt1=>?_⟩;have T1:=ao nt1 (.tup [.int (0+(i:Int)),.int (0+(j:Int))]);have F4:=F3.mono T1;have hU4:=fU T1 hU3;have dq:IY K (upd H' t1 (.tup [.int (0+(i:Int)),.int (0+(j:Int))])) (.ref t1) (prd (i,j)):=by
     rw[show prd (i,j)=.tuple [.int (0+(i:Int)),.int (0+(j:Int))] by unfold prd;rw[EF,EF]];exact .tup (SqT.of af) (.cons (.int _) (.cons (.int _) .nil))
    refine⟨_,rfl,u0,uv,up.map prd,prd (i,j),rfl,SqL.of (F4.get 1),pG hU4,dq,LL up,rfl,(vA _),!decide ((i,j)∈up),(by rw[vd]),?_⟩;generalize upd H' t1 (.tup [.int (0+(i:Int)),.int (0+(j:Int))])=H4 at F4 hU4 ⊢;have cs1:=nC up (prs i j) (i,j);rw[<- eU] at cs1;by_cases hm:(i,j)∈up
    ·rw[Ht hm] at cs1 ⊢;exact⟨_,_,_,ws,rfl,F4,hU4,by rw[cs1,Hq rfl];exact hw3,hw4⟩
    ·rw[Hu hm] at cs1 ⊢;have gst4:=F4.get 0;have sat:∀{x:Nat}{o:Option (List Nat)},sm[x]?=some o->atI (sm.map sv) ((x:Nat):Int)=some (sv o):=fun {x o} h=>bG (by rw[DY,h];rfl);have satI:atI (sm.map sv) (0+((i:Nat):Int))=some (.str (txt cs0)):=by rw[EF];exact sat hs0
     have j4:j<4:=by lia
     have cw:=Nb ⟨j,j4⟩;have ec:(("uv":Str)).cps[(0+(j:Int)).toNat]?=some (cM ⟨j,j4⟩):=by
      rw[EF,EC];have:j=0\/j=1:=by lia
      rcases this with rfl|rfl
      ·exact(by decide +kernel:("uv":Str).cps[0]?=some 117)
      ·exact(by decide +kernel:("uv":Str).cps[1]?=some 118)
     refine⟨_,rfl,_,rfl,st,_,_,_,rfl,rfl,SqL.of gst4,satI,_,rfl,_,_,_,rfl,rfl,by lia,by lia,(by rw[DK];show 0+(j:Int)<2;lia),ec,_,_,rfl,rfl,aJ (by show(txt cs0).length+1<=_;rw[bZ];lia),?_⟩;rw[show(txt cs0++⟨#[cM ⟨j,j4⟩]⟩:Str)=txt (cs0++[cM ⟨j,j4⟩]) from bU cs0 [_]];have gfo:=F4.get 2;have tW:∀c∈cs0++[cM ⟨j,j4⟩],isW c:=fun c hc=>(DX.mp hc).elim (ws0.1 c) fun z=>by rw[Ei.mp z];exact cw
     refine⟨_,rfl,.inl ⟨rfl,_,SqL.of gfo⟩,_,rfl,_,rfl,_,rfl,st,_,_,_,rfl,rfl,SqL.of gst4,sat hsn,csn,rfl,wsn.1,by lia,fun H5 S5=>?_⟩;refine⟨_,_,rfl,rfl,aJ (by show(txt (cs0++[cM ⟨j,j4⟩])).length+(txt (bw csn)).length<=_;rw[bZ,bZ,iA,DR];show _+1+_<=_;lia),?_⟩;rw[bU];have uW:∀c∈cs0++[cM ⟨j,j4⟩]++bw csn,isW c:=fun c hc=>(DX.mp hc).elim (tW c) (zF wsn.1 c);have ul:(cs0++[cM ⟨j,j4⟩]++bw csn).length<=50:=by rw[DR,DR,iA];show _+1+_<=_;lia
     refine⟨_,rfl,uW,by lia,fun H6 S6=>?_⟩;have F6:=F4.mono (S5.trans S6);have hU6:=fU (S5.trans S6) hU4;have gfo6:=F6.get 2;refine⟨fo,_,_,rfl,rfl,gfo6,DT (show(aR ws).length<1000000 by rw[DQ];lia) (aJ (DP _)),?_⟩;rw[ix];have F7:=F6.put 2 (.lst (aR (ws++[red (cs0++[cM ⟨j,j4⟩]++bw csn)])));refine⟨_,_,_,_,rfl,F7,kq gfo6 (fun _ z=>nomatch z) hU6,by rw[cs1,Ho (by decide),DR,hw3];rfl,fun cs h=>?_⟩;rcases DX.mp h with h|h
     ·exact hw4 cs h
     ·rw[Ei.mp h];exact⟨oN uW,iM uW,by have:=fB (cs0++[cM ⟨j,j4⟩]++bw csn);lia⟩
   ·obtain⟨e4,e5,e7,ws,rfl,F3,hU3,hw3,hw4⟩:=z;exact⟨_,_,_,_,ws,rfl,F3,hU3,by rw[<- kE];exact hw3,hw4⟩
  ·obtain⟨e3,e4,e5,e7,ws,rfl,F2,hU2,hw1,hw2⟩:=z;refine⟨_,rfl,?_⟩;refine q fo ws H' F2.all (F2.fr fo _ (Eg _ (Eg _ DS))) (F2.get 2) hw2 ?_;have:=rF (n:=G.length) B.nd fun x hx=>by
    obtain⟨u1,⟨cs,hcs⟩,_⟩:=B.u x hx;exact⟨by have:=(DU.mp hcs).1;rw[B.n] at this;exact this,u1⟩
   rw[hw1]
   lia
theorem qD{lo:Int}{n:Nat}{g:TG}{tb:TS}{D:Ends}{σ:L2.St}{H:Hp}(Pv:Nat->L2.St->Hp->Prop)(h0:Pv 0 σ H)
  (hs:∀i σ H,i<n->Pv i σ H->g (.int (lo-i)) σ H fun σ2 H2=>tb {D with nx:=Pv (i+1),ct:=Pv (i+1),bk:=D.nx} σ2 H2)(hd:∀σ H,Pv n σ H->D.nx σ H) :
  ∃W:Nat->Nat->L2.St->Hp->Prop,(∃m,W 0 m σ H)/\∀i m σ H,W i m σ H ->
   ((Itd lo n).stop i H/\D.nx σ H)\/((Itd lo n).go i H/\∃N:L2.St->Hp->Prop,(∀σ' H',N σ' H'->∃m',m'<m/\W (i+1) m' σ' H')/\∀x H',(Itd lo n).yld i H x H'->g x σ H' fun σ2 H2=>tb {D with nx:=N,ct:=N,bk:=D.nx} σ2 H2):=by
 refine⟨fun i m σ H=>m=n-i/\i<=n/\Pv i σ H,⟨n,by simp,Ec _,h0⟩,?_⟩;rintro i m σ H ⟨rfl,hi,p⟩;by_cases hlt:i<n
 ·refine .inr ⟨hlt,Pv (i+1),fun σ' H' p'=>⟨n-(i+1),by lia,rfl,hlt,p'⟩,fun x H' y=>?_⟩;obtain⟨e,y⟩:=y;subst e y;exact hs i σ _ hlt p
 ·have e:i=n:=by lia
  subst e;exact .inl ⟨DP _,hd σ H p⟩
def NoL (kvs:List (List Key×V))(c:Nat):Prop:=∀x,bg kvs (ky x c)=none/\bg kvs (ky x (bk c))=none
structure LOk(many:Nat)(kvs:List (List Key×V))(c:Nat):Prop where
 to:∀k,k<many->∃o:Nat,o<many/\bg kvs (ky k c)=some (.int ((o:Nat):Int))
 bck:∀x v,bg kvs (ky x (bk c))=some v->∃k:Nat,k<many/\v=.int ((k:Nat):Int)/\bg kvs (ky k c)=some (.int ((x:Nat):Int))
structure PW(many:Nat)(os:List Nat)(c k:Nat)(kvs0 kvs:List (List Key×V)):Prop where
 a:∀k' o,k'<k->os[k']?=some o->bg kvs (ky k' c)=some (.int ((o:Nat):Int))
 b:∀x v,bg kvs (ky x (bk c))=some v->∃k':Nat,k'<k/\v=.int ((k':Nat):Int)/\os[k']?=some x
 o:∀s c',c'≠c->c'≠bk c->bg kvs (ky s c')=bg kvs0 (ky s c')
 v:∀kv∈kvs,∃n:Nat,kv.2=.int (n:Int)/\n<many
theorem wz{c:Nat}(h:isW c):bk c≠c:=by rcases h with rfl|rfl|rfl|rfl<;>decide
theorem lu{many:Nat}{kvs:List (List Key×V)}{k:List Key}{n:Nat}(h:∀kv∈kvs,∃n:Nat,kv.2=.int (n:Int)/\n<many)(hn:n<many):∀kv∈cB kvs k (.int (n:Int)),∃n:Nat,kv.2=.int (n:Int)/\n<many:=fun kv hk=>by
 unfold cB at hk;split at hk
 ·obtain⟨x,hx,rfl⟩:=Em.mp hk;split
  ·exact⟨n,rfl,hn⟩
  ·exact h x hx
 ·rcases DX.mp hk with hk|hk
  ·exact h kv hk
  ·rw[Ei.mp hk];exact⟨n,rfl,hn⟩
theorem PW.next{many:Nat}{os:List Nat}{c k o:Nat}{kvs0 kvs:List (List Key×V)}(hc:isW c)(h:PW many os c k kvs0 kvs)(ho:os[k]?=some o)(hk:k<many)(hom:o<many):PW many os c (k+1) kvs0 (cB (cB kvs (ky k c) (.int (o:Int))) (ky o (bk c)) (.int (k:Int))):=by
 have nb:=wz hc;refine⟨fun k' o' hk' ho'=>?_,fun x v hv=>?_,fun s c' h1 h2=>?_,lu (lu h.v hom) hk⟩
 ·rw[bj,Ho (fun z=>nb (eZ z).2.symm),bj];by_cases e:k'=k
  ·subst e;rw[Hq rfl];rw[ho] at ho';injection ho' with ho';rw[ho']
  ·rw[Ho (fun z=>e (eZ z).1)];exact h.a k' o' (by lia) ho'
 ·rw[bj] at hv;by_cases e:x=o
  ·subst e;rw[Hq rfl] at hv;injection hv with hv;exact⟨k,Fm _,hv.symm,ho⟩
  ·rw[Ho (fun z=>e (eZ z).1),bj,Ho (fun z=>nb (eZ z).2)] at hv;obtain⟨k',h1,h2,h3⟩:=h.b x v hv;exact⟨k',by lia,h2,h3⟩
 ·rw[bj,Ho (fun z=>h2 (eZ z).2),bj,Ho (fun z=>h1 (eZ z).2)];exact h.o s c' h1 h2
theorem PW.start{many:Nat}{os:List Nat}{c:Nat}{kvs:List (List Key×V)}(h:NoL kvs c)(hv:∀kv∈kvs,∃n:Nat,kv.2=.int (n:Int)/\n<many):PW many os c 0 kvs kvs:=
 ⟨fun k' o hk=>absurd hk (FU _),(fun x v hx=>by rw[(h x).2] at hx;cases hx),fun _ _ _ _=>rfl,hv⟩
theorem PW.done{many:Nat}{os:List Nat}{c:Nat}{kvs0 kvs:List (List Key×V)}(h:PW many os c many kvs0 kvs)(hl:os.length=many)(ho:∀o∈os,o<many):LOk many kvs c:=
 ⟨fun k hk=>⟨os[k]'(by lia),ho _ (Ep _),h.a k _ hk (DW (by lia))⟩,fun x v hv=>by
  obtain⟨k',h1,h2,h3⟩:=h.b x v hv
  exact⟨k',h1,h2,h.a k' x h1 h3⟩⟩
theorem LOk.keep{many:Nat}{c c':Nat}{kvs0 kvs:List (List Key×V)}(h:LOk many kvs0 c)(e1:∀s,bg kvs (ky s c)=bg kvs0 (ky s c))(e2:∀s,bg kvs (ky s (bk c))=bg kvs0 (ky s (bk c))):LOk many kvs c:=
 ⟨fun k hk=>by rw[e1]; exact h.to k hk,fun x v hv=>by
  rw[e2] at hv;obtain⟨k,h1,h2,h3⟩:=h.bck x v hv
  exact⟨k,h1,h2,by rw[e1];exact h3⟩⟩
theorem ux{many:Nat}{kvs:List (List Key×V)}{m:Nat}(m1:1<=many)(hu:LOk many kvs 117)(hv:LOk many kvs 118)(hm:(FG.ord l4 (dK kvs) 0 m).length<=m):Mc (cGd (dK kvs) m)/\1<=(cGd (dK kvs) m).length/\(cGd (dK kvs) m).length<=many:=by
 have lo:∀p,p<2->∃c,LOk many kvs c/\(∀h:p<4,cM ⟨p,h⟩=c)/\∀h:p+2<4,cM ⟨p+2,h⟩=bk c:=fun p hp=>by
  have:p=0\/p=1:=by lia
  rcases this with rfl|rfl
  ·exact⟨117,hu,fun _=>rfl,fun _=>rfl⟩
  ·exact⟨118,hv,fun _=>rfl,fun _=>rfl⟩
 have clo:∀s a t,s<many->dK kvs s a=some t->t<many:=fun s a t hs ht=>by
  obtain⟨v,h1,h2⟩:=EN.mp ht;by_cases ha:a.val<2
  ·obtain⟨c,L,ec,_⟩:=lo a.val ha;obtain⟨o,ho,e⟩:=L.to s hs;rw[show cM a=c from ec a.isLt,e] at h1;injection h1 with h1;rw[<- h1] at h2;injection h2 with h2;rw[<- h2];exact ho
  ·obtain⟨c,L,_,ec⟩:=lo (a.val-2) (by have:=a.isLt;lia);have ea:cM a=bk c:=by
    have:=ec (by have:=a.isLt;lia);rw[<- this]
    congr 1
    apply Fin.ext;show a.val=a.val-2+2
    lia
   rw[ea] at h1;obtain⟨k,hk,e,_⟩:=L.bck s v h1;rw[e] at h2;injection h2 with h2;rw[<- h2];exact hk
 have olt:∀x∈FG.ord l4 (dK kvs) 0 m,x<many:=FG.KL (P:=fun x=>x<many) m1 (fun s a t hs h=>clo s a t hs h) m;have row:∀i p,p<4->∀e,ent (cGd (dK kvs) m) i p=some e->∃s t,∃h:p<4,(FG.ord l4 (dK kvs) 0 m)[i]?=some s/\dK kvs s ⟨p,h⟩=some t/\t∈FG.ord l4 (dK kvs) 0 m/\e=(((FG.ord l4 (dK kvs) 0 m).idxOf t:Nat):Int):=fun i p hp e he=>by
  by_cases hi:i<(FG.ord l4 (dK kvs) 0 m).length
  ·have hs:=DW hi;rw[show p=(⟨p,hp⟩:Fin 4).val from rfl,cQ hs] at he;obtain⟨t,ht,rfl⟩:=EB.mp he;exact⟨_,t,hp,hs,ht,FG.JG hs (DT hi hm) (Ea (iS hp)) ht,rfl⟩
  ·have:(cGd (dK kvs) m)[i]?=none:=Gn (by rw[Iu];lia);unfold ent at he;rw[this] at he;cases he
 refine⟨⟨fun i p hp e he=>?_,fun j hj hl=>?_,fun i p e hp he=>?_,fun i p hi hp=>?_⟩,?_,?_⟩
 ·obtain⟨s,t,_,_,_,ht,rfl⟩:=row i p hp e he;exact⟨_,rfl,by rw[Iu];exact FX ht⟩
 ·rw[Iu] at hl;have ht:=DW hl;obtain⟨i,s,a,h1,h2,_,h3⟩:=FG.KJ m ht hj;refine⟨i,a.val,h1,a.isLt,?_⟩;rw[cQ h2,h3,FF,pI (FG.Jl m) ht]
 ·obtain⟨s,t,h4,hs,ht,hm',e1⟩:=row i (p+2) (by lia) (e:Int) he;obtain⟨v,h1,h2⟩:=EN.mp ht;obtain⟨c,L,ec,ec2⟩:=lo p hp;rw[ec2 h4] at h1;obtain⟨k,hk,rfl,hv'⟩:=L.bck s v h1;injection h2 with h2;have ek:k=t:=h2;subst ek;have hp4:p<4:=by lia
  have back:dK kvs k ⟨p,hp4⟩=some s:=by
   unfold dK;rw[ec hp4,hv'];rfl
  rw[Int.ofNat.inj e1,show p=(⟨p,hp4⟩:Fin 4).val from rfl,cQ (mh hm'),back,FF,pI (FG.Jl m) hs]
 ·rw[Iu] at hi;have hs:=DW hi;obtain⟨c,L,ec,_⟩:=lo p hp;have hp4:p<4:=by lia
  obtain⟨o,ho,e⟩:=L.to _ (olt _ (Ep hi));generalize (FG.ord l4 (dK kvs) 0 m)[i]=si at hs e;have:dK kvs si ⟨p,hp4⟩=some o:=by
   unfold dK;rw[ec hp4,e];rfl
  rw[show p=(⟨p,hp4⟩:Fin 4).val from rfl,cQ hs,this];exact fun z=>by cases z
 ·obtain⟨y,ey⟩:=FG.Mf (ls:=l4) (d:=dK kvs) (z:=0) m;rw[Iu,ey,EA];exact HM (Ec _)
 ·rw[Iu];exact wK (FG.Jl m) olt
theorem LB:Wds [[117,117],[118],[117,118,85]]:=by
 refine⟨by decide,by decide,?_,?_,?_⟩
 ·unfold isW;decide
 ·intro cs h;simp only[Eb,EI,or_false] at h;rcases h with rfl|rfl|rfl
  ·exact⟨by decide,trivial⟩
  ·trivial
  ·exact⟨by decide,by decide,trivial⟩
 ·decide
def Ob:Sp:=fun vs H Q _=>∃p,vs=[.ref p]/\Ds H p/\∀W ws H',Dr p H H'->H W=none->hid p H' W=some (.lst (aR ws))->Wds ws->Q (.ref W) H'
theorem vS{dd dx db dg dh d:DD}(Am:(dg "_law_draw" 43 ["draws","many"] dd 1 JR))(D_ow:(dg "_law_other_way" 44 ["letter"] dx 1 Oz))(Bv:(dg "_law_basis" 47 ["graph"] db 3 NZ))(Ny:(dg "_law_graph" 48 ["ways"] dg 1 Py))(Au:(dg "_law_short" 45 ["word"] dh 2 Oi))(D:Def K mg "_law_full_makers" (top 49) ["draws"] d)(Aj:mg "len"=none)(Ai:mg "range"=none)(Ao:mg "list"=none)(AI:mg "max"=none):(fk 4 d ["draws"] Ob):=by
 exists["draws","many","ways","letter","order","k","j","words","one","other"]
 obtain⟨p,rfl,ds,q⟩:=h;refine⟨_,(ae (aw 1 (ay Ij (ah _) (bz Am.1 Am.2 (ag (0) (aL (ah _) bI) aC)))) (ae (aw 2 (@JO _ _)) (ae (bE (gQ (bo _)) (ar 3) (ae (ac 4 (du Ao Ai (aL (1) aC))) (ae (bE (pA Ai (ag (ay IC (1) (ah _)) (ag (ah _) (aL (hZ IZ (ah _)) (by rfl)) bI) (by rfl))) (ad 5) (ae (ac 6 (bz Am.1 Am.2 (ag (0) (aL (ay Ij (5) (ah _)) (by rfl)) aC))) (aq (ac 4 (bB (aA (ts:=["at"]) (cap:=["order","k","j"]) (js:=[4,5,6]) rfl rfl rfl rfl rfl rfl (by decide +kernel)) (bA Ai (aL (1) aC)) (am 0 (nd ["at","order","k","j"])) (@aX _) (@qF _ _ _ _ _ _ _ _ _ (bK hr) (fq (bF (2) (aN (show IxR _ (yM K) from HY) (1) (3)) (bF (3) (aN (show IxR _ (yM K) from HY) (1) (2)) (fh _))) (by simp)) (0) (aN (show IxR _ (yM K) from HY) (1) (0)) ⟨rfl,rfl,rfl,rfl⟩)))))) (aq (bE (bA Ai (aL (1) aC)) (ad 5) (ae (fA (bK hr) (2) (bh (ag (5) (aL (3) aC) aC)) (aN HY (4) (5))) (aq (fA (bK hr) (2) (bh (ag (aN HY (4) (5)) (aL (bu D_ow.1 D_ow.2 (3) aC) dv) (by rfl))) (5))))))))) (ae (aw 7 (bu Bv.1 Bv.2 (bu Ny.1 Ny.2 (2) aC) dv)) (ae (br (aB JW (aS (pb hc) AI LR (aL (bB (aA (ts:=["word"]) (cap:=[]) (js:=[]) rfl rfl rfl rfl rfl rfl (by decide +kernel)) (bp (7)) (am 0 (nd ["word"])) (@aX _) (aP Ir Aj (0) aC)) (by rfl))) (ah _) (aD _)) (aq (aH (aY (@oV _ _ (["uu","v","uvU"]) rfl)))) (HZ _)) (ae (aw 8 (bz Am.1 Am.2 (ag (0) (aL (aP HW Aj (7) aC) dv) aC))) (ae (aw 9 (bz Am.1 Am.2 (ag (0) (aL (aP HW Aj (7) aC) dv) aC))) (ae (br (@PW.pt _ _ _ (fF (aB Jp (8) (9) (aD _)) (cZ (aB NM (aP Ir Aj (ay Ig (aN HY (7) (8)) (aN HY (7) (9))) (by rfl)) (ah _) (aD _))))) (aq (cx (bu Au.1 Au.2 (ay Ig (aN HY (7) (8)) (aN HY (7) (9))) (by rfl)) (kX (7) (8) set_list))) (HZ _)) (aq (aH (7))))))))))),?_⟩
 walk_at "d"
 have nep:∀{H':Hp}{a:Addr},Ds H' p->H' a=none->a≠p:=fun {H' a} d n=>HI (d.ne n);refine⟨_,rfl,p,7,rfl,ds,by decide,by decide,fun r1 H1 a0 a1 dr1=>?_⟩;obtain⟨many,em,m1,m7⟩:∃many:Nat,(1+r1:Int)=(many:Int)/\1<=many/\many<=7:=⟨(1+r1).toNat,by lia,by lia,by lia⟩
 refine⟨_,_,rfl,rfl,?_⟩;rw[show(fun i j=>V.int (i+j)) 1 r1=V.int (many:Int) from congrArg V.int em];refine fun Dk nD=>?_;have nDH:H Dk=none:=by
  cases z:H Dk with
  |none=>rfl
  |some o=>
   have ne:=nep dr1.ds nD;have:=dr1.same Dk o (by rw[aQ ne];exact z);rw[aQ ne,nD] at this;cases this
 have neD:=nep dr1.ds nD;have D1:=dr1.trans (Dr.new dr1.ds nD (.dT []));have g1:=cF dr1.ds nD (.dT []);refine⟨txt [117,118],(by rw[DK]),by decide +kernel,?_⟩;refine fN (cs:=[117,118]) (fun i σ' H'=>∃kvs e3 e4 e5 e6,σ'=[some (.ref p),some (.int (many:Int)),some (.ref Dk),e3,e4,e5,e6,none,none,none]/\Dr p H H'/\hid p H' Dk=some (.dT kvs)/\(∀kv∈kvs,∃n:Nat,kv.2=.int (n:Int)/\n<many)/\kvs.length<=14*i/\(1<=i->LOk many kvs 117)/\(i<1->NoL kvs 117)/\(2<=i->LOk many kvs 118)/\(i<2->NoL kvs 118)) ⟨[],_,_,_,_,rfl,D1,g1,fun kv h=>absurd h (by simp),DP _,fun h=>absurd h (by decide),fun _ x=>⟨rfl,rfl⟩,fun h=>absurd h (by decide),fun _ x=>⟨rfl,rfl⟩⟩ (fun i hi σ' H' z=>?_) (fun σ' H' z=>?_)
 ·obtain⟨kvs,e3,e4,e5,e6,rfl,dr,gD,hv,hl,h1,h2,h3,h4⟩:=z;have hi2:i<2:=hi;obtain⟨c,ec,cW⟩:∃c,([117,118]:List Nat)[i]=c/\isW c:=by
   have:i=0\/i=1:=by lia
   rcases this with rfl|rfl
   ·exact⟨117,rfl,.inl rfl⟩
   ·exact⟨118,rfl,.inr (.inl rfl)⟩
  have hNo:NoL kvs c:=by
   have:i=0\/i=1:=by lia
   rcases this with rfl|rfl
   ·rw[<- ec];exact h2 (by decide)
   ·rw[<- ec];exact h4 (by decide)
  rw[ec];refine⟨_,rfl,many,rfl,by lia,fun O nO=>?_⟩;rw[lq];have D2:=dr.trans (Dr.new dr.ds nO (.lst (iv (List.range many))));have gD2:=(Dr.new dr.ds nO (.lst (iv (List.range many)))).same _ _ gD;have gO2:=cF dr.ds nO (.lst (iv (List.range many)));generalize upd H' O (.lst (iv (List.range many)))=H2 at D2 gD2 gO2 ⊢;refine⟨_,rfl,_,_,rfl,rfl,_,rfl,(many:Int)-1,0,rfl,⟨by lia,by lia,by lia,by lia⟩,?_⟩;refine qD (lo:=(many:Int)-1) (n:=((many:Int)-1-0).toNat) (fun _ σ' H'=>∃O os e5 e6,σ'=[some (.ref p),some (.int (many:Int)),some (.ref Dk),some (.str ⟨#[c]⟩),some (.ref O),e5,e6,none,none,none]/\Dr p H H'/\hid p H' Dk=some (.dT kvs)/\hid p H' O=some (.lst (iv os))/\os.length=many/\∀o∈os,o<many) ⟨O,List.range many,_,_,rfl,D2,gD2,gO2,EG,fun o ho=>Es.mp ho⟩ (fun k σ' H' hk z=>?_) (fun σ' H' z=>?_)
  ·obtain⟨O,os,e5,e6,rfl,dr,gD,gO,lo,ho⟩:=z;obtain⟨kk,ekk,k1,k2⟩:∃kk:Nat,((many:Int)-1-(k:Nat))=(kk:Int)/\1<=kk/\kk<many:=⟨((many:Int)-1-(k:Nat)).toNat,by lia,by lia,by lia⟩
   rw[ekk];refine⟨_,rfl,_,rfl,_,_,rfl,rfl,p,(kk:Int)+1,rfl,dr.ds,by lia,by lia,fun r H3 b0 b1 dr3=>?_⟩;obtain⟨jj,rfl⟩:∃jj:Nat,r=(jj:Int):=⟨r.toNat,by lia⟩
   have jl:jj<many:=by lia
   have gD3:=dr3.same _ _ gD;have gO3:=dr3.same _ _ gO;have DD3:=dr.trans dr3;have hO3:=aE p _ _ _ gO3;refine⟨_,rfl,(many:Int),rfl,by lia,by lia,?_⟩;rw[EC];refine wA (lo:=0) (n:=many) (fun i ys H'=>Ia H3 H'/\∃os',ys=iv os'/\os'.length=i/\∀o∈os',o<many) ⟨Ia.refl _,[],rfl,rfl,fun o h=>absurd h (by simp)⟩ (fun i ys H' hi z=>by obtain⟨_,os',rfl,e,_⟩:=z;show((os'.map _).map V.int).length<=i;rw[DQ,DQ,e];exact DP _) (aJ (by lia)) (fun i ys H' hi z=>?_) (fun ys H' z L nL=>?_)
   ·obtain⟨S,os',rfl,e,hos⟩:=z;rw[show((0:Int)+(i:Nat))=((i:Nat):Int) from EF _];refine fun pd npd=>?_;have T:=ao npd (.dK []);have hO4:=T _ _ (S _ _ hO3);have aj:=mE (nm:=os) (a:=jj) (by lia);have ak:=mE (nm:=os) (a:=kk) (by lia);have ai:=mE (nm:=os) (a:=i) (by lia);have oj:=ho _ (Ep (show jj<os.length by lia));have ok:=ho _ (Ep (show kk<os.length by lia));have oi:=ho _ (Ep (show i<os.length by lia));generalize os[jj]'(by lia)=vj at aj oj;generalize os[kk]'(by lia)=vk at ak ok;generalize os[i]'(by lia)=vi at ai oi;refine⟨_,rfl,_,rfl,_,rfl,O,_,_,_,rfl,rfl,SqL.of hO4,aj,_,rfl,_,rfl,_,rfl,O,_,_,_,rfl,rfl,SqL.of hO4,ak,af,[(.inl (kk:Int),.int (vj:Int)),(.inl (jj:Int),.int (vk:Int))],rfl,(by show 2<=15;decide),?_⟩;have hOpd:O≠pd:=fun z=>by rw[z] at hO3;rw[S _ _ hO3] at npd;cases npd
    have S5:Ia H3 (upd (upd H' pd (.dK [])) pd (.dK (bL [] [(.inl (kk:Int),.int (vj:Int)),(.inl (jj:Int),.int (vk:Int))]))):=fun b o hb=>by
     have nb:b≠pd:=fun z=>by rw[z] at hb;rw[S _ _ hb] at npd;cases npd
     rw[au nb,au nb];exact S _ _ hb
    have g5:(upd (upd H' pd (.dK [])) pd (.dK (bL [] [(.inl (kk:Int),.int (vj:Int)),(.inl (jj:Int),.int (vk:Int))]))) pd=some (.dK (cB (cB [] (.inl (kk:Int)) (.int (vj:Int))) (.inl (jj:Int)) (.int (vk:Int)))):=af;generalize upd (upd H' pd (.dK [])) pd (.dK (bL [] [(.inl (kk:Int),.int (vj:Int)),(.inl (jj:Int),.int (vk:Int))]))=H5 at S5 g5 ⊢;refine⟨pd,rfl,.inl ⟨_,.inl g5⟩,_,rfl,_,rfl,_,rfl,O,_,_,_,rfl,rfl,SqL.of (S5 _ _ hO3),ai,_,IE.k (k:=.inl (i:Int)) g5,?_⟩;obtain⟨vn,evn,hvn⟩:∃vn:Nat,((bg (cB (cB [] (.inl (kk:Int)) (.int (vj:Int))) (.inl (jj:Int)) (.int (vk:Int))) (.inl (i:Int):Key)).getD (.int (vi:Int)))=V.int (vn:Int)/\vn<many:=by
     rw[bj];by_cases e1:(.inl (i:Int):Key)=.inl (jj:Int)
     ·rw[Hq e1];exact⟨vk,rfl,ok⟩
     ·rw[Ho e1,bj];by_cases e2:(.inl (i:Int):Key)=.inl (kk:Int)
      ·rw[Hq e2];exact⟨vj,rfl,oj⟩
      ·rw[Ho e2,fQ];exact⟨vi,rfl,oi⟩
    rw[evn];refine Nx.mk hi ⟨S5,os'++[vn],jX os' vn,by rw[DR,e];rfl,fun o h=>?_⟩;rcases DX.mp h with h|h
    ·exact hos o h
    ·rw[Ei.mp h];exact hvn
   ·obtain⟨S,os',rfl,e,hos⟩:=z;have D4:=Dr.of_same dr3.ds S;have D5:=Dr.new D4.ds nL (.lst (iv os'));exact⟨L,os',_,_,rfl,DD3.trans (D4.trans D5),D5.same _ _ (D4.same _ _ gD3),cF D4.ds nL _,e,hos⟩
  ·obtain⟨O,os,e5,e6,rfl,dr,gD,gO,lo,ho⟩:=z;refine⟨_,rfl,(many:Int),rfl,by lia,by lia,?_⟩;rw[EC];have neO:O≠Dk:=fun z=>by rw[z,gD] at gO;cases gO
   refine bH (lo:=0) (n:=many) (fun k σ' H'=>∃kvs2 e5 e6,σ'=[some (.ref p),some (.int (many:Int)),some (.ref Dk),some (.str ⟨#[c]⟩),some (.ref O),e5,e6,none,none,none]/\Dr p H H'/\hid p H' Dk=some (.dT kvs2)/\hid p H' O=some (.lst (iv os))/\kvs2.length<=14*i+2*k/\PW many os c k kvs kvs2) ⟨kvs,_,_,rfl,dr,gD,gO,by lia,PW.start hNo hv⟩ (fun k σ' H' hk z=>?_) (fun σ' H' z=>?_)
   ·obtain⟨kvs2,e5,e6,rfl,dr,gD,gO,hl2,hP⟩:=z;rw[show((0:Int)+(k:Nat))=((k:Nat):Int) from EF _];have ak:=mE (nm:=os) (a:=k) (by lia);have hok:os[k]?=some (os[k]'(by lia)):=DW (by lia);have ok:=ho _ (Ep (show k<os.length by lia));generalize os[k]'(by lia)=vk at ak ok hok;refine⟨_,rfl,_,rfl,O,_,_,_,rfl,rfl,SqL.of (aE p _ _ _ gO),ak,_,rfl,_,rfl,_,rfl,(by show 2<=sizeLine;decide),fun b nb=>?_⟩;have T1:=Dr.new dr.ds nb (.tup [.int ((k:Nat):Int),.str ⟨#[c]⟩]);have gD1:=T1.same _ _ gD;have gO1:=T1.same _ _ gO;refine⟨Dk,_,rfl,Lg.t (k:=ky k c) (aE p _ _ _ gD1) af (DT (show kvs2.length<1000000 by lia) (aJ (DP _))),?_⟩;have D3:=Dr.put (dr.trans T1) nDH neD (.dT (cB kvs2 (ky k c) (.int (vk:Int))));have gD3:hid p (upd (upd H' b (.tup [.int ((k:Nat):Int),.str ⟨#[c]⟩])) Dk (.dT (cB kvs2 (ky k c) (.int (vk:Int))))) Dk=some (.dT (cB kvs2 (ky k c) (.int (vk:Int)))):=gx neD _;have gO3:=sT (o':=.dT (cB kvs2 (ky k c) (.int (vk:Int)))) gO1 neO;generalize upd (upd H' b (.tup [.int ((k:Nat):Int),.str ⟨#[c]⟩])) Dk (.dT (cB kvs2 (ky k c) (.int (vk:Int))))=H3 at D3 gD3 gO3 ⊢;refine⟨_,rfl,_,rfl,_,rfl,_,rfl,O,_,_,_,rfl,rfl,SqL.of (aE p _ _ _ gO3),ak,_,rfl,c,rfl,cW,fun H4 S4=>⟨(by show 2<=sizeLine;decide),fun b2 nb2=>?_⟩⟩;have T4:=Dr.of_same D3.ds S4;have T5:=Dr.new T4.ds nb2 (.tup [.int ((vk:Nat):Int),.str ⟨#[bk c]⟩]);have gD5:=T5.same _ _ (T4.same _ _ gD3);have gO5:=T5.same _ _ (T4.same _ _ gO3);have lp:=bO kvs2 (ky k c) (.int (vk:Int));have lp2:=bO (cB kvs2 (ky k c) (.int (vk:Int))) (ky vk (bk c)) (.int (k:Int));refine⟨Dk,_,rfl,Lg.t (k:=ky vk (bk c)) (aE p _ _ _ gD5) af (DT (show(cB kvs2 (ky k c) (.int (vk:Int))).length<1000000 by lia) (aJ (DP _))),?_⟩;exact⟨_,_,_,rfl,Dr.put (D3.trans (T4.trans T5)) nDH neD _,gx neD _,sT gO5 neO,by lia,hP.next cW hok hk ok⟩
   ·obtain⟨kvs2,e5,e6,rfl,dr,gD,gO,hl2,hP⟩:=z;have hL:=hP.done lo ho;have:i=0\/i=1:=by lia
    rcases this with rfl|rfl
    ·have ec':c=117:=ec.symm;subst ec';have k0:=h4 (by decide);refine⟨kvs2,_,_,_,_,rfl,dr,gD,hP.v,by lia,fun _=>hL,fun h=>absurd h (by decide),fun h=>absurd h (by decide),fun _ x=>?_⟩;exact⟨by rw[hP.o x 118 (by decide) (by decide)];exact(k0 x).1,by rw[hP.o x (bk 118) (by decide) (by decide)];exact(k0 x).2⟩
    ·have ec':c=118:=ec.symm;subst ec';have k0:=h1 (by decide);exact⟨kvs2,_,_,_,_,rfl,dr,gD,hP.v,by lia,fun _=>k0.keep (c':=0) (fun s=>hP.o s 117 (by decide) (by decide)) (fun s=>hP.o s (bk 117) (by decide) (by decide)),fun h=>absurd h (by decide),fun _=>hL,fun h=>absurd h (by decide)⟩
 ·obtain⟨kvs,e3,e4,e5,e6,rfl,dr,gD,hv,hl,h1,_,h3,_⟩:=z;have L1:=h1 (by decide);have L2':=h3 (by decide);refine⟨_,rfl,Dk,kvs,rfl,aE p _ _ _ gD,fun kv hk=>?_,fun g us m H2 S2 ng hm h100 hG=>?_⟩
  ·obtain⟨n,e,h⟩:=hv kv hk;exact⟨n,e,by lia⟩
  obtain⟨hFu,f1,f7⟩:=ux m1 L1 L2' hm;refine⟨g,us,_,rfl,hG,hFu,f1,by lia,fun W ws H3 S3 nW gW hws hlen=>?_⟩;have D2:=Dr.of_same dr.ds (S2.trans S3);have DD:=dr.trans D2;have nWH':H' W=none:=by
   cases z:H' W with
   |none=>rfl
   |some o=>rw[S2 _ _ z] at nW;cases nW
  have neW:=nep dr.ds nWH';have nWH:H W=none:=by
   cases z:H W with
   |none=>rfl
   |some o=>
    have:=dr.same W o (by rw[aQ neW];exact z);rw[aQ neW,nWH'] at this;cases this
  have gW':hid p H3 W=some (.lst (aR ws)):=by rw[aQ neW];exact gW
  have tl:(aR ws).length=ws.length:=DQ _;have wl:2<=ws.length/\ws.length<=8:=by lia
  refine⟨_,rfl,W,rfl,⟨_,SqL.of gW⟩,?_⟩;refine fH (K:=K) (a:=W) (xs:=aR ws) (fun i ys H'=>Ia H3 H'/\ys=((ws.take i).map fun w=>((w.length:Nat):Int)).map V.int) ⟨Ia.refl _,rfl⟩ (fun i ys H' hi z=>by rw[z.2,DQ,DQ,Eu];lia) (by rw[tl];exact aJ (by lia)) (fun i ys H' hi z=>SqL.of (z.1 _ _ gW)) (fun i x ys H' hx z=>?_) (fun ys H4 z L nL=>?_)
  ·obtain⟨z1,rfl⟩:=z;rw[DY] at hx;obtain⟨cs,hcs,rfl⟩:=EB.mp hx;have hi:i<ws.length:=(DU.mp hcs).1;have:=(hws cs (Ea hcs)).2.2;refine⟨_,rfl,txt cs,rfl,aJ (by rw[bZ];lia),Nx.mk (by rw[tl];exact hi) ⟨z1,?_⟩⟩;rw[bZ,Eo,hcs,Ef,Ef];rfl
  ·obtain⟨z1,rfl⟩:=z;rw[tl,Ez];have T4:=Dr.of_same D2.ds z1;have T5:=Dr.new T4.ds nL (.lst ((ws.map fun w=>((w.length:Nat):Int)).map V.int));have gW5:=T5.same _ _ (T4.same _ _ gW');have DD5:=DD.trans (T4.trans T5);refine⟨L,ws.map fun w=>((w.length:Nat):Int),rfl,SqL.of af,fun z=>by have:=congrArg List.length z;rw[DQ] at this;simp at this;rw[this] at wl;exact absurd wl.1 (by decide),fun mx hmx hall=>⟨_,_,rfl,rfl,_,rfl,?_⟩⟩;generalize upd H4 L (.lst ((ws.map fun w=>((w.length:Nat):Int)).map V.int))=H5 at T5 gW5 DD5 ⊢;by_cases h10:(10:Int)<mx
   ·rw[Ht h10];refine⟨(by show 3<=sizeLine;decide),fun R nR=>?_⟩;have nRH:H R=none:=by
     have neR:=nep DD5.ds nR;cases z:H R with
     |none=>rfl
     |some o=>
      have:=DD5.same R o (by rw[aQ neR];exact z);rw[aQ neR,nR] at this;cases this
    have et:(List.map V.str ["uu","v","uvU"]:List V)=aR [[117,117],[118],[117,118,85]]:=by
     show[V.str "uu",V.str "v",V.str "uvU"]=[V.str (txt [117,117]),V.str (txt [118]),V.str (txt [117,118,85])]
     rw[show("uu":Str)=txt [117,117] by decide +kernel,show("v":Str)=txt [118] by decide +kernel,show("uvU":Str)=txt [117,118,85] by decide +kernel]
    rw[et];exact q R _ _ (DD5.trans (Dr.new DD5.ds nR _)) nRH (cF DD5.ds nR _) LB
   ·rw[Hu h10];have l10:∀cs∈ws,cs.length<=10:=fun cs h=>by
     have:=hall _ (FV h)
     lia
    have W0:Wds ws:=⟨by lia,by lia,fun cs h=>(hws cs h).1,fun cs h=>(hws cs h).2.1,l10⟩
    refine⟨_,rfl,_,rfl,W,_,rfl,.inl (SqL.of (aE p _ _ _ gW5)),p,_,rfl,DD5.ds,by rw[tl];lia,by rw[tl];lia,fun o1 H6 c0 c1 dr6=>?_⟩;have gW6:=dr6.same _ _ gW5;refine⟨_,rfl,_,rfl,W,_,rfl,.inl (SqL.of (aE p _ _ _ gW6)),p,_,rfl,dr6.ds,by rw[tl];lia,by rw[tl];lia,fun o2 H7 d0 d1 dr7=>?_⟩;have gW7:=dr7.same _ _ gW6;have DD7:=DD5.trans (dr6.trans dr7);rw[tl] at c1 d1;obtain⟨n1,rfl⟩:∃n:Nat,o1=(n:Int):=⟨o1.toNat,by lia⟩
    obtain⟨n2,rfl⟩:∃n:Nat,o2=(n:Int):=⟨o2.toNat,by lia⟩
    have hn1:n1<ws.length:=by lia
    have hn2:n2<ws.length:=by lia
    have at1:atI (aR ws) (n1:Int)=some (.str (txt ws[n1])):=bG (by rw[DY,DW hn1];rfl);have at2:atI (aR ws) (n2:Int)=some (.str (txt ws[n2])):=bG (by rw[DY,DW hn2];rfl);have w1:=hws _ (Ep hn1);have w2':=hws _ (Ep hn2);have l1:=l10 _ (Ep hn1);have l2:=l10 _ (Ep hn2);generalize ws[n1]=u1 at at1 w1 l1;generalize ws[n2]=u2 at at2 w2' l2;refine⟨_,rfl,_,rfl,rfl,!decide (V.int (n1:Int)=V.int (n2:Int)),rfl,?_⟩;cases hne:(!decide (V.int (n1:Int)=V.int (n2:Int))) with
    |false=>exact⟨_,rfl,q W ws H7 DD7 nWH gW7 W0⟩
    |true=>
     have gWl:=aE p _ _ _ gW7;refine⟨_,rfl,_,rfl,W,_,_,_,rfl,rfl,SqL.of gWl,at1,_,rfl,_,rfl,W,_,_,_,rfl,rfl,SqL.of gWl,at2,_,_,rfl,rfl,aJ (by rw[bZ,bZ];lia),_,rfl,aJ (by rw[bU,bZ,DR];lia),_,_,rfl,rfl,_,rfl,?_⟩;rw[bU,bZ];by_cases hle:(((u1++u2).length:Nat):Int)<=10
     ·rw[Ht hle];refine⟨_,rfl,_,rfl,W,_,_,_,rfl,rfl,SqL.of gWl,at1,_,rfl,_,rfl,W,_,_,_,rfl,rfl,SqL.of gWl,at2,_,_,rfl,rfl,aJ (by rw[bZ,bZ];lia),?_⟩;rw[bU];have uW:∀c∈u1++u2,isW c:=fun c hc=>(DX.mp hc).elim (w1.1 c) (w2'.1 c);refine⟨u1++u2,rfl,uW,by lia,fun H8 S8=>?_⟩;have gW8:=S8.hid _ _ gW7;have eix:ixN (aR ws).length ((n1:Nat):Int)=some n1:=by
       unfold ixN;rw[Hq (HN _),tl,Hq (Gp.mpr hn1),EC]
      refine⟨_,rfl,_,rfl,W,_,_,n1,rfl,rfl,aE p _ _ _ gW8,eix,?_⟩;have es:(aR ws).set n1 (.str (txt (red (u1++u2))))=aR (ws.set n1 (red (u1++u2))):=by
       show _=(ws.set n1 (red (u1++u2))).map _;rw[List.map_set]
      rw[es];have D8:=DD7.trans (Dr.of_same DD7.ds S8);refine⟨_,rfl,q W _ _ (Dr.put D8 nWH neW _) nWH (gx neW _) ?_⟩;have rl:=fB (u1++u2);have gen:∀cs∈ws.set n1 (red (u1++u2)),(∀c∈cs,isW c)/\Red cs/\cs.length<=10:=fun cs h=>by
       rcases Hl h with h|h
       ·exact⟨(hws cs h).1,(hws cs h).2.1,l10 cs h⟩
       ·rw[h];exact⟨oN uW,iM uW,by lia⟩
      exact⟨by rw[Ge];lia,by rw[Ge];lia,fun cs h=>(gen cs h).1,fun cs h=>(gen cs h).2.1,fun cs h=>(gen cs h).2.2⟩
     ·rw[Hu hle];exact⟨_,rfl,q W ws H7 DD7 nWH gW7 W0⟩
end
end K3
namespace L2
open PySem PySem.Spec PyProof.Rows
section
variable {X:Cx}
theorem Pc:∀{us:List Value}{ns:List Int},IntsAre us ns->Vals (ns.map V.int) us
 |_,_,.nil=>.nil
 |_,_,.cons _ _ h=>.cons ⟨_,rfl⟩ (Pc h)
def wQ (K:W.Frag):List V->Hp->VK->Prop:=fun xs H Q=>∃p,∃ns:List Int,xs=[.ref p]/\SqL K H p (ns.map V.int)/\ns.length<64/\∀l,∀ns':List Int,ns'.Perm ns->ns'.Pairwise (·<=·)->H l=none->Q (.ref l) (upd H l (.lst (ns'.map V.int)))
theorem Lj:cP X (.builtin "sorted") (wQ X.K):=by
 intro pins s σ H xs us Q I r h;obtain⟨p,ns,rfl,hq,h64,q⟩:=h;obtain⟨u,rfl,rx⟩:=fw r;cases rx;obtain⟨its,rv,pl,hz⟩:=I.list hq;have hl:=rv.length;rw[DQ] at hl hz;refine sorted_ints pl.isList (ik rv) (by lia) fun out ns' a1 a2 a3=>?_;obtain⟨e,he⟩:=sortedAll_at s.heap its out;refine⟨.ref (s.heap.objs.size+1),_,I.laid (t':=s.toks) (o:=.lst (ns'.map V.int)) (fun _ _=>sortedAll_old) (EO _) ?_,rfl,q _ ns' a2 a3 (I.hok.fresh (EO _))⟩;refine⟨?_,out.toList,e,Pc a1,?_⟩
 ·rw[DQ,a2.length_eq];lia
 ·rw[Array.toArray_toList];exact he
end
end L2
namespace FG
section
variable {α σ:Type} [DecidableEq α] [DecidableEq σ] {iv:α->α}{ws:List (List α)}{d:σ->α->Option σ}{z:σ}
def Gon (iv:α->α)(ws:List (List α))(d:σ->α->Option σ)(z:σ)(s:σ)(a:α):Prop:=∃x b y,x++b::y∈ws/\(walk d z x=some s/\b=a\/walk d z (x++[b])=some s/\iv b=a)
open Classical in
noncomputable def Kh(iv:α->α)(ws:List (List α))(d:σ->α->Option σ)(z:σ)(s:σ)(a:α):Option σ:=if Gon iv ws d z s a then d s a else none
theorem JL{s t:σ}{a:α}(h:Kh iv ws d z s a=some t):Gon iv ws d z s a/\d s a=some t:=by
 unfold Kh at h;split at h
 ·exact⟨by assumption,h⟩
 ·cases h
theorem qk{s:σ}{a:α}(h:Gon iv ws d z s a):Kh iv ws d z s a=d s a:=by
 unfold Kh;exact Hq h
theorem JT:∀(y x:List α)(s:σ)(r:List α),x++(y++r)∈ws->walk d z x=some s->walk (Kh iv ws d z) s y=walk d s y
 |[],_,_,_,_,_=>rfl
 |a::y,x,s,r,h,hx=>by
  show(Kh iv ws d z s a).bind _=(d s a).bind _;rw[qk ⟨x,a,y++r,h,.inl ⟨hx,rfl⟩⟩];cases e:d s a with
  |none=>rfl
  |some t=>
   refine JT y (x++[a]) t r (by rw[Ej];exact h) ?_;rw[bD,hx];show(d s a).bind _=_;rw[e];rfl
theorem Fold.Kh(o:Ok iv)(F:Fold iv ws d z):Fold iv ws (Kh iv ws d z) z:=by
 have pw:∀x y,x++y∈ws->walk (FG.Kh iv ws d z) z x=walk d z x:=fun x y h=>JT x [] z y h rfl;refine⟨fun s a t h=>?_,?_,fun w hw=>?_,fun s a t h=>?_⟩
 ·obtain⟨⟨x,b,y,hw,c⟩,e⟩:=JL h;have e2:=F.back _ _ _ e;rw[qk,e2];rcases c with ⟨c1,rfl⟩|⟨c1,rfl⟩
  ·refine⟨x,b,y,hw,.inr ⟨?_,rfl⟩⟩;rw[bD,c1];show(d s b).bind _=_;rw[e];rfl
  ·rw[bD] at c1;cases hx:walk d z x with
   |none=>rw[hx] at c1;cases c1
   |some u=>
    rw[hx] at c1;have c2:d u b=some s:=by
     have c3:(d u b).bind (fun t=>walk d t [])=some s:=c1;cases hu:d u b with
     |none=>rw[hu] at c3;cases c3
     |some v=>rw[hu] at c3;exact c3
    have e3:=F.back _ _ _ c2;rw[e] at e3;injection e3 with e3;subst e3;exact⟨x,b,y,hw,.inl ⟨hx,(o.inv b).symm⟩⟩
 ·obtain⟨g,g0,hg⟩:=F.cos;exact⟨g,g0,fun s a t h=>hg s a t (JL h).2⟩
 ·rw[pw w [] (by rw[Et];exact hw)];exact F.clo w hw
 ·obtain⟨⟨x,b,y,hw,c⟩,e⟩:=JL h;rcases c with ⟨c1,_⟩|⟨c1,_⟩
  ·exact⟨_,hw,x,b::y,rfl,by rw[pw x (b::y) hw];exact c1⟩
  ·have hw2:(x++[b])++y∈ws:=by rw[Ej];exact hw
   exact⟨_,hw2,x++[b],y,rfl,by rw[pw _ y hw2];exact c1⟩
end
end FG
namespace K3
open PySem PySem.Spec PyProof.Rows L2
section
variable {P:Program}{w:World}{K:PySem.W.Frag}{mg:Str->Option Value}{base:Heap}
def cD (G:List Row)(p:Nat):List Int:=G.map fun r=>((r[p]?).join).getD 0
theorem ck{G:List Row}(four:∀r∈G,r.length=4)(hf:cJ G=true){i p:Nat}(hi:i<G.length)(hp:p<4):∃e,ent G i p=some e/\(cD G p)[i]?=some e:=by
 have hr:=DW hi;have mr:=Ep hi;have h4:=four _ mr;have hs:=EE.mp (EE.mp hf _ mr) ((G[i])[p]'(by rw[h4];exact hp)) (Ep _);obtain⟨e,he⟩:=Fz.mp hs;have hrp:(G[i])[p]?=some (some e):=by rw[DW (by rw[h4];exact hp),he]
 refine⟨e,?_,?_⟩
 ·rw[gE hr,hrp];rfl
 ·unfold cD;rw[DY,hr];show some (((G[i])[p]?).join.getD 0)=_;rw[hrp];rfl
theorem dN(G:List Row)(p:Nat):(cD G p).length=G.length:=DQ _
theorem jf{G:List Row}(g:isG G=true){i p:Nat}{e:Int}(hp:p<4)(h:ent G i p=some e):i<G.length/\0<=e/\e<G.length/\ent G e.toNat ((p+2) % 4)=some (i:Int):=by
 have hi:i<G.length:=by
  rcases Nat.lt_or_ge i G.length with h1|h1
  ·exact h1
  ·unfold ent at h;rw[Gn h1] at h;cases h
 unfold isG at g;rw[Ey,Ey,Jd,Jd] at g;have g1:=g.2.1 i p hi hp;have g2:=g.2.2 i p hi hp;unfold vK at g2;rw[h] at g1 g2;have g3:(decide ((0:Int)<=e)&&decide (e<((G.length:Nat):Int)))=true:=g1;rw[Ey,decide_eq_true_eq,decide_eq_true_eq] at g3;exact⟨hi,g3.1,g3.2,decide_eq_true_eq.mp g2⟩
theorem kS{G:List Row}(g:isG G=true)(four:∀r∈G,r.length=4)(hf:cJ G=true){p:Nat}(hp:p<4)(x:Int):x∈cD G p↔0<=x/\x<G.length:=by
 constructor
 ·intro h;obtain⟨i,hi⟩:=FH h;have hl:=(DU.mp hi).1;rw[dN] at hl;obtain⟨e,h1,h2⟩:=ck four hf hl hp;rw[hi] at h2;injection h2 with h2;subst h2;have:=jf g hp h1;exact⟨this.2.1,this.2.2.1⟩
 ·rintro⟨h0,h1⟩;obtain⟨e,e1,_⟩:=ck four hf (i:=x.toNat) (p:=(p+2) % 4) (by lia) (Fj _ (by decide));obtain⟨_,b0,b1,b2⟩:=jf g (Fj _ (by decide)) e1;rw[show((p+2) % 4+2) % 4=p by lia,HV h0] at b2;obtain⟨y,y1,y2⟩:=ck four hf (i:=e.toNat) (p:=p) (by lia) hp;rw[b2] at y1;injection y1 with y1;rw[y1];exact Ea y2
theorem qg{G:List Row}(g:isG G=true)(four:∀r∈G,r.length=4)(hf:cJ G=true){p:Nat}(hp:p<4):(cD G p).Nodup:=by
 refine List.pairwise_iff_getElem.mpr fun i j hi hj hij e=>?_;have hi':=hi;have hj':=hj;rw[dN] at hi' hj';obtain⟨x,x1,x2⟩:=ck four hf hi' hp;obtain⟨y,y1,y2⟩:=ck four hf hj' hp;rw[DW hi] at x2;rw[DW hj] at y2;injection x2 with x2;injection y2 with y2;have exy:x=y:=by rw[<- x2,<- y2];exact e
 subst exy;have a:=(jf g hp x1).2.2.2;rw[(jf g hp y1).2.2.2] at a;injection a with a;lia
def qz (n:Nat):List Int:=(List.range n).map fun(i:Nat)=>(i:Int)
theorem kf{G:List Row}(g:isG G=true)(four:∀r∈G,r.length=4)(hf:cJ G=true){p:Nat}(hp:p<4){ns:List Int}(h:ns.Perm (cD G p))(hs:ns.Pairwise (·<=·)):ns=qz G.length:=by
 have nu:(qz G.length).Nodup:=by
  refine GQ.mpr ?_;exact(List.nodup_range (n:=G.length)).imp fun h e=>h (by lia)
 have pu:(cD G p).Perm (qz G.length):=(List.perm_ext_iff_of_nodup (qg g four hf hp) nu).mpr fun x=>by
  rw[kS g four hf hp];unfold qz;rw[Em];constructor
  ·rintro⟨h0,h1⟩;exact⟨x.toNat,Es.mpr (by lia),by lia⟩
  ·rintro⟨i,hi,rfl⟩;have:=Es.mp hi;lia
 refine List.Perm.eq_of_pairwise (le:=(·<=·)) (fun a b _ _ h1 h2=>Int.le_antisymm h1 h2) hs ?_ (h.trans pu);refine GQ.mpr ?_;exact(List.pairwise_lt_range (n:=G.length)).imp fun h=>by lia
theorem pD{G:List Row}(four:∀r∈G,r.length=4)(hf:cJ G=true):JP G=2*G.length:=by
 induction G with
 |nil=>rfl
 |cons r G ih=>
  have hf':(r.all (fun o=>o.isSome)&&cJ G)=true:=hf;rw[Ey] at hf';have:=ih (fun r hr=>four r (Eg _ hr)) hf'.2;obtain⟨a,b,c,d,rfl⟩:=nS (four r (DS ..));have h1:=EE.mp hf'.1;obtain⟨x,rfl⟩:=Fz.mp (h1 a (by simp));obtain⟨y,rfl⟩:=Fz.mp (h1 b (by simp));show w2 _+JP G=2*(G.length+1);rw[this];show 2+2*G.length=_;lia
def yO (d:Nat->Fin 4->Option Nat)(w:List (Fin 4))(i:Nat):Option Nat×Fin 4:=
 if ((w[i]?).getD 0).val<2 then (FG.walk d 0 (w.take i),(w[i]?).getD 0) else (FG.walk d 0 (w.take (i+1)),iv4 ((w[i]?).getD 0))
theorem kJ{d:Nat->Fin 4->Option Nat}{ws:List (List (Fin 4))}{s:Nat}{a:Fin 4}(ha:a.val<2)(h:FG.Gon iv4 ws d 0 s a):(some s,a)∈ws.flatMap fun w=>(List.range w.length).map (yO d w):=by
 obtain⟨x,b,y,hw,c⟩:=h;refine Gq.mpr ⟨_,hw,Em.mpr ⟨x.length,Es.mpr (by rw[DR,EA];lia),?_⟩⟩;have e1:(x++b::y)[x.length]?=some b:=by rw[Ff (DP _),Nat.sub_self];rfl
 have e2:(x++b::y).take x.length=x:=by rw[List.take_left'];rfl
 have e3:(x++b::y).take (x.length+1)=x++[b]:=by rw[Eo,e1,e2];rfl
 unfold yO;rw[e1,e2,e3];show(if b.val<2 then (FG.walk d 0 x,b) else (FG.walk d 0 (x++[b]),iv4 b))=_;rcases c with ⟨c1,rfl⟩|⟨c1,rfl⟩
 ·rw[Hq ha,c1]
 ·have nb:¬b.val<2:=fun hb=>absurd ha ((by decide:∀b:Fin 4,b.val<2->¬(iv4 b).val<2) b hb);rw[Ho nb,c1]
theorem pz(d:Nat->Fin 4->Option Nat):∀ws:List (List (Fin 4)),(∀w∈ws,w.length<=10)->(ws.flatMap fun w=>(List.range w.length).map (yO d w)).length<=10*ws.length
 |[],_=>DP _
 |w::ws,h=>by
  have:=pz d ws fun w hw=>h w (Eg _ hw);have:=h w (DS ..);rw[GZ,DR,DQ,EG,EA];lia
theorem GOf.small{ws:List (List Nat)}{G:List Row}(hw:Wds ws)(h:GOf (wF ws) G)(hf:cJ G=true):G.length<=40:=by
 obtain⟨d,m,F,hm,rfl⟩:=h;have T:=F.Kh IH;obtain⟨B,R⟩:=F.bis IH T (fi hw) (fi hw) fun _=>Iff.rfl;have P:=FG.Pd.ord (ls:=l4) B R m;have hm':(FG.ord l4 (FG.Kh iv4 (wF ws) d 0) 0 m).length<=m:=by rw[<- P.len];exact hm
 have eG:cGd d m=cGd (FG.Kh iv4 (wF ws) d 0) m:=by
  unfold cGd;rw[FG.KI IH F T (fi hw) (fi hw) (fun _=>Iff.rfl) hm hm']
 rw[eG] at hf ⊢;have four:=Mo (d:=FG.Kh iv4 (wF ws) d 0) (m:=m);generalize hos:FG.ord l4 (FG.Kh iv4 (wF ws) d 0) 0 m=os at hm';have nd:os.Nodup:=by rw[<- hos];exact FG.Jl m
 have way:∀s∈os,∀a:Fin 4,FG.Gon iv4 (wF ws) d 0 s a:=fun s hs a=>by
  obtain⟨i,hi⟩:=FH hs;have hil:=(DU.mp hi).1;have hi2:(FG.ord l4 (FG.Kh iv4 (wF ws) d 0) 0 m)[i]?=some s:=by rw[hos];exact hi
  obtain⟨e,e1,_⟩:=ck four hf (i:=i) (p:=a.val) (by rw[Iu,hos];exact hil) a.isLt;rw[cQ hi2 a] at e1;cases ht:FG.Kh iv4 (wF ws) d 0 s a with
  |none=>rw[ht] at e1;cases e1
  |some t=>exact(FG.JL ht).1
 have key:=List.Nodup.length_le_of_subset (l₁:=os.flatMap fun s=>[(some s,(0:Fin 4)),(some s,(1:Fin 4))]) (l₂:=(wF ws).flatMap fun w=>(List.range w.length).map (yO d w)) ?_ ?_
 ·have l1:∀os:List Nat,(os.flatMap fun s=>[(some s,(0:Fin 4)),(some s,(1:Fin 4))]).length=2*os.length:=fun os=>by
   induction os with
   |nil=>rfl
   |cons s os ih=>rw[GZ,DR,ih,EA];show 2+_=2*(os.length+1);lia
  rw[l1] at key;have l2:=pz d (wF ws) fun w h=>by
   obtain⟨cs,hc,rfl⟩:=Em.mp h;rw[DQ];exact hw.l10 cs hc
  have l3:(wF ws).length=ws.length:=DQ _;have:=hw.n8;rw[Iu,hos];lia
 ·clear way hos hm';induction os with
  |nil=>exact List.Pairwise.nil
  |cons s os ih=>
   obtain⟨n1,n2⟩:=FM.mp nd;rw[GZ];refine Fp.mpr ⟨by simp,ih n2,fun a ha b hb e=>?_⟩;obtain⟨t,ht,hb'⟩:=Gq.mp hb;have:b.1=some t:=by
    simp at hb';rcases hb' with rfl|rfl<;>rfl
   have:a.1=some s:=by
    simp at ha;rcases ha with rfl|rfl<;>rfl
   rename_i q1;rw[e,q1] at this;injection this with this;exact n1 (this▸ht)
 ·intro x hx;obtain⟨s,hs,hx'⟩:=Gq.mp hx;simp at hx';rcases hx' with rfl|rfl
  ·exact kJ (by decide) (way s hs 0)
  ·exact kJ (by decide) (way s hs 1)
theorem fP{g:Addr}{us:List V}{G:List Row}{H:Hp}{σ:L2.St}{js:List Nat}{Q:VK}{p:Nat}{z:Int}(hz:z=((p:Nat):Int))(hG:GrL H g us G)(hf:cJ G=true)(hp:p<4)(q:∀l,H l=none->Q (.ref l) (upd H l (.lst ((cD G p).map V.int)))) :
  ib (Itl K g) 1 js (vw 0) Pe (tOp (rE K) (yR 0) (tC (.int z))) σ H Q:=by
 have ll:=hG.len;refine fH (K:=K) (a:=g) (xs:=us) (fun i ys H'=>H'=H/\ys=((cD G p).take i).map V.int) ⟨rfl,rfl⟩ (fun i ys H' hi z=>by rw[z.2,DQ,Eu];exact Gy _ _) (by rw[ll];exact aJ (Ee hG.few (by decide))) (fun i ys H' hi z=>by rw[z.1];exact SqL.of hG.lst) (fun i x ys H' hx y=>?_) (fun ys H' y l hl=>?_)
 ·obtain⟨rfl,rfl⟩:=y;have hi:i<us.length:=(DU.mp hx).1;obtain⟨r,hr',a,rfl,ha⟩:=dY hG.rows hx;obtain⟨e,e1,e2⟩:=ck hG.four hf (i:=i) (by rw[<- ll];exact hi) hp;have h4:=hG.four r (Ea hr');have hat:=qf h4 hp;rw[gE hr'] at e1;refine⟨_,rfl,a,_,z,_,rfl,rfl,SqT.of ha,(by rw[hz];exact bG hat),Nx.mk hi ⟨rfl,?_⟩⟩;rw[Eo,e2,Ef,e1];rfl
 ·obtain⟨rfl,rfl⟩:=y;rw[ll,<- dN G p,Ez];exact q l hl
theorem zN{c:Nat}(h:isW c):(!(Builtin.Str.occurrences "uv" ⟨#[c]⟩ 0 ("uv":Str).length 1).isEmpty)=decide (place c<2):=by
 rcases h with rfl|rfl|rfl|rfl<;>decide +kernel
theorem uP{G:List Row}(g:isG G=true)(four:∀r∈G,r.length=4)(hf:cJ G=true)(h40:G.length<=40){p:Nat}(hp:p<4):PyData.layable0 (.list ((cD G p).map PyData.int))=true:=by
 have m:=fun x=>(kS g four hf hp x).mp;have e:cD G p=((cD G p).map Int.toNat).map fun n=>((n:Nat):Int):=by
  rw[EL]
  conv=>lhs;rw[<- List.map_id (cD G p)]
  exact FQ fun x hx=>(HV (m x hx).1).symm
 rw[e];refine oO (fun n hn=>?_) (by rw[DQ,dN];lia);obtain⟨x,hx,rfl⟩:=Em.mp hn;have:=m x hx;lia
def OU:Sp:=fun vs H Q _=>∃l us ws,vs=[.ref l]/\H l=some (.lst us)/\Mks H us ws/\Wds ws /\
 (∀G H',Kp H H'->GOf (wF ws) G->cJ G=false->Q .non H') /\
 ∀G a p q H',Kp H H'->GOf (wF ws) G->cJ G=true->H' a=some (.tup [.ref p,.ref q])->H' p=some (.lst ((cD G 0).map V.int))->H' q=some (.lst ((cD G 1).map V.int))->p≠q->Le H p->Le H q->Q (.ref a) H'
theorem xj{dg df d:DD}(AB:(dg "graph_of" 35 ["makers"] dg 6 Mp))(AN:(dg "is_full" 37 ["graph"] df 1 Nu))(D:Def K mg "moves" (top 40) ["makers"] d):(fk 7 d ["makers"] OU):=by
 exists["makers","graph"]
 obtain⟨l,us,ws,rfl,hl,hM,hW,q1,q2⟩:=h;refine⟨_,(ae (aw 1 (bu AB.1 AB.2 (0) aC)) (ae (br (gP (fE (bu AN.1 AN.2 (1) aC))) (aq (aH (bR _))) (HZ _)) (aq (aH (bh (ag (bB (aA (ts:=["ends"]) (cap:=[]) (js:=[]) rfl rfl rfl rfl rfl rfl (by decide +kernel)) (bp (1)) (am 0 (nd ["ends"])) (@aX _) (aN (show IxR _ (rE K) from Il) (0) (ah _))) (aL (bB (aA (ts:=["ends"]) (cap:=[]) (js:=[]) rfl rfl rfl rfl rfl rfl (by decide +kernel)) (bp (1)) (am 0 (nd ["ends"])) (@aX _) (aN (show IxR _ (rE K) from Il) (0) (ah _))) (by rfl)) (by rfl))))))),?_⟩
 walk_at "d"
 refine⟨_,rfl,l,us,ws,rfl,hl,hM,hW,fun g rs G H1 k1 n1 hg hG lg=>?_⟩;refine⟨_,rfl,g,rs,G,rfl,hg,fun H2 S2=>⟨_,rfl,?_⟩⟩;cases hf:cJ G with
 |false=>exact q1 G H2 (k1.trans (Kp.of S2)) hG hf
 |true=>
  have hg2:GrL H2 g rs G:=hg.mono S2;refine⟨_,rfl,g,rfl,⟨_,SqL.of hg2.lst⟩,fP (p:=0) rfl hg2 hf (by decide) fun l1 n1=>?_⟩;have S3:=ao n1 (.lst ((cD G 0).map V.int));have hg3:GrL (upd H2 l1 (.lst ((cD G 0).map V.int))) g rs G:=hg2.mono S3;refine⟨_,rfl,g,rfl,⟨_,SqL.of hg3.lst⟩,fP (p:=1) rfl hg3 hf (by decide) fun l2 n2=>?_⟩;have S4:=ao n2 (.lst ((cD G 1).map V.int));refine⟨(by show 2<=sizeLine;decide),fun a na=>?_⟩;have S5:=ao na (.tup [.ref l1,.ref l2]);have k2:=k1.trans (Kp.of S2);refine q2 G a l1 l2 _ (k2.trans (Kp.of (S3.trans (S4.trans S5)))) hG hf af ((S4.trans S5) _ _ af) (S5 _ _ af) (fun e=>?_) (ye k2 n1) (ye (k2.trans (Kp.of S3)) n2);rw[<- e,af] at n2;cases n2
def ON:Sp:=fun vs H Q _=>∃a p q G cs,vs=[.ref a,.str (txt cs)]/\H a=some (.tup [.ref p,.ref q])/\H p=some (.lst ((cD G 0).map V.int))/\H q=some (.lst ((cD G 1).map V.int))/\isG G=true/\(∀r∈G,r.length=4)/\cJ G=true/\G.length<=40/\(∀c∈cs,isW c)/\cs.length<=10/\∀e,iR G cs=some e->Q (.int e) H
theorem yg{d:DD}(D:Def K mg "_law_walked" (top 56) ["both","text"] d):(fk 1 d ["both","text"] ON):=by
 exists["both","text","state","letter","row"]
 obtain⟨a,p,q,G,cs,rfl,ha,hp,hq,iG,four,hf,h40,hW,hl,qq⟩:=h;have n0:=ym iG;refine⟨_,(ae (aw 2 (ah _)) (ae (bE (gQ (1)) (ar 3) (ae (aw 4 (aN Il (0) (ay Iz (fG PySem.F.plainAttrs_str PySem.F.slot_str_index PySem.F.type_str_index LA (bo _) (aL (3) aC)) (ah _)))) (aq (br (aB LD (3) (bo _) rfl) (aq (aw 2 (aN HY (4) (2)))) (aq (aw 2 (fG HD PySem.F.slot_list_index PySem.F.type_list_index JX (4) (aL (2) aC)))))))) (aq (aH (2))))),?_⟩
 walk_at "d"
 refine⟨_,rfl,txt cs,rfl,iY hW,?_⟩;refine fN (cs:=cs) (fun i σ H'=>H'=H/\∃e e3 e4,iR G (cs.take i)=some e/\σ=[some (.ref a),some (.str (txt cs)),some (.int e),e3,e4]) ⟨rfl,_,_,_,rfl,rfl⟩ (fun i hi σ H' z=>?_) (fun σ H' z=>?_)
 ·obtain⟨rfl,e,e3,e4,he,rfl⟩:=z;have gt:=nY (G:=G) hi;have gin:=lS iG (cs.take i) (some 0) (by unfold inR;simp;exact n0);have hci:=hW _ (Ep hi);have gin':inR G.length (some e)=true:=by rw[<- he];exact gin
  unfold inR at gin';simp only[Ey,decide_eq_true_eq] at gin';have hP:=ja cs[i];obtain⟨t,t1,t2⟩:=ck four hf (i:=e.toNat) (p:=place cs[i]) (by lia) hP;have hgo:iR G (cs.take (i+1))=some t:=by rw[gt,he];exact t1
  obtain⟨rw',r1,r2⟩:∃rw',atI [V.ref p,V.ref q] (((place cs[i]:Nat):Int) % 2)=some (.ref rw')/\H' rw'=some (.lst ((cD G (place cs[i] % 2)).map V.int)):=by
   rcases Nat.mod_two_eq_zero_or_one (place cs[i]) with z|z
   ·exact⟨p,by rw[show(((place cs[i]:Nat):Int) % 2)=0 by lia];rfl,by rw[z];exact hp⟩
   ·exact⟨q,by rw[show(((place cs[i]:Nat):Int) % 2)=1 by lia];rfl,by rw[z];exact hq⟩
  refine⟨_,rfl,rfl,_,rfl,_,_,place cs[i],rfl,rfl,rm hci,_,_,rfl,rfl,(show(0:Int)<2 by decide),?_⟩;refine⟨a,_,_,_,rfl,rfl,SqT.of ha,r1,?_⟩;refine⟨_,rfl,_,_,rfl,rfl,decide (place cs[i]<2),(by rw[zN hci]),?_⟩;by_cases h2:place cs[i]<2
  ·rw[Ht h2];refine⟨_,rfl,_,rfl,rw',_,_,_,rfl,rfl,SqL.of r2,?_,rfl,_,_,_,hgo,rfl⟩;rw[Nat.mod_eq_of_lt h2,<- HV gin'.1];refine bG ?_;rw[DY,t2];rfl
  ·rw[Hu h2];obtain⟨b0,b1,b2,b3⟩:=jf iG hP t1;have em:(place cs[i]+2) % 4=place cs[i] % 2:=by lia
   rw[em,HV gin'.1] at b3;obtain⟨y,y1,y2⟩:=ck four hf (i:=t.toNat) (p:=place cs[i] % 2) (by lia) (by lia);rw[b3] at y1;injection y1 with y1;subst y1;have hix:(cD G (place cs[i] % 2)).idxOf e=t.toNat:=by
    have hm:=Ea y2;have hl2:=FX hm;obtain⟨hi3,e5⟩:=DU.mp y2;exact(FZ (qg iG four hf (by lia)) (h₀:=hl2) (h₁:=hi3)).mp (by rw[GY hl2,e5])
   refine⟨_,rfl,.inl ⟨rfl,_,SqL.of r2⟩,_,rfl,rw',_,e,rfl,rfl,SqL.of r2,uP iG four hf h40 (by lia),Ea y2,?_⟩;rw[hix,HV b1];exact⟨rfl,_,_,_,hgo,rfl⟩
 ·obtain⟨rfl,e,e3,e4,he,rfl⟩:=z;rw[Ez] at he;exact⟨_,rfl,qq e he⟩
theorem yx{H H':Hp}{a:Addr}{xs:List V}(k:Kp H H')(h:SqL K H a xs):SqL K H' a xs:=by
 rcases h with (h|⟨o,h⟩)|h
 ·exact .inl (.inl (k _ _ h fun _ e=>by cases e))
 ·exact .inl (.inr ⟨o,k _ _ h fun _ e=>by cases e⟩)
 ·exact .inr h
structure KD(l:Addr)(H H':Hp):Prop where
 ds:Ds H' l
 kp:Kp (hid l H) (hid l H')
theorem KD.trans{l:Addr}{H H' H2:Hp}(a:KD l H H')(b:KD l H' H2):KD l H H2:=⟨b.ds,a.kp.trans b.kp⟩
theorem KD.dr{l:Addr}{H H':Hp}(d:Dr l H H'):KD l H H':=⟨d.ds,Kp.of d.same⟩
theorem KD.same{l:Addr}{H H':Hp}(d:Ds H l)(S:Ia H H'):KD l H H':=KD.dr (Dr.of_same d S)
theorem KD.of{l:Addr}{H H':Hp}(d:Ds H l)(k:Kp H H'):KD l H H':=by
 obtain⟨a,b,c,e,ok⟩:=d;refine⟨⟨a,b,c,k _ _ e fun _ z=>(by cases z),ok⟩,fun x o h n=>?_⟩;have ne:=fD h;rw[aQ ne] at h ⊢;exact k _ _ h n
theorem KD.lst{l a:Addr}{H H':Hp}{xs:List V}(k:KD l H H')(h:hid l H a=some (.lst xs)):hid l H' a=some (.lst xs):=k.kp _ _ h fun _ z=>by cases z
theorem KD.grl{l g:Addr}{H H':Hp}{us:List V}{G:List Row}(k:KD l H H')(h:GrL (hid l H) g us G):GrL (hid l H') g us G:=
 ⟨k.lst h.lst,Paired.IL h.rows fun v r hq122=>by obtain⟨a,e,q⟩:=hq122;exact⟨a,e,k.kp _ _ q fun _ z=>by cases z⟩,h.four,h.few⟩
theorem KD.mks{l:Addr}{H H':Hp}{ys:List V}{ws:List (List Nat)}(k:KD l H H')(h:Mks (hid l H) ys ws):Mks (hid l H') ys ws:=
 Paired.IL h fun v cs hq123=>by obtain⟨a,e,q⟩:=hq123;exact⟨a,e,k.kp _ _ q fun _ z=>by cases z⟩
theorem nQ{l:Addr}{H H1 H':Hp}(S:Ia H H1)(n:H l=none)(k:KD l H1 H'):Kp H H':=fun a o h nd=>by
 have ne:a≠l:=aU h n;have:=k.kp a o (by rw[aQ ne];exact S _ _ h) nd;rw[aQ ne] at this;exact this
theorem um{H:Hp}{p g:Addr}{us:List V}{G:List Row}(ds:Ds H p)(h:GrL H g us G):GrL (hid p H) g us G:=by
 obtain⟨x,y,z,e2,_⟩:=ds;refine⟨?_,Paired.IL h.rows fun v r ⟨a,e,q⟩=>⟨a,e,?_⟩,h.four,h.few⟩
 ·rw[aQ (fun e3=>by
   have hl:=h.lst;rw[e3,e2] at hl;have eu:[V.int x,.int y,.int z]=us:=by injection hl with hl;injection hl
   have hr:=h.rows;rw[<- eu] at hr;cases hr with
   | cons q _=>obtain⟨_,e4,_⟩:=q; cases e4)]
  exact h.lst
 ·rw[aQ (fun e3=>by rw[e3,e2] at q;cases q)];exact q
theorem wZ{H:Hp}:∀{ys:List V}{ws:List (List Nat)},Mks H ys ws->DatAll K H ys (ws.map fun cs=>(wt cs).dat)
 |_,_,.nil=>.nil
 |_,_,.cons ⟨a,e,h⟩ r=>by subst e;exact .cons (.tup (SqT.of h) (.cons (.int _) (.cons (.int _) (.cons (.int _) (.cons (.int _) .nil))))) (wZ r)
theorem PM:∀ws:List (List Nat),PyData.canLayAll0 (ws.map fun cs=>(wt cs).dat)=true
 |[]=>rfl
 |cs::r=>FI.mpr ⟨rfl,PM r⟩
theorem PF:∀ws:List (List Nat),PyData.depthAll (ws.map fun cs=>(wt cs).dat)<=1
 |[]=>Ec _
 |cs::r=>by
  show max (wt cs).dat.depth (PyData.depthAll (r.map fun cs=>(wt cs).dat))<=1;exact Nat.max_le.mpr ⟨DP _,PF r⟩
theorem Ah(ws:List (List Nat)):(PyData.list (ws.map fun cs=>(wt cs).dat)).depth<=60:=by
 have e:(PyData.list (ws.map fun cs=>(wt cs).dat)).depth=PyData.depthAll (ws.map fun cs=>(wt cs).dat)+1:=by simp[PyData.depth]
 have:=PF ws;lia
theorem bQ{ws:List (List Nat)}{G G':List Row}(hw:Wds ws)(h:GOf (wF ws) G)(k:GOf (wF ws) G'):G'=G:=k.eq h (fi hw) (fi hw) fun _=>Iff.rfl
theorem dS{l:Addr}{H:Hp}{ys:List V}{ws:List (List Nat)}(h:Mks (hid l H) ys ws):Mks H ys ws:=Paired.IL h fun v s h=>h.mono (aE l _)
theorem dW{l:Addr}{H:Hp}{g:Addr}{us:List V}{G:List Row}(h:GrL (hid l H) g us G):GrL H g us G:=h.mono (aE l _)
theorem uD{l b:Addr}{H:Hp}{o:HO}{xs:List V}{ys:List V}{ws:List (List Nat)}(hb:hid l H b=some (.lst xs))(h:Mks (hid l H) ys ws):Mks (hid l (upd H b o)) ys ws:=by
 have nb:=fD hb;rw[cN nb];refine Paired.IL h fun v cs hq124=>?_;obtain⟨a,e,q⟩:=hq124;exact⟨a,e,by rw[au (fun z=>by rw[z,hb] at q;cases q)];exact q⟩
theorem jV{l b a:Addr}{H:Hp}{o:HO}{xs ys:List V}(hb:hid l H b=some (.lst xs))(ne:a≠b)(h:hid l H a=some (.lst ys)):hid l (upd H b o) a=some (.lst ys):=by
 have nb:=fD hb;rw[cN nb,au ne];exact h
theorem xX{l b:Addr}{H:Hp}{o:HO}(nb:b≠l)(d:Ds H l):Ds (upd H b o) l:=by
 obtain⟨x,y,z,e,ok⟩:=d;exact⟨x,y,z,by rw[au (HI nb)];exact e,ok⟩
theorem Lo:bootBuiltins "sorted"=some (.builtin "sorted"):=by decide +kernel
theorem ui{ws:List (List Nat)}(h:Wds ws)(j:Nat)(h1:1<ws.length):Wds (ws.eraseIdx j):=by
 have g:∀cs∈ws.eraseIdx j,cs∈ws:=fun cs hc=>List.mem_of_mem_eraseIdx hc;have l1:(ws.eraseIdx j).length=_:=List.length_eraseIdx;have:=h.n8;refine⟨?_,?_,fun cs hc=>h.w cs (g cs hc),fun cs hc=>h.r cs (g cs hc),fun cs hc=>h.l10 cs (g cs hc)⟩
 ·rw[l1];split<;>lia
 ·rw[l1];split<;>lia
structure Sq(l:Addr)(H1:Hp)(W Mk hd gd:Addr)(ws:List (List Nat))(ys ud:List V)(G:List Row)(H:Hp):Prop where
 kd:KD l H1 H
 w:hid l H W=some (.lst (aR ws))
 m:hid l H Mk=some (.lst ys)
 h:hid l H hd=some (.lst ys)
 ms:Mks (hid l H) ys ws
 due:GrL (hid l H) gd ud G
theorem Sq.go{l:Addr}{H1:Hp}{W Mk hd gd:Addr}{ws:List (List Nat)}{ys ud:List V}{G:List Row}{H H':Hp}(s:Sq l H1 W Mk hd gd ws ys ud G H)(k:KD l H H'):Sq l H1 W Mk hd gd ws ys ud G H':=
 ⟨s.kd.trans k,k.lst s.w,k.lst s.m,k.lst s.h,k.mks s.ms,k.grl s.due⟩
theorem KD.tup{l a:Addr}{H H':Hp}{xs:List V}(k:KD l H H')(h:hid l H a=some (.tup xs)):hid l H' a=some (.tup xs):=k.kp _ _ h fun _ z=>by cases z
structure Kj(H:Hp)(a p q:Addr)(G:List Row):Prop where
 t:H a=some (.tup [.ref p,.ref q])
 p:H p=some (.lst ((cD G 0).map V.int))
 q:H q=some (.lst ((cD G 1).map V.int))
def qU (G:List Row):PyData:=.tuple [.list ((cD G 0).map PyData.int),.list ((cD G 1).map PyData.int)]
theorem Kj.dat{H:Hp}{a p q:Addr}{G:List Row}(c:Kj H a p q G):IY K H (.ref a) (qU G):=.tup (SqT.of c.t) (.cons (.lst (SqL.of c.p) (cy _)) (.cons (.lst (SqL.of c.q) (cy _)) .nil))
theorem dQ(G:List Row):(qU G).canLay0=true:=by
 show PyData.canLayAll0 [.list _,.list _]=true;have h:=fun ns=>fV ns;simp only[PyData.canLayAll0,h];rfl
theorem Js:∀ns:List Int,PyData.depthAll (ns.map PyData.int)=0
 |[]=>rfl
 |n::r=>by
  show max 0 (PyData.depthAll (r.map PyData.int))=0;rw[Js r];rfl
theorem uh(ns:List Int):(PyData.list (ns.map PyData.int)).depth<=60:=by
 have e:(PyData.list (ns.map PyData.int)).depth=PyData.depthAll (ns.map PyData.int)+1:=by simp[PyData.depth]
 rw[e,Js];decide
theorem jI(G:List Row):(qU G).depth<=60:=by
 have e:∀ns:List Int,(PyData.list (ns.map PyData.int)).depth=1:=fun ns=>by
  have e:(PyData.list (ns.map PyData.int)).depth=PyData.depthAll (ns.map PyData.int)+1:=by simp[PyData.depth]
  rw[e,Js]
 have e2:(qU G).depth=PyData.depthAll [.list ((cD G 0).map PyData.int),.list ((cD G 1).map PyData.int)]+1:=by unfold qU;simp[PyData.depth]
 rw[e2];show max _ (max _ 0)+1<=60;rw[e,e];decide
theorem Kj.go{l:Addr}{H H':Hp}{a p q:Addr}{G:List Row}(c:Kj (hid l H) a p q G)(k:KD l H H'):Kj (hid l H') a p q G:=⟨k.tup c.t,k.lst c.p,k.lst c.q⟩
theorem Kj.le{l:Addr}{H:Hp}{a p q:Addr}{G:List Row}(c:Kj (hid l H) a p q G):Kj H a p q G:=⟨aE l _ _ _ c.t,aE l _ _ _ c.p,aE l _ _ _ c.q⟩
theorem lM{d:PyData}(h:d.canLay0=true):V.bl (if true=true then !PyData.eqv d d else PyData.eqv d d)=V.bl false:=by
 show V.bl (!PyData.eqv _ _)=_;rw[SeqAt.eqv_refl _ h];rfl
theorem gy(ws:List (List Nat)):(PyData.list (ws.map fun cs=>(wt cs).dat)).canLay0=true:=PM ws
theorem tN{α β:Type}(f:α->β):∀(l:List α)(i:Nat),(l.map f).eraseIdx i=(l.eraseIdx i).map f
 |[],_=>rfl
 |_::_,0=>rfl
 |a::l,i+1=>congrArg (f a::·) (tN f l i)
theorem wb(n:Nat):((List.range n).map fun i=>V.int ((i:Nat):Int))=(qz n).map V.int:=by
 unfold qz;rw[EL];rfl
theorem Kj.put{l b:Addr}{H:Hp}{o:HO}{xs:List V}{a p q:Addr}{G:List Row}(hb:hid l H b=some (.lst xs))(n1:p≠b)(n2:q≠b)(c:Kj (hid l H) a p q G):Kj (hid l (upd H b o)) a p q G:=by
 refine⟨?_,jV hb n1 c.p,jV hb n2 c.q⟩;have nb:=fD hb;have:=c.t;rw[cN nb,au (fun z=>by rw[z,hb] at this;cases this)];exact this
end
set_option hygiene false in
local macro_rules | `(tactic| walk_at "c")=>`(tactic| ((try with_reducible refine zX fun Dq hD Rq hR=>?_); walk_at "e"))
set_option hygiene false in
local macro_rules | `(tactic| walk_at "e")=>`(tactic| ((repeat refine yc (R:=Rq) hR fun Rq hR=>?_); (try refine xR (R:=Rq) hR ?_); (try (first | refine xf (D':=Dq) hD ?_ | refine yr (D':=Dq) hD ?_))))
section
variable {P:Program}{w:World}{K:PySem.W.Frag}{mg:Str->Option Value}{base:Heap}
theorem T4o.hid{H:Hp}{p:Addr}{v:V}{t:Tb}(ds:Ds H p)(h:T4o H v t):T4o (hid p H) v t:=by
 obtain⟨a,rfl,e⟩:=h;refine⟨a,rfl,?_⟩;obtain⟨x,y,z,e2,_⟩:=ds;rw[aQ (fun q=>by rw[q,e2] at e;cases e)];exact e
structure PQ where
 draws:DD
 draw:DD
 wmk:DD
 fmk:DD
 ofl:DD
 gr:DD
 Po:DD
 wlk:DD
 mvs:DD
 rnk:DD
 idx:DD
structure All(P:Program)(w:World)(K:W.Frag)(mg:Str->Option Value)(base:Heap)(d:PQ):Prop where
 AC:Def K mg "_law_draws" (top 42) ["script","k"] d.draws
 Am:Def K mg "_law_draw" (top 43) ["draws","many"] d.draw
 BP:Def K mg "_law_wide_makers" (top 51) ["draws","most"] d.wmk
 Bx:Def K mg "_law_full_makers" (top 49) ["draws"] d.fmk
 BJ:Def K mg "_law_of_letters" (top 54) ["word"] d.ofl
 Ny:Def K mg "_law_graph" (top 48) ["ways"] d.gr
 Be:Def K mg "_law_ways" (top 55) ["words"] d.Po
 BO:Def K mg "_law_walked" (top 56) ["both","text"] d.wlk
 Bk:Def K mg "moves" (top 40) ["makers"] d.mvs
 BN:Def K mg "rank" (top 36) ["makers"] d.rnk
 Bj:Def K mg "index" (top 38) ["makers"] d.idx
 AQ:(fk 1 d.draws ["script","k"] (pF K))
 An:(fk 1 d.draw ["draws","many"] JR)
 Cu:(fk 4 d.wmk ["draws","most"] OZ)
 BZ:(fk 4 d.fmk ["draws"] Ob)
 Cn:(fk 3 d.ofl ["word"] (xi K))
 NO:(fk 1 d.gr ["ways"] Py)
 Bn:(fk 2 d.Po ["words"] Mq)
 Ct:(fk 1 d.wlk ["both","text"] ON)
 BV:(fk 7 d.mvs ["makers"] OU)
 Cs:(fk 7 d.rnk ["makers"] OS)
 BU:(fk 7 d.idx ["makers"] OB)
 Ai:mg "range"=none
 AI:mg "max"=none
 Az:mg "min"=none
 Aj:mg "len"=none
 Ak:mg "isinstance"=none
 Ao:mg "list"=none
 Ap:mg "tuple"=none
 AJ:mg "sorted"=none
theorem MV:HX ["script","k","draws","words","makers","handed","graph","full","found","due","some"] ["script"] (av (top 57)):=by walk_at "s"
theorem jb(m:Int)(h:0<=m):-(2^62)<=(if (if m<10 then m else 10)>1 then (if m<10 then m else 10) else 1)/\(if (if m<10 then m else 10)>1 then (if m<10 then m else 10) else 1)<2^62/\(if (if m<10 then m else 10)>1 then (if m<10 then m else 10) else 1).toNat<=10:=by
 split<;>split<;>lia
def rL (K:W.Frag):Sp:=fun vs H Q _=>∃(a:Addr)(ns:List Int),vs=[.ref a]/\SqL K H a (ns.map V.int)/\ns.length<=63/\∀H',Q (.bl true) H'
theorem xb{d:DD}{D:PQ}(A:All P w K mg base D)(DL:Def K mg "law" (top 57) ["script"] d):(fk 8 d ["script"] (rL K)):=by
 refine DL.fn.ok MV (fun vs H Q E h=>?_) (fun cdv Ar outer s H vs Q E hr h=>?_)
 ·obtain⟨a,ns,rfl,_⟩:=h;rfl
 obtain⟨a,ns,rfl,hS,h63,q⟩:=h;have hc:=hr.calm;have nd:=MV.nd;refine⟨_,(ae (bE (bA A.Ai (aL (aS (jh hc) A.AI LR (ag (ah _) (aL (aS (gi hc) A.Az Lb (ag (ah _) (aL (aP HW A.Aj (0) aC) dv) bI)) dv) bI)) dv)) (ar 1) (ae (aw 2 (bz A.AC A.AQ (ag (0) (aL (1) aC) aC))) (ae (aw 3 (bu A.Bx A.BZ (2) aC)) (ae (fZ (br (aB IX (bz A.Am A.An (ag (2) (aL (ah _) bI) aC)) (ah _) (aD _)) (aq (aw 3 (bz A.BP A.Cu (ag (2) (aL (ah _) bI) aC)))) (HZ _))) (ae (fZ (br (@PW.pt _ _ _ (fF (aB IX (bz A.Am A.An (ag (2) (aL (ah _) bI) aC)) (ah _) (aD _)) (cZ (aB JW (aP HW A.Aj (3) aC) (ah _) (aD _))))) (aq (aV (fG HD PySem.F.slot_list_pop PySem.F.type_list_pop Mn (3) (aL (bz A.Am A.An (ag (2) (aL (aP HW A.Aj (3) aC) dv) aC)) dv)))) (HZ _))) (ae (jT 4 (aA (ts:=["word"]) (cap:=[]) (js:=[]) rfl rfl rfl rfl rfl rfl (by decide +kernel)) (bp (3)) (am 0 (nd ["word"])) (@aX _) (bu A.BJ A.Cn (0) aC)) (ae (aw 5 (bS IM A.Ao Jk (aL (4) aC))) (ae (aw 6 (bu A.Ny A.NO (bu A.Be A.Bn (3) aC) dv)) (ae (aw 7 (cu (yn hr.units) (bB (aA (ts:=["row"]) (cap:=[]) (js:=[]) rfl rfl rfl rfl rfl rfl (by decide +kernel)) (bp (6)) (am 0 (nd ["row"])) (@kn _ _ _ (aB (show OpR _ _ (rIn K false) from Kg) (bR _) (0) rfl)) (0)) (aY (Ii _)) (aD _))) (ae (ac 8 (bu A.Bk A.BV (5) aC)) (ae (br (@PW.pt _ _ _ (ke (aB Jp (cu Jj (8) (bR _) (aD _)) (7) (aD _)) (gB (aB (fY hr.units) (5) (4) (aD _))))) (aq (aH (iW _))) (HZ _)) (ae (br (aB Jp (cu Jj (bu A.Bj A.BU (5) aC) (bR _) (aD _)) (7) (aD _)) (aq (aH (iW _))) (HZ _)) (aq (br (fE (7)) (ae (aw 9 (bh (ag (bB (aA (ts:=["row"]) (cap:=[]) (js:=[]) rfl rfl rfl rfl rfl rfl (by decide +kernel)) (bp (6)) (am 0 (nd ["row"])) (@aX _) (aN (show IxR _ (rE K) from Il) (0) (ah _))) (aL (bB (aA (ts:=["row"]) (cap:=[]) (js:=[]) rfl rfl rfl rfl rfl rfl (by decide +kernel)) (bp (6)) (am 0 (nd ["row"])) (@aX _) (aN (show IxR _ (rE K) from Il) (0) (ah _))) (by rfl)) (by rfl)))) (ae (br (@PW.pt _ _ _ (ke (gP (fE (aS IW A.Ak Io (ag (8) (aL (fm (.ty "tuple") A.Ap Jf) aC) aC)))) (gB (aB (fY hr.units) (8) (9) (aD _))))) (aq (aH (iW _))) (HZ _)) (ae (br (@PW.pt _ _ _ (ke (aB Jp (bu A.Bj A.BU (5) aC) (aP HW A.Aj (aN Il (8) (ah _)) (by rfl)) (aD _)) (gB (aB Jp (bu A.BN A.Cs (5) aC) (ay Ij (aP HW A.Aj (aN Il (8) (ah _)) (by rfl)) (ah _)) (aD _))))) (aq (aH (iW _))) (HZ _)) (ae (bE (@kY _ _ _ _ (8)) (ar 10) (aq (br (@PW.pt _ _ _ (ke (gP (fE (aS IW A.Ak Io (ag (10) (aL (fm (.ty "list") A.Ao Jk) aC) aC)))) (gB (aB (fY hr.units) (aS Lj A.AJ Lo (aL (10) aC)) (du A.Ao A.Ai (aL (aP HW A.Aj (6) aC) dv)) (aD _))))) (aq (aH (iW _))) (HZ _)))) (ae (br (aB (fY hr.units) (bB (aA (ts:=["word"]) (cap:=["found"]) (js:=[8]) rfl rfl rfl rfl rfl rfl (by decide +kernel)) (bp (3)) (am 0 (nd ["word","found"])) (@kn _ _ _ (aB Jp (bz A.BO A.Ct (ag (1) (aL (0) aC) aC)) (ah _) (aD _))) (0)) (aY (Ii _)) (aD _)) (aq (aH (iW _))) (HZ _)) (ae (aV (cE (aN Il (8) (ah _)) (ah _) bI)) (aq (br (aB (fY hr.units) (bu A.Bk A.BV (5) aC) (9) (aD _)) (aq (aH (iW _))) (HZ _))))))))) (HZ _))))))))))))))) (aq (aH (iW _)))),?_⟩
 walk_at "d"
 have hl:(ns.map V.int).length=ns.length:=DQ _
 walk_at "c"
 refine⟨_,rfl,a,_,rfl,.inl hS,_,_,rfl,_,_,rfl,_,rfl,(jb _ (HN _)).1,(jb _ (HN _)).2.1,?_⟩;have j16:=(jb (((ns.map V.int).length:Nat):Int) (HN _)).2.2
 walk_at "c"
 refine bH (lo:=0) (n:=_) (fun i σ H'=>∃x1 x2 x3 x4 x5 x6 x7 x8 x9 x10,σ=[some (.ref a),x1,x2,x3,x4,x5,x6,x7,x8,x9,x10]/\Kp H H') ⟨none,none,none,none,none,none,none,none,none,none,rfl,Kp.refl H⟩ (fun i σ Hi hi z=>?_) (fun σ H' z=>?_)
 rotate_left
 ·obtain⟨x1,x2,x3,x4,x5,x6,x7,x8,x9,x10,rfl,S⟩:=z
  walk_at "c"
  exact q H'
 obtain⟨x1,x2,x3,x4,x5,x6,x7,x8,x9,x10,rfl,S⟩:=z;have hi':i<10:=DT hi j16
 walk_at "c"
 refine⟨_,rfl,_,rfl,a,ns,0+(i:Int),rfl,yx S hS,by lia,by lia,fun l H1 S1 nl ds=>?_⟩
 walk_at "c"
 refine⟨_,rfl,l,rfl,ds,fun W0 ws0 H2 dr2 nW0 gW0 hw0=>?_⟩;have nep:∀{H':Hp}{a:Addr},Ds H' l->H' a=none->a≠l:=fun {H' a} d n=>HI (d.ne n);have back:∀{H' H'':Hp}{b:Addr},Dr l H' H''->H'' b=none->H' b=none:=fun {H' H'' b} d n=>by
  cases z:H' b with
  |none=>rfl
  |some o=>
   have ne:=nep d.ds n;have:=d.same b o (by rw[aQ ne];exact z);rw[aQ ne,n] at this;cases this
 walk_at "c"
 refine⟨fun σ' H'=>∃W ws,σ'=[some (.ref a),some (.int (0+(i:Int))),some (.ref l),some (.ref W),x4,x5,x6,x7,x8,x9,x10]/\Dr l H1 H'/\H1 W=none/\hid l H' W=some (.lst (aR ws))/\Wds ws,?_,?_⟩
 ·walk_at "c"
  refine⟨_,rfl,l,4,rfl,dr2.ds,by decide,by decide,fun r H3 a0 a1 dr3=>?_⟩
  walk_at "c"
  refine⟨rfl,decide (V.int r=V.int 0),rfl,?_⟩;cases hb:decide (V.int r=V.int 0) with
  |true=>
   walk_at "c"
   refine⟨_,rfl,l,10,rfl,by decide,by decide,dr3.ds,fun W ws H4 dr4 nW gW hw=>?_⟩
   walk_at "c"
   exact⟨W,ws,rfl,dr2.trans (dr3.trans dr4),back (dr2.trans dr3) nW,gW,hw⟩
  |false=>
   walk_at "c"
   exact⟨W0,ws0,rfl,dr2.trans dr3,nW0,dr3.same _ _ gW0,hw0⟩
 rintro _ H3 ⟨W,ws1,rfl,D3,nW,gW3,hw1⟩;have neW:W≠l:=fun z=>by
  obtain⟨p1,p2,p3,e,_⟩:=ds;rw[z,e] at nW;cases nW
 walk_at "c"
 refine⟨fun σ' H'=>∃ws,σ'=[some (.ref a),some (.int (0+(i:Int))),some (.ref l),some (.ref W),x4,x5,x6,x7,x8,x9,x10]/\Dr l H1 H'/\hid l H' W=some (.lst (aR ws))/\Wds ws,?_,?_⟩
 ·walk_at "c"
  refine⟨_,rfl,l,4,rfl,D3.ds,by decide,by decide,fun r H4 a0 a1 dr4=>?_⟩
  walk_at "c"
  refine⟨rfl,decide (V.int r=V.int 0),rfl,?_⟩;have gW4:=dr4.same _ _ gW3;cases hb:decide (V.int r=V.int 0) with
  |true=>
   have tl:(aR ws1).length=ws1.length:=DQ _;have w1:=hw1.n1;have w8:=hw1.n8
   walk_at "c"
   refine⟨_,rfl,W,_,rfl,.inl (SqL.of (aE l _ _ _ gW4)),_,_,rfl,rfl,_,rfl,?_⟩;rw[tl];by_cases h1:(1:Int)<((ws1.length:Nat):Int)
   ·rw[Ht h1]
    walk_at "c"
    refine⟨_,rfl,.inl ⟨rfl,_,SqL.of (aE l _ _ _ gW4)⟩,_,rfl,_,rfl,W,_,rfl,.inl (SqL.of (aE l _ _ _ gW4)),l,_,rfl,dr4.ds,by rw[tl];lia,by rw[tl];lia,fun o1 H5 c0 c1 dr5=>?_⟩;rw[tl] at c1;obtain⟨n1,rfl⟩:∃n:Nat,o1=(n:Int):=⟨o1.toNat,by lia⟩
    have gW5:=dr5.same _ _ gW4;have hn1:n1<ws1.length:=by lia
    have eix:seqIndex? ((n1:Nat):Int) (aR ws1).length=some n1:=by
     have:=PySem.StrLaws.seqIndex_nonneg (i:=((n1:Nat):Int)) (n:=(aR ws1).length) (HN _) (by rw[tl];lia);rw[EC] at this;exact this
    walk_at "c"
    refine⟨W,_,_,n1,_,rfl,rfl,aE l _ _ _ gW5,by lia,by lia,eix,(DW (by rw[tl];exact hn1)),?_⟩;have es:(aR ws1).eraseIdx n1=aR (ws1.eraseIdx n1):=tN _ _ _;rw[es]
    walk_at "c"
    exact⟨ws1.eraseIdx n1,rfl,Dr.put (D3.trans (dr4.trans dr5)) nW neW _,gx neW _,ui hw1 n1 (by lia)⟩
   ·rw[Hu h1]
    walk_at "c"
    exact⟨ws1,rfl,D3.trans dr4,gW4,hw1⟩
  |false=>
   walk_at "c"
   exact⟨ws1,rfl,D3.trans dr4,gW4,hw1⟩
 rintro _ H4 ⟨ws,rfl,D4,gW4,hw⟩;clear hw1 gW3 hw0 gW0 dr2 D3 nW0;have tl:(aR ws).length=ws.length:=DQ _;have w8:=hw.n8;have w1:=hw.n1
 walk_at "c"
 refine⟨_,rfl,W,rfl,⟨_,SqL.of (aE l _ _ _ gW4)⟩,?_⟩
 walk_at "c"
 refine fH (K:=K) (a:=W) (xs:=aR ws) (fun i ys H'=>Dr l H1 H'/\hid l H' W=some (.lst (aR ws))/\Mks (hid l H') ys (ws.take i)) ⟨D4,gW4,.nil⟩ (fun i ys H' hi z=>by rw[aT z.2.2,Eu];lia) (aJ (by lia)) (fun i ys H' hi z=>SqL.of (aE l _ _ _ z.2.1)) (fun i v ys H' hv z=>?_) (fun ys H' z Mk nM=>?_)
 ·obtain⟨z1,z2,z3⟩:=z;rw[DY] at hv;obtain⟨cs,hcs,rfl⟩:=EB.mp hv;have hi:i<ws.length:=(DU.mp hcs).1;have mcs:=Ea hcs
  walk_at "c"
  refine⟨_,rfl,txt cs,rfl,(by have:=hw.l10 cs mcs;show cs.toArray.size<=1000;rw[Ed];lia),(fun c hc=>(hw.w cs mcs c hc).lt),fun r H4 S4 h4=>Nx.mk (by lia) ⟨z1.trans (Dr.of_same z1.ds S4),S4.hid _ _ z2,?_⟩⟩;rw[Eo,hcs]
  walk_at "c"
  refine bt (Paired.IL z3 fun v s h=>h.mono S4.hid) ?_;have h5:T4o H4 r (wt cs):=by rw[<- lZ];exact h4
  walk_at "c"
  exact T4o.hid (Dr.of_same z1.ds S4).ds h5
 obtain⟨z1,z2,z3⟩:=z;rw[tl,Ez] at z3;have DM:=Dr.new z1.ds nM (.lst ys);have gM5:=cF z1.ds nM (.lst ys);have D5:=z1.trans DM;have gW5:=DM.same _ _ z2;have mk5:Mks (hid l (upd H' Mk (.lst ys))) ys ws:=Paired.IL z3 fun v s h=>h.mono DM.same;have yl:ys.length=ws.length:=aT z3;generalize upd H' Mk (.lst ys)=H5 at gM5 D5 gW5 mk5 ⊢;clear z1 z2 z3 DM nM gW4 D4
 walk_at "c"
 refine⟨_,rfl,Mk,ys,rfl,.inl (SqL.of (aE l _ _ _ gM5)),fun hd nhd=>?_⟩;have Dh:=Dr.new D5.ds nhd (.lst ys);have gH6:=cF D5.ds nhd (.lst ys);have gM6:=Dh.same _ _ gM5;have gW6:=Dh.same _ _ gW5;have mk6:Mks (hid l (upd H5 hd (.lst ys))) ys ws:=Paired.IL mk5 fun v s h=>h.mono Dh.same;have D6:=D5.trans Dh;generalize upd H5 hd (.lst ys)=H6 at gH6 gM6 gW6 mk6 D6 ⊢;clear Dh nhd gM5 gW5 mk5 D5
 walk_at "c"
 refine⟨_,rfl,W,ws,rfl,aE l _ _ _ gW6,by lia,hw.w,hw.l10,fun Da ka He Se gDa hka hFo=>?_⟩
 walk_at "c"
 refine⟨Da,ka,rfl,gDa,hka,fun gd ud m Hf Sf ngd hm h100 hGd=>?_⟩;have df:=Dr.of_same D6.ds (Se.trans Sf);have hGd7:GrL (hid l Hf) gd ud (cGd (dK ka) m):=um df.ds hGd;have GO:GOf (wF ws) (cGd (dK ka) m):=⟨dK ka,m,hFo,hm,rfl⟩
 have gH7:=df.same _ _ gH6;have gM7:=df.same _ _ gM6;have gW7:=df.same _ _ gW6;have mk7:Mks (hid l Hf) ys ws:=Paired.IL mk6 fun v s h=>h.mono df.same;have D7:=D6.trans df;have lG:(cGd (dK ka) m).length<=100:=by rw[Iu];exact h100
 generalize cGd (dK ka) m=G at hGd7 GO hGd lG;have KK:=KD.dr D7;clear hGd df gH6 gM6 gW6 mk6 D6 hFo hka gDa Se Sf D7;have iG:=GO.isG;have s7:Sq l H1 W Mk hd gd ws ys ud G Hf:=⟨KK,gW7,gM7,gH7,mk7,hGd7⟩
 clear KK gW7 gM7 gH7 mk7 hGd7;have ll:=(dW s7.due).len
 walk_at "c"
 refine⟨_,rfl,gd,rfl,⟨_,SqL.of (dW s7.due).lst⟩,?_⟩
 walk_at "c"
 refine fH (K:=K) (a:=gd) (xs:=ud) (fun i ys H'=>H'=Hf/\∃Gs,Paired (gf H') ys Gs/\Gs.length<=i/\Gs.isEmpty=(G.take i).all fun r=>r.all fun o=>o.isSome) ⟨rfl,[],.nil,DP _,rfl⟩ (fun i ys H' hi z=>by obtain⟨_,Gs,h1,h2,_⟩:=z;rw[aT h1];exact h2) (by rw[ll];exact aJ (Ee lG (by decide))) (fun i ys H' hi z=>by rw[z.1];exact SqL.of (dW s7.due).lst) (fun i x ys H' hx z=>?_) (fun ys3 H3' z L0 nL0=>?_)
 ·obtain⟨rfl,Gs,h1,h2,h3⟩:=z;have hi:i<ud.length:=(DU.mp hx).1;obtain⟨r,hr',b,rfl,hb⟩:=dY (dW s7.due).rows hx;have et:(G.take (i+1)).all (fun r=>r.all fun o=>o.isSome)=((G.take i).all (fun r=>r.all fun o=>o.isSome)&&r.all fun o=>o.isSome):=by
   rw[Eo,hr',List.all_append];show(_&&((r.all fun o=>o.isSome)&&true))=_;rw[Bool.and_true]
  walk_at "c"
  refine⟨_,rfl,b,_,rfl,.inr (SqT.of hb),rfl,lh r,!(r.all fun o=>o.isSome),(by rw[<- Ks];rfl),?_⟩;cases hb':r.all fun o=>o.isSome with
  |true=>
   walk_at "c"
   refine Eq.mpr (Ho (c:=(!true)=true) (by decide)) ?_
   walk_at "c"
   exact Nx.mk hi ⟨rfl,Gs,h1,by lia,by rw[et,hb',Bool.and_true];exact h3⟩
  |false=>
   walk_at "c"
   refine⟨_,rfl,?_⟩
   walk_at "c"
   exact Nx.mk hi ⟨rfl,Gs++[r],bt h1 ⟨b,rfl,hb⟩,by rw[DR];show Gs.length+1<=_;lia,by rw[et,hb',GL];cases Gs<;>rfl⟩
 obtain⟨rfl,Gs,h1,h2,h3⟩:=z;rw[ll,Ez] at h3
 walk_at "c"
 refine⟨Ec _,fun e ne=>?_⟩;have U2:=ao nL0 (.lst ys3);have U3:=ao ne (.lst []);have h1':Paired (gf (upd (upd H3' L0 (.lst ys3)) e (.lst []))) ys3 Gs:=Paired.IL h1 fun v r hq125=>by obtain⟨a,e,q⟩:=hq125;exact⟨a,e,(U2.trans U3) _ _ q⟩
 walk_at "c"
 refine⟨grd Gs,.list [],.lst (SqL.of (U3 _ _ af)) (lU h1'),.lst (SqL.of af) .nil,LW Gs,rfl,pR Gs,?_⟩;have ef:PyData.eqv (grd Gs) (.list [])=cJ G:=by rw[Nw];exact h3
 have e7:V.bl (if false=true then !PyData.eqv (grd Gs) (.list []) else PyData.eqv (grd Gs) (.list []))=V.bl (cJ G):=congrArg V.bl ef;rw[e7];have s8:=s7.go (KD.same s7.kd.ds (U2.trans U3));generalize upd (upd H3' L0 (.lst ys3)) e (.lst [])=H8 at s8 ⊢;clear U2 U3 h1' h1 h2 h3 e7 ef s7 ne nL0;have e2:V.bl (if true=true then !PyData.eqv (.list (ws.map fun cs=>(wt cs).dat)) (.list (ws.map fun cs=>(wt cs).dat)) else PyData.eqv (.list (ws.map fun cs=>(wt cs).dat)) (.list (ws.map fun cs=>(wt cs).dat)))=V.bl false:=lM (gy ws)
 walk_at "c"
 refine⟨_,rfl,hd,ys,ws,rfl,aE l _ _ _ s8.h,dS s8.ms,hw,fun Gf H9 k9 GO9 hf=>?_,fun Gf aa p q H9 k9 GO9 hf h1 h2 h3 npq nDp nDq=>?_⟩
 ·have eG:=bQ hw GO GO9;subst eG;have s9:=s8.go (KD.of s8.kd.ds k9);rw[hf]
  walk_at "c"
  refine⟨_,rfl,rfl,_,rfl,rfl,false,rfl,?_⟩
  walk_at "c"
  refine⟨_,rfl,_,rfl,_,_,.lst (SqL.of (aE l _ _ _ s9.h)) (wZ (dS s9.ms)),.lst (SqL.of (aE l _ _ _ s9.m)) (wZ (dS s9.ms)),gy ws,gy ws,Ah ws,false,e2,?_⟩
  walk_at "c"
  refine⟨_,rfl,hd,ys,ws,rfl,aE l _ _ _ s9.h,dS s9.ms,hw,fun Gb Hb kb GOb=>?_⟩;have eG:=bQ hw GO9 GOb;subst eG;have sb:=s9.go (KD.of s9.kd.ds kb);rw[hf,Ho (by decide)]
  walk_at "c"
  refine⟨rfl,_,rfl,rfl,false,rfl,?_⟩
  walk_at "c"
  refine⟨_,rfl,false,rfl,?_⟩
  walk_at "c"
  exact⟨_,_,_,_,_,_,_,_,_,_,rfl,S.trans (nQ S1 nl sb.kd)⟩
 have eG:=bQ hw GO GO9;subst eG;have K9:=KD.of s8.kd.ds k9;have s9:=s8.go K9;have nDl:∀{b:Addr},Le H8 b->b≠l:=fun {b} n z=>by
  obtain⟨p1,p2,p3,e,_⟩:=s8.kd.ds;rw[z] at n;obtain⟨kvs,e2⟩:=n _ e;cases e2
 have npl:=nDl nDp;have nql:=nDl nDq;have nal:aa≠l:=fun z=>by
  obtain⟨p1,p2,p3,e,_⟩:=s9.kd.ds;rw[z,e] at h1;cases h1
 have c9:Kj (hid l H9) aa p q Gf:=⟨by rw[aQ nal];exact h1,by rw[aQ npl];exact h2,by rw[aQ nql];exact h3⟩
 have nf8:∀{b:Addr}{o:HO},hid l H8 b=some o->(∀kvs,o≠.dK kvs)->b≠p:=fun {b o} h n z=>by
  rw[z] at h;obtain⟨kvs,e⟩:=nDp o (aE l _ _ _ h)
  walk_at "c"
  exact n kvs e
 have nHp:hd≠p:=nf8 s8.h fun _ z=>by cases z
 have nd1:Le (hid l H1) p:=Le.back s8.kd.kp fun o h=>nDp o (aE l _ _ _ h);clear s8 nDl nf8 nDp nDq h1 h2 h3 k9 K9;have h40:=GO.small hw hf;have four:=(dW s9.due).four;rw[hf]
 walk_at "c"
 refine⟨_,rfl,rfl,_,rfl,rfl,false,rfl,?_⟩
 walk_at "c"
 refine⟨_,rfl,_,rfl,_,_,.lst (SqL.of (aE l _ _ _ s9.h)) (wZ (dS s9.ms)),.lst (SqL.of (aE l _ _ _ s9.m)) (wZ (dS s9.ms)),gy ws,gy ws,Ah ws,false,e2,?_⟩
 walk_at "c"
 refine⟨_,rfl,hd,ys,ws,rfl,aE l _ _ _ s9.h,dS s9.ms,hw,fun Gb Hb kb GOb=>?_⟩;have eG:=bQ hw GO9 GOb;subst eG;have kb':=KD.of s9.kd.ds kb;have sb:=s9.go kb';have cb:=c9.go kb';clear c9 s9;rw[hf,Hq rfl]
 walk_at "c"
 refine⟨rfl,_,rfl,rfl,false,rfl,?_⟩
 walk_at "c"
 refine⟨_,rfl,true,rfl,?_⟩
 walk_at "c"
 refine⟨_,rfl,gd,rfl,⟨_,SqL.of (dW sb.due).lst⟩,fP (p:=0) rfl (dW sb.due) hf (by decide) fun pd npd=>?_⟩;have S3:=ao npd (.lst ((cD Gb 0).map V.int));have hg3:=(dW sb.due).mono S3
 walk_at "c"
 refine⟨_,rfl,gd,rfl,⟨_,SqL.of hg3.lst⟩,fP (p:=1) rfl hg3 hf (by decide) fun qd nqd=>?_⟩;have S4:=ao nqd (.lst ((cD Gb 1).map V.int))
 walk_at "c"
 refine⟨(by show 2<=sizeLine;decide),fun dd ndd=>?_⟩;have S5:=ao ndd (.tup [.ref pd,.ref qd]);have S35:=S3.trans (S4.trans S5);have kc:=KD.same sb.kd.ds S35;have sc:=sb.go kc;have cc:=cb.go kc;have nep':∀{H':Hp}{b:Addr},Ds H' l->H' b=none->b≠l:=fun d n=>HI (d.ne n);have d3:=(KD.same sb.kd.ds S3).ds;have d4:=(KD.same sb.kd.ds (S3.trans S4)).ds;have cd:Kj (hid l (upd (upd (upd Hb pd (.lst ((cD Gb 0).map V.int))) qd (.lst ((cD Gb 1).map V.int))) dd (.tup [.ref pd,.ref qd]))) dd pd qd Gb:=⟨by rw[aQ (nep' d4 ndd)];exact af,by rw[aQ (nep' sb.kd.ds npd)];exact(S4.trans S5) _ _ af,by rw[aQ (nep' d3 nqd)];exact S5 _ _ af⟩
 have np1:pd≠p:=fun z=>by rw[z,aE l _ _ _ cb.p] at npd;cases npd
 have np2:qd≠p:=fun z=>by rw[z,S3 _ _ (aE l _ _ _ cb.p)] at nqd;cases nqd
 generalize upd (upd (upd Hb pd (.lst ((cD Gb 0).map V.int))) qd (.lst ((cD Gb 1).map V.int))) dd (.tup [.ref pd,.ref qd])=Hc at sc cc cd ⊢;clear S3 S4 S5 S35 hg3 npd nqd ndd sb cb d3 d4 kc kb' kb GOb
 walk_at "c"
 refine⟨_,rfl,.ref aa,.ty "tuple",_,_,true,rfl,rfl,.tup cc.le.t,rfl,true,rfl,?_⟩
 walk_at "c"
 refine⟨_,rfl,_,rfl,qU Gb,qU Gb,cc.le.dat,cd.le.dat,dQ Gb,dQ Gb,jI Gb,false,lM (dQ Gb),?_⟩;have lc:((cD Gb 0).map V.int).length=Gb.length:=by rw[DQ,dN]
 walk_at "c"
 refine⟨_,rfl,hd,ys,ws,rfl,aE l _ _ _ sc.h,dS sc.ms,hw,fun Ga Ha ka GOa=>?_⟩;have eG:=bQ hw GO9 GOa;subst eG;have kd':=KD.of sc.kd.ds ka;have sd:=sc.go kd';have ce:=cc.go kd';have cf:=cd.go kd';clear sc cc cd kd' ka GOa;rw[hf,Hq rfl]
 walk_at "c"
 refine⟨_,rfl,aa,_,0,_,rfl,rfl,SqT.of ce.le.t,rfl,p,_,rfl,.inl (SqL.of ce.le.p),rfl,false,(by rw[lc];show V.bl (!decide _)=_;rw[Ht rfl];rfl),?_⟩
 walk_at "c"
 refine⟨_,rfl,hd,ys,ws,rfl,aE l _ _ _ sd.h,dS sd.ms,hw,fun Gr Hr kr GOr=>?_⟩;have eG:=bQ hw GO9 GOr;subst eG;have kd':=KD.of sd.kd.ds kr;have se:=sd.go kd';have cg:=ce.go kd';have ch:=cf.go kd';clear sd ce cf kd' kr GOr
 walk_at "c"
 refine⟨_,rfl,aa,_,0,_,rfl,rfl,SqT.of cg.le.t,rfl,p,_,rfl,.inl (SqL.of cg.le.p),_,_,rfl,rfl,rfl,false,?_,?_⟩
 ·rw[lc,pD four hf];show V.bl (!decide (V.int (((2*Gr.length:Nat):Int)-((Gr.length:Nat):Int)+1)=V.int (((Gr.length:Nat):Int)+1)))=_;rw[show(((2*Gr.length:Nat):Int)-((Gr.length:Nat):Int)+1)=((Gr.length:Nat):Int)+1 by lia,Ht rfl];rfl
 walk_at "c"
 refine⟨_,rfl,aa,rfl,⟨_,SqT.of cg.le.t⟩,?_⟩
 walk_at "c"
 refine oS (K:=K) (a:=aa) (xs:=[.ref p,.ref q]) (fun j σ' H'=>∃e10,σ'=[some (.ref a),some (.int (0+(i:Int))),some (.ref l),some (.ref W),some (.ref Mk),some (.ref hd),some (.ref gd),some (.bl true),some (.ref aa),some (.ref dd),e10]/\Sq l H1 W Mk hd gd ws ys ud Gr H'/\Kj (hid l H') aa p q Gr/\Kj (hid l H') dd pd qd Gr) ⟨_,rfl,se,cg,ch⟩ (fun j σ' H' hj z=>by obtain⟨_,_,_,z,_⟩:=z;exact SqT.of z.le.t) (fun j x σ' H' hx z=>?_) (fun σ' H' z=>?_)
 ·obtain⟨e10,rfl,s1,c1,c2⟩:=z;obtain⟨b,pp,rfl,hb,hpp⟩:∃b pp,x=.ref b/\H' b=some (.lst ((cD Gr pp).map V.int))/\pp<4:=by
   have hj:j<2:=(DU.mp hx).1;obtain rfl|rfl:j=0\/j=1:=by lia
   ·injection hx with hx;exact⟨p,0,hx.symm,c1.le.p,by decide⟩
   ·injection hx with hx;exact⟨q,1,hx.symm,c1.le.q,by decide⟩
  walk_at "c"
  refine⟨_,rfl,.ref b,.ty "list",_,_,true,rfl,rfl,.lst hb,rfl,true,rfl,?_⟩
  walk_at "c"
  refine⟨_,rfl,b,cD Gr pp,rfl,SqL.of hb,(by rw[dN];lia),fun sl ns' pm pw nsl=>?_⟩;have en:=kf iG four hf hpp pm pw;subst en;have T1:=ao nsl (.lst ((qz Gr.length).map V.int));have s2:=s1.go (KD.same s1.kd.ds T1)
  walk_at "c"
  refine⟨_,rfl,gd,ud,rfl,.inl (SqL.of (dW s2.due).lst),Gr.length,(by rw[(dW s2.due).len]),(by lia),fun rl nrl=>?_⟩;rw[wb];have T2:=ao nrl (.lst ((qz Gr.length).map V.int));have kt:=KD.same s1.kd.ds (T1.trans T2)
  walk_at "c"
  refine⟨.list ((qz Gr.length).map PyData.int),.list ((qz Gr.length).map PyData.int),.lst (SqL.of (T2 _ _ af)) (cy _),.lst (SqL.of af) (cy _),fV _,fV _,uh _,false,lM (fV _),?_⟩
  walk_at "c"
  exact⟨_,rfl,s1.go kt,c1.go kt,c2.go kt⟩
 obtain⟨e10,rfl,s1,c1,c2⟩:=z;clear se cg ch
 walk_at "c"
 refine⟨_,rfl,W,rfl,⟨_,SqL.of (aE l _ _ _ s1.w)⟩,?_⟩
 walk_at "c"
 refine fH (K:=K) (a:=W) (xs:=aR ws) (fun j zs H2=>H2=H'/\zs=[]) ⟨rfl,rfl⟩ (fun j zs H2 hj z=>by rw[z.2];exact Ec _) (aJ (by lia)) (fun j zs H2 hj z=>by rw[z.1];exact SqL.of (aE l _ _ _ s1.w)) (fun j x zs H2 hx z=>?_) (fun zs H2 z L2 nL2=>?_)
 ·obtain⟨rfl,rfl⟩:=z;rw[DY] at hx;obtain⟨cs,hcs,rfl⟩:=EB.mp hx;have hj:j<ws.length:=(DU.mp hcs).1;have mcs:=Ea hcs;have cW:=hw.w cs mcs;have g0:=(GO.isIn cW (hw.r cs mcs)).mpr (.of (FV mcs))
  walk_at "c"
  refine⟨_,rfl,_,rfl,aa,p,q,Gr,cs,rfl,c1.le.t,c1.le.p,c1.le.q,iG,four,hf,h40,cW,hw.l10 cs mcs,fun e he=>?_⟩;rw[g0] at he;injection he with he;subst he
  walk_at "c"
  refine⟨rfl,false,rfl,?_⟩
  walk_at "c"
  refine Eq.mpr (Ho (c:=false=true) (by decide)) ?_
  walk_at "c"
  exact Nx.mk (by lia) ⟨rfl,rfl⟩
 obtain⟨rfl,rfl⟩:=z
 walk_at "c"
 refine⟨Ec _,fun e2 ne2=>?_⟩;have T2:=ao nL2 (.lst []);have T3:=ao ne2 (.lst [])
 walk_at "c"
 refine⟨.list [],.list [],.lst (SqL.of (T3 _ _ af)) .nil,.lst (SqL.of af) .nil,rfl,rfl,(by decide),false,rfl,?_⟩;have kt:=KD.same s1.kd.ds (T2.trans T3);have s2:=s1.go kt;have c3:=c1.go kt;have c4:=c2.go kt;generalize upd (upd H2 L2 (.lst [])) e2 (.lst [])=Hx at s2 c3 c4 ⊢;clear T2 T3 kt s1 c1 c2
 walk_at "c"
 refine⟨_,rfl,aa,_,0,_,rfl,rfl,SqT.of c3.le.t,rfl,.inl ⟨rfl,_,SqL.of c3.le.p⟩,p,_,_,rfl,rfl,c3.le.p,DT (show((cD Gr 0).map V.int).length<1000000 by lia) (aJ (DP _)),?_⟩;have dA:=xX (o:=.lst ((cD Gr 0).map V.int++[.int 0])) npl s2.kd.ds;have kA:KD l H1 (upd Hx p (.lst ((cD Gr 0).map V.int++[.int 0]))):=⟨dA,by rw[cN npl];exact oK s2.kd.kp nd1⟩
 have hA:=jV (o:=.lst ((cD Gr 0).map V.int++[.int 0])) c3.p nHp s2.h;have mA:=uD (o:=.lst ((cD Gr 0).map V.int++[.int 0])) c3.p s2.ms;have cA:=c4.put (o:=.lst ((cD Gr 0).map V.int++[.int 0])) c3.p np1 np2;generalize upd Hx p (.lst ((cD Gr 0).map V.int++[.int 0]))=HA at dA kA hA mA cA ⊢
 walk_at "c"
 refine⟨_,rfl,hd,ys,ws,rfl,aE l _ _ _ hA,dS mA,hw,fun G2 HB kB GOB hfB=>?_,fun G2 a2 p2 q2 HB kB GOB hfB b1 b2 b3 _ _ _=>?_⟩
 ·have eG:=bQ hw GO9 GOB;subst eG;rw[hf] at hfB;cases hfB
 have eG:=bQ hw GO9 GOB;subst eG;have KB:=KD.of dA kB
 walk_at "c"
 refine⟨_,rfl,qU G2,qU G2,Kj.dat ⟨b1,b2,b3⟩,(cA.go KB).le.dat,dQ G2,dQ G2,jI G2,false,lM (dQ G2),?_⟩
 walk_at "c"
 subst_vars
 exact⟨_,_,_,_,_,_,_,_,_,_,rfl,S.trans (nQ S1 nl (kA.trans KB))⟩
end
theorem fC{us:List Value}(h:us.length=1):∃a,us=[a]:=match us,h with|[a],_=>⟨a,rfl⟩
theorem jS{us:List Value}(h:us.length=2):∃a b,us=[a,b]:=match us,h with|[a,b],_=>⟨a,b,rfl⟩
theorem Ad{us:List Value}(h:us.length=3):∃a b c,us=[a,b,c]:=match us,h with|[a,b,c],_=>⟨a,b,c,rfl⟩
theorem len4{us:List Value}(h:us.length=4):∃a b c d,us=[a,b,c,d]:=match us,h with|[a,b,c,d],_=>⟨a,b,c,d,rfl⟩
def FIn (K:W.Frag)(fn:Str)(st:Stmt):Prop:=∃(f:Addr)(oc:Value)(od an:Option Addr)(sl:Array (Option Value))(kV dc pm cd ct:Value),W.nsIn K mainGlobals fn=some (some (.ref f))/\K.lookup f=some ⟨oc,od,.func (W.fnOf fn fn (cH st) (bV st) (av st) .none kV dc pm an cd ct),sl⟩/\W.codeIn K cd fn=true/\W.keepIn K (.ref f)=true
theorem FIn.of{K:W.Frag}{fn:Str}{st:Stmt}{f:Addr}{oc:Value}{od an:Option Addr}{sl:Array (Option Value)}{kV dc pm cd ct:Value}(a:W.nsIn K mainGlobals fn=some (some (.ref f)))(l:K.lookup f=some ⟨oc,od,.func (W.fnOf fn fn (cH st) (bV st) (av st) .none kV dc pm an cd ct),sl⟩)(c:W.codeIn K cd fn=true)(k:W.keepIn K (.ref f)=true):FIn K fn st:=⟨f,oc,od,an,sl,kV,dc,pm,cd,ct,a,l,c,k⟩
theorem FIn.dd{K:W.Frag}{fn:Str}{st:Stmt}{h:Heap}{mg:Str->Option Value}(a:FIn K fn st)(X:K.In h)(G:h.Ns mainGlobals mg){ps:List Str}(hb:∀(kV doc pm:Value)(an:Option Addr)(cdv ct:Value)(us:List Value),us.length=ps.length->bindArgs (W.fnOf fn fn (cH st) (bV st) (av st) .none kV doc pm an cdv ct) ⟨us,[]⟩=pure (ps.zip us)):∃d:DD,Def K mg fn st ps d:=by
 obtain⟨f,oc,od,an,sl,kV,dc,pm,cd,ct,a,l,c,k⟩:=a;have F:=sJ (st:=st) l c k;exact⟨⟨f,_⟩,F,HG X G a,F.binds (ps:=ps) hb⟩
theorem all_mk{l:W.OpenLaw}{w:World}{K:W.Frag}{h:Heap}{mg:Str->Option Value}{fa:Addr}(X:K.In h)(G:h.Ns mainGlobals mg)(hfa:mg "law"=some (.ref fa))
  (AY:FIn K "is_whole" (top 20))
  (CK:FIn K "is_table" (top 21))
  (AZ:FIn K "worth" (top 22))
  (AX:FIn K "_law_times" (top 52))
  (Bp:FIn K "_law_made" (top 53))
  (CY:FIn K "_law_of_letters" (top 54))
  (Bo:FIn K "_law_draw" (top 43))
  (AW:FIn K "_law_draws" (top 42))
  (CL:FIn K "is_wide" (top 25))
  (De:FIn K "power" (top 26))
  (Dv:FIn K "wide_word_within" (top 27))
  (Dt:FIn K "wide_maker_word" (top 31))
  (CT:FIn K "wide_maker_words" (top 32))
  (CB:FIn K "back_place" (top 5))
  (Dl:FIn K "turned" (top 6))
  (CA:FIn K "put_behind" (top 7))
  (CM:FIn K "joined" (top 8))
  (Dm:FIn K "turned_way" (top 11))
  (Dg:FIn K "row_length" (top 17))
  (CU:FIn K "moved" (top 14))
  (CN:FIn K "lay" (top 12))
  (CQ:FIn K "meeting_of" (top 16))
  (CO:FIn K "lifted" (top 13))
  (CP:FIn K "merged" (top 15))
  (CF:FIn K "folded" (top 18))
  (CZ:FIn K "petal" (top 9))
  (Df:FIn K "petals" (top 10))
  (CG:FIn K "found_states" (top 33))
  (CW:FIn K "numbered" (top 34))
  (CI:FIn K "graph_of" (top 35))
  (Di:FIn K "rank" (top 36))
  (CH:FIn K "is_full" (top 37))
  (CJ:FIn K "index" (top 38))
  (CV:FIn K "moves" (top 40))
  (a_ow:FIn K "_law_other_way" (top 44))
  (CC:FIn K "_law_back_word" (top 46))
  (Dj:FIn K "_law_short" (top 45))
  (Du:FIn K "_law_wide_text" (top 50))
  (Dp:FIn K "_law_wide_makers" (top 51))
  (a_gr:FIn K "_law_graph" (top 48))
  (Bq:FIn K "_law_ways" (top 55))
  (Cz:FIn K "_law_basis" (top 47))
  (CD:FIn K "_law_full_makers" (top 49))
  (Do:FIn K "_law_walked" (top 56))
  {f_law:Addr}{od_law an_law:Option Addr}{sl_law:Array (Option Value)}{oc_law kV_law dc_law pm_law cd_law ct_law:Value}
  (BW:W.nsIn K mainGlobals "law"=some (some (.ref f_law)))(l_law:K.lookup f_law=some ⟨oc_law,od_law,.func (W.fnOf "law" "law" (cH (top 57)) (bV (top 57)) (av (top 57)) .none kV_law dc_law pm_law an_law cd_law ct_law),sl_law⟩)(c_law:W.codeIn K cd_law "law"=true)(k_law:W.keepIn K (.ref f_law)=true)
  {t_LWM:Tok}(Dz:W.nsIn K mainGlobals "LONGEST_WIDE_MAKER"=some (some (.int 10 t_LWM)))
  {t_MWM:Tok}(DA:W.nsIn K mainGlobals "MOST_WIDE_MAKERS"=some (some (.int 8 t_MWM)))
  {lb:Addr}{bk1 bk2 bk3 bk4 bv1 bv2 bv3 bv4:Tok}{bnd:Nat}(e_LB:W.nsIn K mainGlobals "LETTER_BACKS"=some (some (.ref lb)))(l_LB:K.lookup lb=some ⟨.type "dict",none,.dict #[⟨PyData.keyHash w.params "u",.str "u" bk1,.str "U" bv1⟩,⟨PyData.keyHash w.params "v",.str "v" bk2,.str "V" bv2⟩,⟨PyData.keyHash w.params "U",.str "U" bk3,.str "u" bv3⟩,⟨PyData.keyHash w.params "V",.str "V" bk4,.str "v" bv4⟩] bnd,#[]⟩)(s_LB:(lb==sysModules)=false)
  {lp:Addr}{pk1 pk2 pk3 pk4 pv1 pv2 pv3 pv4:Tok}{pnd:Nat}(e_LP:W.nsIn K mainGlobals "LETTER_PLACES"=some (some (.ref lp)))(l_LP:K.lookup lp=some ⟨.type "dict",none,.dict #[⟨PyData.keyHash w.params "u",.str "u" pk1,.int 0 pv1⟩,⟨PyData.keyHash w.params "v",.str "v" pk2,.int 1 pv2⟩,⟨PyData.keyHash w.params "U",.str "U" pk3,.int 2 pv3⟩,⟨PyData.keyHash w.params "V",.str "V" pk4,.int 3 pv4⟩] pnd,#[]⟩)(s_LP:(lp==sysModules)=false)
  (DF:W.nsIn K mainGlobals "int"=some none)   (Bt:W.nsIn K mainGlobals "bool"=some none)   (Aq:W.nsIn K mainGlobals "isinstance"=some none)   (Bb:W.nsIn K mainGlobals "tuple"=some none)   (Bu:W.nsIn K mainGlobals "list"=some none)   (DG:W.nsIn K mainGlobals "len"=some none)   (DC:W.nsIn K mainGlobals "all"=some none)   (DE:W.nsIn K mainGlobals "any"=some none)   (Ba:W.nsIn K mainGlobals "range"=some none)   (DH:W.nsIn K mainGlobals "max"=some none)   (DI:W.nsIn K mainGlobals "min"=some none)   (DB:W.nsIn K mainGlobals "abs"=some none)   (DJ:W.nsIn K mainGlobals "zip"=some none)   (AK:W.nsIn K mainGlobals "sorted"=some none) :
  ∃fd:FuncData,(∀(s:Shared)(v:Value),BindsTo s fd ⟨[v],[]⟩ [("script",v)])/\∀base:Heap,K.In base->base.Ns mainGlobals mg->Ic l.prog w K mg base CX0 8 fa fd ["script"] (rL K):=by
 have e:=hfa.symm.trans (HG X G BW);cases e;have AH:=HH X G DF;have Bs:=HH X G Bt;have Ak:=HH X G Aq;have Ap:=HH X G Bb;have Ao:=HH X G Bu;have Aj:=HH X G DG;have Dx:=HH X G DC;have Dy:=HH X G DE;have Ai:=HH X G Ba;have AI:=HH X G DH;have Az:=HH X G DI;have Br:=HH X G DB;have Bi:=HH X G DJ;have AJ:=HH X G AK;obtain ⟨d_whole,Aw⟩ :=AY.dd X G (ps:=["thing"]) (by walk_at "u");obtain ⟨d_ist,BA⟩ :=CK.dd X G (ps:=["thing"]) (by walk_at "u");obtain ⟨d_worth,AE⟩ :=AZ.dd X G (ps:=["table"]) (by walk_at "u");obtain ⟨d_times,AD⟩ :=AX.dd X G (ps:=["one","other"]) (by walk_at "u");obtain ⟨d_made,Bc⟩ :=Bp.dd X G (ps:=["tables"]) (by walk_at "u");obtain ⟨d_ofl,BJ⟩ :=CY.dd X G (ps:=["word"]) (by walk_at "u");obtain ⟨d_draw,Am⟩ :=Bo.dd X G (ps:=["draws","many"]) (by walk_at "u");obtain ⟨d_draws,AC⟩ :=AW.dd X G (ps:=["script","k"]) (by walk_at "u");obtain ⟨d_isw,BB⟩ :=CL.dd X G (ps:=["table"]) (by walk_at "u");obtain ⟨d_pow,BL⟩ :=De.dd X G (ps:=["letter","many"]) (by walk_at "u");obtain ⟨d_www,BS⟩ :=Dv.dd X G (ps:=["table","most"]) (by walk_at "u");obtain ⟨d_wmw,BQ⟩ :=Dt.dd X G (ps:=["maker"]) (by walk_at "u");obtain ⟨d_mks,BG⟩ :=CT.dd X G (ps:=["makers"]) (by walk_at "u");obtain ⟨d_bkp,AM⟩ :=CB.dd X G (ps:=["place"]) (by walk_at "u");obtain ⟨d_trn,Av⟩ :=Dl.dd X G (ps:=["row"]) (by walk_at "u");obtain ⟨d_beh,Bw⟩ :=CA.dd X G (ps:=["row","other"]) (by walk_at "u");obtain ⟨d_joi,AL⟩ :=CM.dd X G (ps:=["one","other"]) (by walk_at "u");obtain ⟨d_twy,AO⟩ :=Dm.dd X G (ps:=["way"]) (by walk_at "u");obtain ⟨d_rln,Bl⟩ :=Dg.dd X G (ps:=["way"]) (by walk_at "u");obtain ⟨d_mov,BH⟩ :=CU.dd X G (ps:=["way","kept","lost","row"]) (by walk_at "u");obtain ⟨d_lay,BC⟩ :=CN.dd X G (ps:=["laid","way"]) (by walk_at "u");obtain ⟨d_met,BF⟩ :=CQ.dd X G (ps:=["laid","way"]) (by walk_at "u");obtain ⟨d_lif,BD⟩ :=CO.dd X G (ps:=["laid","state"]) (by walk_at "u");obtain ⟨d_mer,BE⟩ :=CP.dd X G (ps:=["laid","waiting","meeting"]) (by walk_at "u");obtain ⟨d_fol,By⟩ :=CF.dd X G (ps:=["ways"]) (by walk_at "u");obtain ⟨d_pet,BK⟩ :=CZ.dd X G (ps:=["word","row","fresh"]) (by walk_at "u");obtain ⟨d_pts,BM⟩ :=Df.dd X G (ps:=["words","rows"]) (by walk_at "u")
 obtain ⟨d_fst,Bz⟩ :=CG.dd X G (ps:=["leads","first"]) (by walk_at "u");obtain ⟨d_num,BI⟩ :=CW.dd X G (ps:=["leads","first"]) (by walk_at "u");obtain ⟨d_gof,AB⟩ :=CI.dd X G (ps:=["makers"]) (by walk_at "u");obtain ⟨d_rnk,BN⟩ :=Di.dd X G (ps:=["makers"]) (by walk_at "u");obtain ⟨d_ful,AN⟩ :=CH.dd X G (ps:=["graph"]) (by walk_at "u");obtain ⟨d_idx,Bj⟩ :=CJ.dd X G (ps:=["makers"]) (by walk_at "u");obtain ⟨d_mvs,Bk⟩ :=CV.dd X G (ps:=["makers"]) (by walk_at "u");obtain ⟨d_ow,D_ow⟩ :=a_ow.dd X G (ps:=["letter"]) (by walk_at "u");obtain ⟨d_bwd,AA⟩ :=CC.dd X G (ps:=["word"]) (by walk_at "u");obtain ⟨d_sho,Au⟩ :=Dj.dd X G (ps:=["word"]) (by walk_at "u");obtain ⟨d_wtx,BR⟩ :=Du.dd X G (ps:=["draws","most"]) (by walk_at "u");obtain ⟨d_wmk,BP⟩ :=Dp.dd X G (ps:=["draws","most"]) (by walk_at "u");obtain ⟨d_gr,Ny⟩ :=a_gr.dd X G (ps:=["ways"]) (by walk_at "u");obtain ⟨d_ways,Be⟩ :=Bq.dd X G (ps:=["words"]) (by walk_at "u");obtain ⟨d_bas,Bv⟩ :=Cz.dd X G (ps:=["graph"]) (by walk_at "u");obtain ⟨d_fmk,Bx⟩ :=CD.dd X G (ps:=["draws"]) (by walk_at "u");obtain ⟨d_wlk,BO⟩ :=Do.dd X G (ps:=["both","text"]) (by walk_at "u");have F_law:=sJ (st:=top 57) l_law c_law k_law;have DN:Def K mg "law" (top 57) ["script"] ⟨fa,_⟩ :=⟨F_law,HG X G BW,F_law.binds (ps:=["script"]) fun _ _ _ _ _ _ us hl=>by obtain ⟨_,rfl⟩ :=fC hl;rfl⟩
 have m_lb:=HG X G e_LB;have M_lb:vN l.prog w K lb bkv:=wJ [⟨"u",bk1,.str "U" bv1,.str "U"⟩,⟨"v",bk2,.str "V" bv2,.str "V"⟩,⟨"U",bk3,.str "u" bv3,.str "u"⟩,⟨"V",bk4,.str "v" bv4,.str "v"⟩] (nd ["u","v","U","V"]) (fun e he=>by simp only[Eb,EI,or_false] at he;rcases he with rfl|rfl|rfl|rfl<;>exact ⟨_,rfl⟩ ) s_LB l_LB;have m_lp:=HG X G e_LP;have M_lp:vN l.prog w K lp lpv:=wJ [⟨"u",pk1,.int 0 pv1,.int 0⟩,⟨"v",pk2,.int 1 pv2,.int 1⟩,⟨"U",pk3,.int 2 pv3,.int 2⟩,⟨"V",pk4,.int 3 pv4,.int 3⟩] (nd ["u","v","U","V"]) (fun e he=>by simp only[Eb,EI,or_false] at he;rcases he with rfl|rfl|rfl|rfl<;>exact ⟨_,rfl⟩ ) s_LP l_LP;refine⟨W.fnOf "law" "law" (cH (top 57)) (bV (top 57)) (av (top 57)) .none kV_law dc_law pm_law an_law cd_law ct_law,fun s v=>.of_eq rfl,fun base _ _=>?_⟩;have AU:=qL (P:=l.prog) (w:=w) (base:=base) Aw AH Bs Ak;have Cc:=vR ⟨Aw,AU⟩ BA Ap Aj Dx Ak;have AV:=rX (P:=l.prog) (w:=w) (base:=base) AE;have AS:=qP (P:=l.prog) (w:=w) (base:=base) AD Ai Ap;have Bm:=rC ⟨AD,AS⟩ Bc;have Cn:=yB ⟨Bc,Bm⟩ BJ;have An:=uC (P:=l.prog) (w:=w) (base:=base) Am;have AQ:=qV (P:=l.prog) (w:=w) (base:=base) AC Aj AH;have Cd:=wu ⟨BA,Cc⟩  ⟨AE,AV⟩ BB;have Cp:=yu (base:=base) m_lb M_lb BL;have Cy:=vT ⟨BL,Cp⟩ BS Br;have Cv:=xB (HG X G Dz) ⟨BB,Cd⟩  ⟨BS,Cy⟩ BQ;have Cj:=wV (HG X G DA) ⟨BQ,Cv⟩ BG Ak Ao Aj;have Bf:=yd (P:=l.prog) (w:=w) (base:=base) AM;have Ay:=yC (P:=l.prog) (w:=w) (base:=base) Av;have BY:=yj (P:=l.prog) (w:=w) (base:=base) Bw Az Aj;have AR:=xg ⟨Bw,BY⟩ AL Ao;have Bh:=wG ⟨AM,Bf⟩  ⟨Av,Ay⟩ AO;have Cr:=wD (P:=l.prog) (w:=w) (base:=base) Bl Aj;have Ck:=yf ⟨AL,AR⟩  ⟨Av,Ay⟩ BH;have Ce:=xT ⟨AO,Bh⟩ BC;have Ci:=wm ⟨AO,Bh⟩  ⟨AL,AR⟩  ⟨Av,Ay⟩ BF;have Cf:=vP ⟨AM,Bf⟩ BD Ao;have Cg:=yE ⟨BD,Cf⟩  ⟨BH,Ck⟩  ⟨Av,Ay⟩ BE;have Ca:=yF ⟨BF,Ci⟩  ⟨BC,Ce⟩  ⟨BE,Cg⟩  ⟨Bl,Cr⟩ By Az Ao;have Co:=yH (P:=l.prog) (w:=w) (base:=base) m_lp M_lp BK Ao Aj Ai Bi;have Cq:=yy ⟨BK,Co⟩ BM Bi Aj;have Cb:=wx (P:=l.prog) (w:=w) (base:=base) Bz Aj Ai;have Cm:=yG ⟨Bz,Cb⟩ BI Ap Ai;have AG:=wR ⟨BG,Cj⟩  ⟨By,Ca⟩  ⟨BM,Cq⟩  ⟨BI,Cm⟩ AB;have Cs:=wC ⟨AB,AG⟩ BN Aj;have Bg:=vX (P:=l.prog) (w:=w) (base:=base) AN Dy;have BU:=yz ⟨AB,AG⟩  ⟨AN,Bg⟩ Bj Aj;have BV:=xj ⟨AB,AG⟩  ⟨AN,Bg⟩ Bk;have G_ow:=zh (P:=l.prog) (w:=w) (base:=base) D_ow;have AF:=yk ⟨D_ow,G_ow⟩ AA;have Ax:=vY ⟨D_ow,G_ow⟩ Au;have Cw:=xU ⟨Am,An⟩  ⟨AA,AF⟩  ⟨Au,Ax⟩ BR Ai;have Cu:=xC ⟨Am,An⟩  ⟨BR,Cw⟩  ⟨Au,Ax⟩  ⟨AA,AF⟩ BP Aj Ai;have NO:=zg (P:=l.prog) (w:=w) (base:=base) Ny Aj Ap;have Bn:=vE ⟨D_ow,G_ow⟩ Be Aj Ai AH Ao AI Az;have BX:=xD ⟨Au,Ax⟩  ⟨AA,AF⟩ Bv Aj Ai;have BZ:=vS ⟨Am,An⟩  ⟨D_ow,G_ow⟩  ⟨Bv,BX⟩  ⟨Ny,NO⟩  ⟨Au,Ax⟩ Bx Aj Ai Ao AI;have Ct:=yg (P:=l.prog) (w:=w) (base:=base) BO;have Al:All l.prog w K mg base ⟨d_draws,d_draw,d_wmk,d_fmk,d_ofl,d_gr,d_ways,d_wlk,d_mvs,d_rnk,d_idx⟩:=
  ⟨AC,Am,BP,Bx,BJ,Ny,Be,BO,Bk,BN,Bj,AQ,An,Cu,BZ,Cn,NO,Bn,Ct,BV,Cs,BU,Ai,AI,Az,Aj,Ak,Ao,Ap,AJ⟩
 exact xb Al DN
theorem walk{l:W.OpenLaw}{q:Program}{loose:List Str}{XP:(Str->Option Value)->Heap->Prop}{YP:World->Heap->Prop}{d:DefRec}{K:Params->W.Frag}(hn:l.most=some 63)(hdf:d.params.defaults=[])
  (hY:∀(w:World)(h:Heap),YP w h->(K w.params).In h)
  (F:∀(w:World) (mg:Str->Option Value) (fa:Addr) (h:Heap),(K w.params).In h->h.Ns mainGlobals mg->mg d.name=some (.ref fa) ->
   ∃fd:FuncData,(∀(s:Shared) (u:Value),BindsTo s fd ⟨[u],[]⟩ [("script",u)])/\∀base:Heap,(K w.params).In base->base.Ns mainGlobals mg->Ic l.prog w (K w.params) mg base CX0 8 fa fd ["script"] (rL (K w.params))) :
  W.WalkO q loose XP YP l.row.toRowW d [] (fun f vs=>PySem.call f vs):=
 L2.Nt (n:=63) (k:=8) (x:="script") (CX:=fun _=>CX0) (sp:=fun w=>rL (K w.params)) hn (by decide) hdf ⟨rfl,by decide,by decide⟩ hY F (fun _ _ a ns hl _ hS=>⟨a,ns,rfl,hS,hl,fun _=>rfl⟩) fun _ _ _ _ _ z=>z
end K3
namespace Hd
open PySem PySem.W PyProof.Rows
noncomputable section
def run (den:Code->Sem Fin)(ok:Nat->Option Value->Thread->Bool)(st:(Code->Sem Fin)->Program->World->SharedT->Thread->Option (SharedT×Thread))(p:Program)(w:World)(m:Nat)(ann:Option Value):Nat->SharedT->Thread->Option SharedT
 |0,_,_=>none
 |n+1,s,t=>match through t with
  |true=>some s
  |false=>match ok m ann t with
   |false=>none
   |true=>match st den p w s t with
    |some r=>run den ok st p w m ann n r.1 r.2
    |none=>none
theorem sO{tb:String->Option Builtin}{p:Program}{w:World}{m:Nat}{ann:Option Value}:∀{n:Nat}{s r:SharedT}{t:Thread},run (denote tb) stepOk stepT p w m ann n s t=some r->topRun tb p w m ann n s.abs t=some r.abs
 |0,_,_,_,h=>by cases h
 |n+1,s,r,t,h=>by
  unfold run at h;unfold topRun;cases ht:through t with
  |true=>rw[ht] at h;cases h;rfl
  |false=>
   rw[ht] at h;cases hk:stepOk m ann t with
   |false=>rw[hk] at h;cases h
   |true=>
    rw[hk] at h;cases hs:stepT (denote tb) p w s t with
    |none=>rw[hs] at h;cases h
    |some r=>rw[hs] at h;rw[stepT_spec hs];exact sO h
def grow:List Obj->Nat->BT->BT
 |[],_,t=>t
 |o::l,n,t=>grow l (n+1) (t.ins n o)
def zw(P:Params):BT:=grow (boot_heap P).objs.toList 0 .nil
abbrev first(w:World)(os:OsState):SharedT:=⟨zw w.params,(boot_heap w.params).objs.size,(boot_heap w.params).life,#[],boot_drawn,boot_toks,os⟩
theorem oM(w:World)(os:OsState):(first w os).abs=⟨boot_heap w.params,#[],boot_drawn,boot_toks,os⟩:=by kernel_rfl
def xw(P:Params):Option Value:=(boot_heap P).nsMap mainGlobals "__annotations__"
def yi(seenF:Program->List Str->List Str->(Shared->Bool)->Bool->Shared->_)(p q:Program)(loose:List Str)(Xt:Shared->Bool)(as:List Addr)(h:Heap)(s:Shared):=
 ((staticsOk (importedModules p.main.body) h s.heap&&namesBound p s.heap&&gensDone s&&laidKept h s.heap),(seenF q loose (importedModules p.main.body) Xt true s:type_of% (openSeen q loose (importedModules p.main.body) Xt true s)),as.map s.heap.get?)
abbrev vL(den:Code->Sem Fin)(ok:Nat->Option Value->Thread->Bool)(st:(Code->Sem Fin)->Program->World->SharedT->Thread->Option (SharedT×Thread))
  (seenF:(q:Program)->(loose mods:List Str)->(Xt:Shared->Bool)->Bool->(s:Shared)->type_of% (openSeen q loose mods Xt true s))(p q:Program)(loose:List Str)(Xt:Shared->Bool)(K:Params->Frag)(as:List Addr)(N:Nat)(w:World):Prop:=
 (fun os=>(run den ok st p w (boot_heap w.params).objs.size (xw w.params) N (first w os) (topStub p)).map fun s=>yi seenF p q loose Xt as (boot_heap w.params) s.abs)=fun _=>some (true,openGood q loose,(K w.params).map fun x=>some x.2)
theorem zt{p q:Program}{loose:List Str}{Xt:Shared->Bool}{K:Params->Frag}{as:List Addr}{N:Nat}(e:opening p=plainProg p.main.scope.names)(hN:Nat.ble 600 N=true)(f:∀s,fenceModules? p s=some s)
  (size:∀P:Params,(boot_heap P).isNs mainGlobals=true)(key:∀w,vL (denote treeTable) stepOk stepT openSeen p q loose Xt K as N w) :
  LeftO p q loose Xt (fun s=>as.map s.heap.get?) (fun w=>(K w.params).map fun x=>some x.2) N true:=fun w=>by
 obtain⟨⟨h,gs,d,k,os⟩,e1,e2⟩:=EB.mp (boot_open (p:=p) (N:=N) e hN f w);obtain⟨rfl,rfl,rfl,rfl⟩:h=boot_heap w.params/\gs=Array.mk []/\d=boot_drawn/\k=boot_toks:=by simpa using e2
 obtain⟨s,r,l⟩:=EB.mp (congrFun (key w) os);have r':=sO r;rw[oM] at r';unfold yi at l;obtain⟨l1,l2,l3⟩:_/\_/\_:=by simpa only [Prod.mk.injEq] using l
 have t:topFrom treeTable p w N ⟨boot_heap w.params,#[],boot_drawn,boot_toks,os⟩=some s.abs:=by
  unfold topFrom;dsimp only;rw[size w.params];show(topRun treeTable p w (boot_heap w.params).objs.size (xw w.params) N _ _).bind _=_;rw[r'];show(match staticsOk (importedModules p.main.body) (boot_heap w.params) s.abs.heap&&namesBound p s.abs.heap&&gensDone s.abs&&laidKept (boot_heap w.params) s.abs.heap with|true=>_|false=>_)=_;rw[l1]
 unfold openEnds;rw[e1];show(topFrom treeTable p w N _).map _=_;rw[t];exact congrArg some (Prod.ext l2 l3)
abbrev en(P:Params)(x:Str)(t:Tok)(v:Value):DictEntry:=⟨PyData.keyHash P x,.str x t,v⟩
abbrev dn:=PySem.W.Fast.tw11892475500146522536 PySem.W.Fast.tw14364793385576792824
abbrev mF(p q:Program)(loose:List Str)(Xt:Shared->Bool)(K:Params->Frag)(as:List Addr)(N:Nat)(w:World):Prop:=vL dn PySem.W.Fast.tw6613529449190102663 PySem.W.Fast.tw10156331382660048174 PySem.W.Fast.tw4187177175401517315 p q loose Xt K as N w
theorem key1{p q:Program}{loose:List Str}{Xt:Shared->Bool}{K:Params->Frag}{as:List Addr}{N:Nat}(h:∀w:World,mF p q loose Xt K as N w):∀w,vL (denote treeTable) stepOk stepT openSeen p q loose Xt K as N w:=fun w=>by
 rw[PySem.W.Fast.te10156331382660048174,PySem.W.Fast.te11892475500146522536,PySem.W.Fast.te14364793385576792824,PySem.W.Fast.te6613529449190102663,PySem.W.Fast.te4187177175401517315];exact h w
theorem key2{p q:Program}{loose:List Str}{Xt:Shared->Bool}{K:Params->Frag}{as:List Addr}{N:Nat}(row:String)(hf:∀w:World,mF p q loose Xt K as N (w.withFollow row false))(ht:∀w:World,mF p q loose Xt K as N (w.withFollow row true)):∀w,vL (denote treeTable) stepOk stepT openSeen p q loose Xt K as N w:=
 key1 fun w=>byRow2 (P:=fun w=>mF p q loose Xt K as N w) row hf ht w
abbrev xt(l:OpenLaw)(q:Program)(s:Shared):Bool:=xlAt q [] s&&recOk (RowW.records l.row.toRowW) s
theorem vZ(P:Params):(boot_heap P).isNs mainGlobals=true:=by kernel_rfl
theorem head{l:OpenLaw}{q:Program}{loose:List Str}{K:Params->Frag}{as:List Addr}{N:Nat}{d:DefRec}(said:l.wellSaid=true)(e:opening l.prog=plainProg l.prog.main.scope.names)(hN:Nat.ble 600 N=true)(f:∀s,fenceModules? l.prog s=some s)
  (key:∀w,vL (denote treeTable) stepOk stepT openSeen l.prog q loose (xt l q) K as N w)(hK:∀P,as=(K P).map (·.1))
  (hdef:defOf q l.row.name=some (d,[]))(hp:l.row.prog.theDef l.row.name=some (d.params,d.body,d.scope))(hk:kwWritten? d.params.kwonlyargs d.params.kw_defaults=some [])(hwr:(!l.row.writes||l.row.records.isEmpty)=true)
  (ok:(chainsOk q&&opensWell l.row.prog&&(frees l.row.toRowW&&l.row.within.isEmpty))=true)(hb:l.row.prog.bare)(hw:l.row.toRowW.promised)
  (call:WalkO q loose (XL q []) (InK K) l.row.toRowW d [] fun f vs=>PySem.call f vs):l.Holds:=
 holds_law said fun k1=>holds_open (Xt:=xt l q) (zt e hN f vZ key) (InK.of hK) InK.keeps (fun s e=>xl_of s (FI.mp e).1) XL.keeps hdef hp hk (fun s e=>recFacts_of (FI.mp e).2) hwr k1 ok hb hw call
end
end Hd
namespace Hd
open PySem PySem.W PyProof.Rows L2 K3
noncomputable section
abbrev pw:=PySem.Challenge.pw_quadwords_k50_whole_moves
def loose:List Str:=["LETTER_PLACES","LETTER_BACKS"]
def keep:List Nat:=[1,2,4,5,6,7,8,9,10,11,12,13,14,15,16,17,18,20,21,22,24,25,26,27,29,30,31,32,33,34,35,36,37,38,40,42,43,44,45,46,47,48,49,50,51,52,53,54,55,56,57]
abbrev cO(n:Str)(t t1 t2:Nat)(l a f:Int)(v1 v2 v3 v4 v5 v6:Value)(u:Int)(t3:Nat):Obj:=⟨.type "code",none,.fields #[.str n t,.str n t1,.str "/claim/cut.py" t2,.int l 0,.int a 0,.int 0 0,.int 0 0,.int f 0,v1,.bool true,.int 181 0,v2,v3,v4,v5,v6,.int u 0,.int l 0,.str "/claim/cut.py" t3],#[]⟩
abbrev fO(n:Str)(s:Stmt)(m:Value)(c:Addr):Obj:=⟨.type "function",none,.func (PySem.W.fnOf n n (cH s) (bV s) (av s) .none .none .none m none (.ref c) .none),#[]⟩
def o3(P:Params):Obj:=⟨.type "dict",none,(.dict #[en P "__name__" 165 (.str "law_quadwords_k50_whole_moves" 527),en P "__doc__" 166 .none,en P "__package__" 167 .none,en P "__loader__" 168 (.builtin "__main__.__loader__#opaque"),en P "__spec__" 169 .none,en P "__annotations__" 170 (.ref 6),en P "__builtins__" 171 (.ref 4),en P "__file__" 173 (.str "/claim/cut.py" 172),en P "__cached__" 174 .none,en P "QuadError" 206 (.ref 24),en P "NoMakers" 222 (.ref 37),en P "LETTER_PLACES" 237 (.ref 40),en P "back_place" 244 (.ref 47),en P "turned" 250 (.ref 52),en P "put_behind" 259 (.ref 59),en P "joined" 268 (.ref 66),en P "petal" 274 (.ref 71),en P "petals" 285 (.ref 78),en P "turned_way" 296 (.ref 85),en P "lay" 308 (.ref 92),en P "lifted" 320 (.ref 99),en P "moved" 334 (.ref 106),en P "merged" 340 (.ref 111),en P "meeting_of" 354 (.ref 118),en P "row_length" 361 (.ref 125),en P "folded" 377 (.ref 132),en P "is_whole" 386 (.ref 139),en P "is_table" 392 (.ref 144),en P "worth" 403 (.ref 151),en P "LETTER_BACKS" 418 (.ref 152),en P "is_wide" 429 (.ref 159),en P "power" 437 (.ref 166),en P "wide_word_within" 453 (.ref 173),en P "MOST_WIDE_MAKERS" 457 (.int 8 456),en P "LONGEST_WIDE_MAKER" 459 (.int 10 458),en P "wide_maker_word" 467 (.ref 180),en P "wide_maker_words" 473 (.ref 185),en P "found_states" 486 (.ref 192),en P "numbered" 492 (.ref 197),en P "graph_of" 498 (.ref 202),en P "rank" 504 (.ref 207),en P "is_full" 510 (.ref 212),en P "index" 518 (.ref 219),en P "moves" 526 (.ref 224),en P "_law_draws" 539 (.ref 231),en P "_law_draw" 548 (.ref 238),en P "_law_other_way" 555 (.ref 245),en P "_law_short" 564 (.ref 252),en P "_law_back_word" 570 (.ref 257),en P "_law_basis" 584 (.ref 264),en P "_law_graph" 596 (.ref 271),en P "_law_full_makers" 602 (.ref 276),en P "_law_wide_text" 613 (.ref 283),en P "_law_wide_makers" 628 (.ref 290),en P "_law_times" 640 (.ref 297),en P "_law_made" 649 (.ref 304),en P "_law_of_letters" 655 (.ref 309),en P "_law_ways" 661 (.ref 314),en P "_law_walked" 672 (.ref 321),en P "law" 678 (.ref 326)] 60),#[]⟩
def o23(P:Params):Obj:=⟨.type "dict",none,(.dict #[en P "__module__" 196 (.str "quadwords.errors" 187),en P "__firstlineno__" 200 (.int 2 199),en P "__static_attributes__" 201 (.ref 22),en P "__weakref__" 203 (.ref 25),en P "__doc__" 204 .none] 3),#[]⟩
def o24(P:Params):Obj:=⟨.type "type",none,(.cls ⟨"QuadError",[.type "ValueError"],[.ref 24,.type "ValueError",.type "Exception",.type "BaseException",.type "object"],23,"QuadError",true,[],[.ref 37],false,none,false⟩),#[some (.ref 15),none,some (.str "QuadError" 189),some (.str "QuadError" 197),some (.builtin "ValueError.__new__"),some (.bool true)]⟩
def o36(P:Params):Obj:=⟨.type "dict",none,(.dict #[en P "__module__" 214 (.str "quadwords.errors" 187),en P "__firstlineno__" 218 (.int 4 217),en P "__static_attributes__" 219 (.ref 35),en P "__doc__" 220 .none] 2),#[]⟩
def o37(P:Params):Obj:=⟨.type "type",none,(.cls ⟨"NoMakers",[.ref 24],[.ref 37,.ref 24,.type "ValueError",.type "Exception",.type "BaseException",.type "object"],36,"NoMakers",true,[],[],false,none,false⟩),#[some (.ref 28),none,some (.str "NoMakers" 207),some (.str "NoMakers" 215),some (.builtin "ValueError.__new__"),some (.bool true)]⟩
def o40(P:Params):Obj:=⟨.type "dict",none,(.dict #[en P "u" 225 (.int 0 226),en P "v" 227 (.int 1 228),en P "U" 229 (.int 2 230),en P "V" 231 (.int 3 232)] 4),#[]⟩
def o46(P:Params):Obj:=cO "back_place" 238 239 240 8 1 3 (.ref 41) (.ref 42) .none (.ref 43) (.ref 44) (.ref 45) 242 243
def o47(P:Params):Obj:=fO "back_place" (top 5) (.str "quadwords.folds" 223) 46
def o51(P:Params):Obj:=cO "turned" 245 246 247 10 1 3 (.ref 48) (.ref 49) .none .none .none (.ref 50) 248 249
def o52(P:Params):Obj:=fO "turned" (top 6) (.str "quadwords.folds" 223) 51
def o58(P:Params):Obj:=cO "put_behind" 251 252 253 12 2 3 (.ref 53) (.ref 54) .none (.ref 55) (.ref 56) (.ref 57) 257 258
def o59(P:Params):Obj:=fO "put_behind" (top 7) (.str "quadwords.folds" 223) 58
def o65(P:Params):Obj:=cO "joined" 260 261 262 18 2 3 (.ref 60) (.ref 61) .none (.ref 62) (.ref 63) (.ref 64) 266 267
def o66(P:Params):Obj:=fO "joined" (top 8) (.str "quadwords.folds" 223) 65
def o70(P:Params):Obj:=cO "petal" 269 270 271 22 3 3 (.ref 67) (.ref 68) .none .none .none (.ref 69) 272 273
def o71(P:Params):Obj:=fO "petal" (top 9) (.str "quadwords.folds" 223) 70
def o77(P:Params):Obj:=cO "petals" 275 276 277 27 2 3 (.ref 72) (.ref 73) .none (.ref 74) (.ref 75) (.ref 76) 283 284
def o78(P:Params):Obj:=fO "petals" (top 10) (.str "quadwords.folds" 223) 77
def o84(P:Params):Obj:=cO "turned_way" 286 287 288 32 1 3 (.ref 79) (.ref 80) .none (.ref 81) (.ref 82) (.ref 83) 294 295
def o85(P:Params):Obj:=fO "turned_way" (top 11) (.str "quadwords.folds" 223) 84
def o91(P:Params):Obj:=cO "lay" 297 298 299 35 2 3 (.ref 86) (.ref 87) .none (.ref 88) (.ref 89) (.ref 90) 306 307
def o92(P:Params):Obj:=fO "lay" (top 12) (.str "quadwords.folds" 223) 91
def o98(P:Params):Obj:=cO "lifted" 309 310 311 38 2 3 (.ref 93) (.ref 94) .none (.ref 95) (.ref 96) (.ref 97) 318 319
def o99(P:Params):Obj:=fO "lifted" (top 13) (.str "quadwords.folds" 223) 98
def o105(P:Params):Obj:=cO "moved" 321 322 323 47 4 3 (.ref 100) (.ref 101) .none (.ref 102) (.ref 103) (.ref 104) 332 333
def o106(P:Params):Obj:=fO "moved" (top 14) (.str "quadwords.folds" 223) 105
def o110(P:Params):Obj:=cO "merged" 335 336 337 54 3 3 (.ref 107) (.ref 108) .none .none .none (.ref 109) 338 339
def o111(P:Params):Obj:=fO "merged" (top 15) (.str "quadwords.folds" 223) 110
def o117(P:Params):Obj:=cO "meeting_of" 341 342 343 59 2 3 (.ref 112) (.ref 113) .none (.ref 114) (.ref 115) (.ref 116) 352 353
def o118(P:Params):Obj:=fO "meeting_of" (top 16) (.str "quadwords.folds" 223) 117
def o124(P:Params):Obj:=cO "row_length" 355 356 357 65 1 3 (.ref 119) (.ref 120) .none (.ref 121) (.ref 122) (.ref 123) 359 360
def o125(P:Params):Obj:=fO "row_length" (top 17) (.str "quadwords.folds" 223) 124
def o131(P:Params):Obj:=cO "folded" 362 363 364 67 1 3 (.ref 126) (.ref 127) .none (.ref 128) (.ref 129) (.ref 130) 375 376
def o132(P:Params):Obj:=fO "folded" (top 18) (.str "quadwords.folds" 223) 131
def o138(P:Params):Obj:=cO "is_whole" 380 381 382 85 1 3 (.ref 133) (.ref 134) .none (.ref 135) (.ref 136) (.ref 137) 384 385
def o139(P:Params):Obj:=fO "is_whole" (top 20) (.str "quadwords.tables" 378) 138
def o143(P:Params):Obj:=cO "is_table" 387 388 389 87 1 3 (.ref 140) (.ref 141) .none .none .none (.ref 142) 390 391
def o144(P:Params):Obj:=fO "is_table" (top 21) (.str "quadwords.tables" 378) 143
def o150(P:Params):Obj:=cO "worth" 393 394 395 89 1 3 (.ref 145) (.ref 146) .none (.ref 147) (.ref 148) (.ref 149) 401 402
def o151(P:Params):Obj:=fO "worth" (top 22) (.str "quadwords.tables" 378) 150
def o152(P:Params):Obj:=⟨.type "dict",none,(.dict #[en P "u" 406 (.str "U" 407),en P "v" 408 (.str "V" 409),en P "U" 410 (.str "u" 411),en P "V" 412 (.str "v" 413)] 4),#[]⟩
def o158(P:Params):Obj:=cO "is_wide" 419 420 421 94 1 3 (.ref 153) (.ref 154) .none (.ref 155) (.ref 156) (.ref 157) 427 428
def o159(P:Params):Obj:=fO "is_wide" (top 25) (.str "quadwords.wide" 404) 158
def o165(P:Params):Obj:=cO "power" 430 431 432 99 2 3 (.ref 160) (.ref 161) .none (.ref 162) (.ref 163) (.ref 164) 435 436
def o166(P:Params):Obj:=fO "power" (top 26) (.str "quadwords.wide" 404) 165
def o172(P:Params):Obj:=cO "wide_word_within" 438 439 440 101 2 3 (.ref 167) (.ref 168) .none (.ref 169) (.ref 170) (.ref 171) 451 452
def o173(P:Params):Obj:=fO "wide_word_within" (top 27) (.str "quadwords.wide" 404) 172
def o179(P:Params):Obj:=cO "wide_maker_word" 460 461 462 123 1 3 (.ref 174) (.ref 175) .none (.ref 176) (.ref 177) (.ref 178) 465 466
def o180(P:Params):Obj:=fO "wide_maker_word" (top 31) (.str "quadwords.graphs" 454) 179
def o184(P:Params):Obj:=cO "wide_maker_words" 468 469 470 130 1 3 (.ref 181) (.ref 182) .none .none .none (.ref 183) 471 472
def o185(P:Params):Obj:=fO "wide_maker_words" (top 32) (.str "quadwords.graphs" 454) 184
def o191(P:Params):Obj:=cO "found_states" 474 475 476 134 2 3 (.ref 186) (.ref 187) .none (.ref 188) (.ref 189) (.ref 190) 484 485
def o192(P:Params):Obj:=fO "found_states" (top 33) (.str "quadwords.graphs" 454) 191
def o196(P:Params):Obj:=cO "numbered" 487 488 489 146 2 3 (.ref 193) (.ref 194) .none .none .none (.ref 195) 490 491
def o197(P:Params):Obj:=fO "numbered" (top 34) (.str "quadwords.graphs" 454) 196
def o201(P:Params):Obj:=cO "graph_of" 493 494 495 149 1 3 (.ref 198) (.ref 199) .none .none .none (.ref 200) 496 497
def o202(P:Params):Obj:=fO "graph_of" (top 35) (.str "quadwords.graphs" 454) 201
def o206(P:Params):Obj:=cO "rank" 499 500 501 154 1 3 (.ref 203) (.ref 204) .none .none .none (.ref 205) 502 503
def o207(P:Params):Obj:=fO "rank" (top 36) (.str "quadwords.graphs" 454) 206
def o211(P:Params):Obj:=cO "is_full" 505 506 507 158 1 3 (.ref 208) (.ref 209) .none .none .none (.ref 210) 508 509
def o212(P:Params):Obj:=fO "is_full" (top 37) (.str "quadwords.graphs" 454) 211
def o218(P:Params):Obj:=cO "index" 511 512 513 160 1 3 (.ref 213) (.ref 214) .none (.ref 215) (.ref 216) (.ref 217) 516 517
def o219(P:Params):Obj:=fO "index" (top 38) (.str "quadwords.graphs" 454) 218
def o223(P:Params):Obj:=cO "moves" 521 522 523 164 1 3 (.ref 220) (.ref 221) .none .none .none (.ref 222) 524 525
def o224(P:Params):Obj:=fO "moves" (top 40) (.str "quadwords.moves" 519) 223
def o230(P:Params):Obj:=cO "_law_draws" 529 530 531 170 2 3 (.ref 225) (.ref 226) .none (.ref 227) (.ref 228) (.ref 229) 537 538
def o231(P:Params):Obj:=fO "_law_draws" (top 42) (.str "law_quadwords_k50_whole_moves" 527) 230
def o237(P:Params):Obj:=cO "_law_draw" 540 541 542 180 2 3 (.ref 232) (.ref 233) .none (.ref 234) (.ref 235) (.ref 236) 546 547
def o238(P:Params):Obj:=fO "_law_draw" (top 43) (.str "law_quadwords_k50_whole_moves" 527) 237
def o244(P:Params):Obj:=cO "_law_other_way" 549 550 551 187 1 3 (.ref 239) (.ref 240) .none (.ref 241) (.ref 242) (.ref 243) 553 554
def o245(P:Params):Obj:=fO "_law_other_way" (top 44) (.str "law_quadwords_k50_whole_moves" 527) 244
def o251(P:Params):Obj:=cO "_law_short" 556 557 558 189 1 3 (.ref 246) (.ref 247) .none (.ref 248) (.ref 249) (.ref 250) 562 563
def o252(P:Params):Obj:=fO "_law_short" (top 45) (.str "law_quadwords_k50_whole_moves" 527) 251
def o256(P:Params):Obj:=cO "_law_back_word" 565 566 567 197 1 3 (.ref 253) (.ref 254) .none .none .none (.ref 255) 568 569
def o257(P:Params):Obj:=fO "_law_back_word" (top 46) (.str "law_quadwords_k50_whole_moves" 527) 256
def o263(P:Params):Obj:=cO "_law_basis" 571 572 573 199 1 3 (.ref 258) (.ref 259) .none (.ref 260) (.ref 261) (.ref 262) 582 583
def o264(P:Params):Obj:=fO "_law_basis" (top 47) (.str "law_quadwords_k50_whole_moves" 527) 263
def o270(P:Params):Obj:=cO "_law_graph" 585 586 587 216 1 3 (.ref 265) (.ref 266) .none (.ref 267) (.ref 268) (.ref 269) 594 595
def o271(P:Params):Obj:=fO "_law_graph" (top 48) (.str "law_quadwords_k50_whole_moves" 527) 270
def o275(P:Params):Obj:=cO "_law_full_makers" 597 598 599 228 1 3 (.ref 272) (.ref 273) .none .none .none (.ref 274) 600 601
def o276(P:Params):Obj:=fO "_law_full_makers" (top 49) (.str "law_quadwords_k50_whole_moves" 527) 275
def o282(P:Params):Obj:=cO "_law_wide_text" 603 604 605 247 2 3 (.ref 277) (.ref 278) .none (.ref 279) (.ref 280) (.ref 281) 611 612
def o283(P:Params):Obj:=fO "_law_wide_text" (top 50) (.str "law_quadwords_k50_whole_moves" 527) 282
def o289(P:Params):Obj:=cO "_law_wide_makers" 614 615 616 255 2 3 (.ref 284) (.ref 285) .none (.ref 286) (.ref 287) (.ref 288) 626 627
def o290(P:Params):Obj:=fO "_law_wide_makers" (top 51) (.str "law_quadwords_k50_whole_moves" 527) 289
def o296(P:Params):Obj:=cO "_law_times" 629 630 631 270 2 3 (.ref 291) (.ref 292) .none (.ref 293) (.ref 294) (.ref 295) 638 639
def o297(P:Params):Obj:=fO "_law_times" (top 52) (.str "law_quadwords_k50_whole_moves" 527) 296
def o303(P:Params):Obj:=cO "_law_made" 641 642 643 277 1 3 (.ref 298) (.ref 299) .none (.ref 300) (.ref 301) (.ref 302) 647 648
def o304(P:Params):Obj:=fO "_law_made" (top 53) (.str "law_quadwords_k50_whole_moves" 527) 303
def o308(P:Params):Obj:=cO "_law_of_letters" 650 651 652 282 1 3 (.ref 305) (.ref 306) .none .none .none (.ref 307) 653 654
def o309(P:Params):Obj:=fO "_law_of_letters" (top 54) (.str "law_quadwords_k50_whole_moves" 527) 308
def o313(P:Params):Obj:=cO "_law_ways" 656 657 658 286 1 3 (.ref 310) (.ref 311) .none .none .none (.ref 312) 659 660
def o314(P:Params):Obj:=fO "_law_ways" (top 55) (.str "law_quadwords_k50_whole_moves" 527) 313
def o320(P:Params):Obj:=cO "_law_walked" 662 663 664 314 2 3 (.ref 315) (.ref 316) .none (.ref 317) (.ref 318) (.ref 319) 670 671
def o321(P:Params):Obj:=fO "_law_walked" (top 56) (.str "law_quadwords_k50_whole_moves" 527) 320
def o325(P:Params):Obj:=cO "law" 673 674 675 323 1 3 (.ref 322) (.ref 323) .none .none .none (.ref 324) 676 677
def o326(P:Params):Obj:=fO "law" (top 57) (.str "law_quadwords_k50_whole_moves" 527) 325
def K(P:Params):Frag:=(nat_lit 3,o3 P)::(nat_lit 23,o23 P)::(nat_lit 24,o24 P)::(nat_lit 36,o36 P)::(nat_lit 37,o37 P)::(nat_lit 40,o40 P)::(nat_lit 46,o46 P)::(nat_lit 47,o47 P)::(nat_lit 51,o51 P)::(nat_lit 52,o52 P)::(nat_lit 58,o58 P)::(nat_lit 59,o59 P)::(nat_lit 65,o65 P)::(nat_lit 66,o66 P)::(nat_lit 70,o70 P)::(nat_lit 71,o71 P)::(nat_lit 77,o77 P)::(nat_lit 78,o78 P)::(nat_lit 84,o84 P)::(nat_lit 85,o85 P)::(nat_lit 91,o91 P)::(nat_lit 92,o92 P)::(nat_lit 98,o98 P)::(nat_lit 99,o99 P)::(nat_lit 105,o105 P)::(nat_lit 106,o106 P)::(nat_lit 110,o110 P)::(nat_lit 111,o111 P)::(nat_lit 117,o117 P)::(nat_lit 118,o118 P)::(nat_lit 124,o124 P)::(nat_lit 125,o125 P)::(nat_lit 131,o131 P)::(nat_lit 132,o132 P)::(nat_lit 138,o138 P)::(nat_lit 139,o139 P)::(nat_lit 143,o143 P)::(nat_lit 144,o144 P)::(nat_lit 150,o150 P)::(nat_lit 151,o151 P)::(nat_lit 152,o152 P)::(nat_lit 158,o158 P)::(nat_lit 159,o159 P)::(nat_lit 165,o165 P)::(nat_lit 166,o166 P)::(nat_lit 172,o172 P)::(nat_lit 173,o173 P)::(nat_lit 179,o179 P)::(nat_lit 180,o180 P)::(nat_lit 184,o184 P)::(nat_lit 185,o185 P)::(nat_lit 191,o191 P)::(nat_lit 192,o192 P)::(nat_lit 196,o196 P)::(nat_lit 197,o197 P)::(nat_lit 201,o201 P)::(nat_lit 202,o202 P)::(nat_lit 206,o206 P)::(nat_lit 207,o207 P)::(nat_lit 211,o211 P)::(nat_lit 212,o212 P)::(nat_lit 218,o218 P)::(nat_lit 219,o219 P)::(nat_lit 223,o223 P)::(nat_lit 224,o224 P)::(nat_lit 230,o230 P)::(nat_lit 231,o231 P)::(nat_lit 237,o237 P)::(nat_lit 238,o238 P)::(nat_lit 244,o244 P)::(nat_lit 245,o245 P)::(nat_lit 251,o251 P)::(nat_lit 252,o252 P)::(nat_lit 256,o256 P)::(nat_lit 257,o257 P)::(nat_lit 263,o263 P)::(nat_lit 264,o264 P)::(nat_lit 270,o270 P)::(nat_lit 271,o271 P)::(nat_lit 275,o275 P)::(nat_lit 276,o276 P)::(nat_lit 282,o282 P)::(nat_lit 283,o283 P)::(nat_lit 289,o289 P)::(nat_lit 290,o290 P)::(nat_lit 296,o296 P)::(nat_lit 297,o297 P)::(nat_lit 303,o303 P)::(nat_lit 304,o304 P)::(nat_lit 308,o308 P)::(nat_lit 309,o309 P)::(nat_lit 313,o313 P)::(nat_lit 314,o314 P)::(nat_lit 320,o320 P)::(nat_lit 321,o321 P)::(nat_lit 325,o325 P)::(nat_lit 326,o326 P)::[]
def kAs:List Addr:=[3,23,24,36,37,40,46,47,51,52,58,59,65,66,70,71,77,78,84,85,91,92,98,99,105,106,110,111,117,118,124,125,131,132,138,139,143,144,150,151,152,158,159,165,166,172,173,179,180,184,185,191,192,196,197,201,202,206,207,211,212,218,219,223,224,230,231,237,238,244,245,251,252,256,257,263,264,270,271,275,276,282,283,289,290,296,297,303,304,308,309,313,314,320,321,325,326]
set_option maxRecDepth 100000 in
theorem keyF(w:World):mF pw (view pw keep) loose (xt PySem.Challenge.rw_quadwords_k50_whole_moves (view pw keep)) K kAs 4114 (w.withFollow "special-get-raises" false):=by kernel_rfl
set_option maxRecDepth 100000 in
theorem keyT(w:World):mF pw (view pw keep) loose (xt PySem.Challenge.rw_quadwords_k50_whole_moves (view pw keep)) K kAs 4114 (w.withFollow "special-get-raises" true):=by kernel_rfl
theorem key:∀w,vL (denote treeTable) stepOk stepT openSeen pw (view pw keep) loose (xt PySem.Challenge.rw_quadwords_k50_whole_moves (view pw keep)) K kAs 4114 w:=key2 "special-get-raises" keyF keyT
end
end Hd
open PySem PySem.W PyProof.Rows
local macro_rules | `(tactic| walk_at "fin")=>`(tactic| ((refine' K3.FIn.of ?a ?l ?c ?k); (case a=>k_is); (case l=>k_is); (case c=>k_is); (case k=>k_is)))
set_option maxRecDepth 100000 in
set_option maxHeartbeats 0 in
theorem PySem.Challenge.cw_quadwords_k50_whole_moves_holds : PySem.Challenge.rw_quadwords_k50_whole_moves.Holds := by
 w_on
 refine Hd.head (q:=view Hd.pw Hd.keep) (loose:=Hd.loose) (K:=Hd.K) (as:=Hd.kAs) (by decide +kernel) (by kernel_rfl) (by decide) (fun s=>rfl) Hd.key (fun P=>by kernel_rfl) (by rfl) (by rfl) (by rfl) (by rfl) (by decide +kernel) ⟨rfl,rfl,rfl,rfl,rfl,by decide +kernel⟩ ?hw ?hc
 case hw=>w_witness2
 k_fill
 refine K3.walk (l:=PySem.Challenge.rw_quadwords_k50_whole_moves) rfl rfl (fun w h Y=>Y) ?F
 case F=>
  intro w mg fa h KX G hmg
  refine' K3.all_mk KX G hmg ?AY ?CK ?AZ ?AX ?Bp ?CY ?Bo ?AW ?CL ?De ?Dv ?Dt ?CT ?CB ?Dl ?CA ?CM ?Dm ?Dg ?CU ?CN ?CQ ?CO ?CP ?CF ?CZ ?Df ?CG ?CW ?CI ?Di ?CH ?CJ ?CV ?a_ow ?CC ?Dj ?Du ?Dp ?a_gr ?Bq ?Cz ?CD ?Do ?BW ?l_law ?c_law ?k_law ?Dz ?DA ?e_LB ?l_LB ?s_LB ?e_LP ?l_LP ?s_LP ?DF ?Bt ?Aq ?Bb ?Bu ?DG ?DC ?DE ?Ba ?DH ?DI ?DB ?DJ ?AK
  (case AY=>walk_at "fin")
  (case CK=>walk_at "fin")
  (case AZ=>walk_at "fin")
  (case AX=>walk_at "fin")
  (case Bp=>walk_at "fin")
  (case CY=>walk_at "fin")
  (case Bo=>walk_at "fin")
  (case AW=>walk_at "fin")
  (case CL=>walk_at "fin")
  (case De=>walk_at "fin")
  (case Dv=>walk_at "fin")
  (case Dt=>walk_at "fin")
  (case CT=>walk_at "fin")
  (case CB=>walk_at "fin")
  (case Dl=>walk_at "fin")
  (case CA=>walk_at "fin")
  (case CM=>walk_at "fin")
  (case Dm=>walk_at "fin")
  (case Dg=>walk_at "fin")
  (case CU=>walk_at "fin")
  (case CN=>walk_at "fin")
  (case CQ=>walk_at "fin")
  (case CO=>walk_at "fin")
  (case CP=>walk_at "fin")
  (case CF=>walk_at "fin")
  (case CZ=>walk_at "fin")
  (case Df=>walk_at "fin")
  (case CG=>walk_at "fin")
  (case CW=>walk_at "fin")
  (case CI=>walk_at "fin")
  (case Di=>walk_at "fin")
  (case CH=>walk_at "fin")
  (case CJ=>walk_at "fin")
  (case CV=>walk_at "fin")
  (case a_ow=>walk_at "fin")
  (case CC=>walk_at "fin")
  (case Dj=>walk_at "fin")
  (case Du=>walk_at "fin")
  (case Dp=>walk_at "fin")
  (case a_gr=>walk_at "fin")
  (case Bq=>walk_at "fin")
  (case Cz=>walk_at "fin")
  (case CD=>walk_at "fin")
  (case Do=>walk_at "fin")
  (case BW=>k_is)
  (case l_law=>k_is)
  (case c_law=>k_is)
  (case k_law=>k_is)
  (case Dz=>k_is)
  (case DA=>k_is)
  (case e_LB=>k_is)
  (case l_LB=>k_is)
  (case s_LB=>decide)
  (case e_LP=>k_is)
  (case l_LP=>k_is)
  (case s_LP=>decide)
  (case DF=>k_is)
  (case Bt=>k_is)
  (case Aq=>k_is)
  (case Bb=>k_is)
  (case Bu=>k_is)
  (case DG=>k_is)
  (case DC=>k_is)
  (case DE=>k_is)
  (case Ba=>k_is)
  (case DH=>k_is)
  (case DI=>k_is)
  (case DB=>k_is)
  (case DJ=>k_is)
  (case AK=>k_is)
