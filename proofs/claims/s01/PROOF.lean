import PyProof.Rows.All
import Wide.All
import OpenK.AllK
import Wide.FinOn
import PyProof.EqAt
import PyProof.EqKinds
import PyProof.TupleCall
import KE.BitLaws
import Open.SpecLaws
import KE.OsHead
import KE.OsGo
import LoRun
import PyWrloan
import KE.KDictLaws
import KE.IntTextLaws
import PySem.Challenge.RW_sharedlists_s01_answers
set_option Elab.async false
set_option linter.all false
set_option maxRecDepth 100000
set_option maxHeartbeats 2000000
def aa:=@List.getElem?_eq_some_iff
def af:=@List.getElem?_eq_getElem
def ag:=@List.mem_cons
def ah:=@List.getD_eq_getElem?_getD
def ai:=@Nat.le_trans
def aj:=@if_neg
def ak:=@List.mem_cons_of_mem
def ao:=@decide_eq_false
def aq:=@if_pos
def au:=@Nat.le_refl
def aA:=@List.map_append
def aB:=@List.length_reverse
def aC:=@List.mem_cons_self
def aD:=@PySem.wpAny_bind
def aE:=@Nat.lt_of_le_of_lt
def aF:=@List.getElem?_map
def aG:=@List.length_cons
def aH:=@Bool.and_eq_true
def aI:=@decide_eq_true
def aJ:=@List.not_mem_nil
def aK:=@PySem.Heap.get?_push_of_some
def aL:=@List.size_toArray
def aM:=@PySem.Heap.lt_size
def aN:=@Bool.false_ne_true
def aO:=@Nat.zero_le
def aP:=@List.mem_of_getElem?
def aQ:=@of_decide_eq_true
def aR:=@Nat.lt_of_lt_of_le
def aS:=@Array.getD_eq_getD_getElem?
def aT:=@List.getElem?_append_left
def aU:=@PySem.wpAny_pure
def aV:=@List.length_take
def aW:=@beq_eq_false_iff_ne
def aX:=@List.reverse_cons
def aY:=@decide_eq_true_eq
def aZ:=@List.length_drop
def a8:=@PySem.Heap.get?_push_size
def a9:=@Option.some.inj
def ba:=@List.mem_append_right
def bc:=@Option.map_eq_some_iff
def bg:=@Nat.le_of_lt
def bh:=@List.map_cons
def bj:=@of_decide_eq_false
def bo:=@List.mem_of_mem_drop
def bp:=@Int.toNat_natCast
def bq:=@Nat.ne_of_lt
def bt:=@Nat.lt_succ_self
def bu:=@Nat.le_of_succ_le
def bw:=@or_false
def bx:=@List.mem_map
def bz:=@List.mem_singleton
def bA:=@PyProof.Rows.callWith_type1
def bB:=@List.getElem_mem
def bC:=@List.nodup_append
def bD:=@PySem.Calls.callWith_builtin
def bE:=@PySem.Heap.size_push
def bF:=@List.length_set
def bG:=@Nat.lt_irrefl
def bH:=@List.getElem?_eq_none
def bI:=@PySem.Calls.spliced_cons
def bJ:=@List.all_eq_true
def bK:=@Bool.not_eq_true
def bL:=@List.getElem?_set_self
def bM:=@PySem.wpAny_truthy_bool
def bN:=@Int.toNat_of_nonneg
def bO:=@List.mem_append
def bP:=@List.length_singleton
def bQ:=@List.mem_iff_getElem?
def bR:=@PySem.wpAny_Call_Name_kw
def bS:=@Bool.false_eq_true
def bT:=@beq_self_eq_true
def bU:=@List.dropLast_concat
def bV:=@Array.length_toList
def bW:=@PySem.wpAny_mono
def bX:=@Nat.le_add_right
def bY:=@List.map_map
def bZ:=@if_true
def b0:=@Array.getElem?_eq_getElem
def b9:=@PySem.Calls.evalArgs_plain
def cb:=@PySem.wpAny_passesOwn
def cg:=@List.nodup_cons
def cj:=@List.find?_cons
def ck:=@List.cons.injEq
def cn:=@List.append_cancel_right
def cq:=@if_false
def cu:=@Array.getElem?_push
def cv:=@Bool.and_true
def cw:=@Ne.symm
def cy:=@PySem.tupleKind_room_in1
def cz:=@Array.getElem?_toList
def cA:=@beq_iff_eq
def cB:=@PySem.Calls.spliced_nil
def cC:=@List.all_cons
def cD:=@List.any_cons
def cE:=@List.append_assoc
def cF:=@Bool.true_and
def cG:=@List.getElem?_append_right
def cH:=@List.mem_append_left
def cI:=@List.getElem?_set_ne
def cJ:=@List.drop_eq_getElem_cons
def Wx:=@List.getElem?_zip_eq_some
def Wy:=@Nat.min_le_right
def Wz:=@List.map_congr_left
def WA:=@List.reverse_append
def WB:=@PySem.wpAny_holding
def WC:=@List.append_nil
def WD:=@List.length_nil
def WE:=@PySem.wpAny_specialOf
def WG:=@List.length_eq_zero_iff
def WH:=@List.findIdx?_eq_some_iff_getElem
def WI:=@List.foldl_cons
def WJ:=@List.set_cons_zero
def WK:=@List.set_cons_succ
def WM:=@Nat.min_eq_left
def WN:=@Bool.not_true
def WO:=@List.take_of_length_le
def WQ:=@PySem.wpAny_pyIter_enum
def WR:=@PySem.F.slot_tuple_hash
def WS:=@List.mem_range
def WT:=@List.length_replicate
def WU:=@PySem.isSubtype_tuple_tuple
def WV:=@List.getElem?_reverse
def WW:=@List.drop_length
def WX:=@List.countP_cons
def WY:=@List.take_length
def WZ:=@List.filter_cons
def W0:=@Nat.succ_ne_zero
def W3:=@List.drop_eq_nil_iff
def W5:=@List.range_eq_range'
def W6:=@PySem.lookup_relabel_local
def W7:=@List.dropLast_concat_getLast
def W8:=@List.filterMap_cons
def W9:=@PySem.wpAny_execs_nil
def Xa:=@Bool.eq_iff_iff
def Xb:=@PySem.pushCells_keeps
def Xc:=@Bool.or_eq_true
def Xd:=@Option.map_some
def Xe:=@List.range_succ
def Xf:=@UInt8.toNat_inj
def Xg:=@List.length_zip
def Xh:=@PySem.F.slot_tuple_eq
def Xi:=@PySem.Heap.SameBut.update
def Xj:=@List.findSome?_eq_none_iff
def Xk:=@List.map_nil
def Xl:=@PySem.call_meetsIn
def Xm:=@List.find?_eq_none
def Xn:=@Nat.sub_add_cancel
def Xo:=@List.countP_append
def Xp:=@PySem.wpAny_tupleItemsOf
def Xq:=@Array.forIn_toList
def Xr:=@UInt8.toNat_ofNat'
def Xs:=@Nat.succ_pos
def Xt:=@List.getElem?_drop
def Xu:=@Bool.and_false
def Xv:=@List.getElem?_eq_none_iff
def Xw:=@List.mem_of_find?_eq_some
def Xx:=@Option.isSome_iff_exists
def Xy:=@List.getElem?_take_of_lt
def Xz:=@Nat.lt_succ_of_lt
def XA:=@Option.isSome_map
def XB:=@PySem.wpAny_Call_method
def XC:=@List.length_range
def XD:=@Bool.false_or
def XE:=@Nat.toDigits_of_lt_base
def XF:=@Prod.mk.injEq
def XG:=@Nat.add_assoc
def XH:=@List.cons_append
def XI:=@PySem.wpAny_isInstance
def XJ:=@List.mem_reverse
def XM:=@List.range_succ_eq_map
def XN:=@List.reverse_singleton
def XO:=@List.find?_cons_of_pos
def XQ:=@List.find?_cons_of_neg
def XR:=@List.mem_filter
def XS:=@Nat.ne_of_gt
def XT:=@Nat.le_of_eq
def XU:=@PySem.codeAny_mono
def XW:=@List.of_mem_zip
def XX:=@Bool.true_or
def XY:=@Nat.not_lt_zero
def XZ:=@PySem.typeIs_str
def X0:=@Bool.false_and
def X1:=@Nat.le_succ
def X2:=@List.map_drop
def X3:=@not_or
namespace L2
open PySem PySem.Spec PyProof.Rows
abbrev Key:=Sum Int Str
def xR:Key->Value->Bool
 | .inl k,v=>Value.isInt k v
 | .inr x,v=>Value.isStrOf x v
def RW (w:World):Key->Int
 | .inl k=>hashInt k
 | .inr x=>hashStr w x
theorem ij:∀{k:Key} {v:Value},xR k v=true->(∃i t,k=Sum.inl i/\v=Value.int i t)\/(∃x t,k=Sum.inr x/\v=Value.str x t)
 | .inl i,v,h=>by
  obtain⟨t,e⟩:=Value.isInt_shape (k:=i) (v:=v) h;exact .inl ⟨i,t,rfl,e⟩
 | .inr x,v,h=>by
  obtain⟨t,e⟩:=Value.isStrOf_shape (x:=x) (v:=v) h;exact .inr ⟨x,t,rfl,e⟩
theorem KZ (i:Int) (t:Tok):xR (.inl i) (.int i t)=true:=by simp[xR,Value.isInt]
theorem K0 (x:Str) (t:Tok):xR (.inr x) (.str x t)=true:=by simp[xR,Value.isStrOf]
theorem RY (a b:Int):decide ((Sum.inl a:Key)=Sum.inl b)=(a==b):=by
 by_cases e:a=b
 .subst e;simp
 .have h:¬(Sum.inl a:Key)=Sum.inl b:=fun q=>e (Sum.inl.inj q)
  rw[ao h];exact(aW.mpr e).symm
theorem RZ (a b:Str):decide ((Sum.inr a:Key)=Sum.inr b)=decide (a=b):=by
 by_cases e:a=b
 .subst e;simp
 .have h:¬(Sum.inr a:Key)=Sum.inr b:=fun q=>e (Sum.inr.inj q)
  rw[ao h,ao e]
theorem R7 (a:Int) (b:Str):decide ((Sum.inl a:Key)=Sum.inr b)=false:=ao (fun q=>nomatch q)
theorem R8 (a:Str) (b:Int):decide ((Sum.inr a:Key)=Sum.inl b)=false:=ao (fun q=>nomatch q)
def fk (prog:Program) (w:World):PySem.KeyKind prog w Key where
 is:=xR
 hash:=RW w
 inj:=fun v a b ha hb=>by
  rcases ij ha with⟨i,t,rfl,rfl⟩|⟨x,t,rfl,rfl⟩
  .rcases ij hb with⟨j,u,rfl,e⟩|⟨y,u,rfl,e⟩
   .injection e with e1 _;rw[e1]
   .exact nomatch e
  .rcases ij hb with⟨j,u,rfl,e⟩|⟨y,u,rfl,e⟩
   .exact nomatch e
   .injection e with e1 _;rw[e1]
 byValue:=fun k v h=>by
  rcases ij h with⟨i,t,rfl,rfl⟩|⟨x,t,rfl,rfl⟩<;>rfl
 pyHash:=fun hv h=>by
  rcases ij hv with⟨i,t,rfl,rfl⟩|⟨x,t,rfl,rfl⟩
  .exact wpAny_pyHash_int h
  .exact wpAny_pyHash_str h
 eqBool:=fun hu hv h=>by
  rcases ij hu with⟨i,t,rfl,rfl⟩|⟨x,t,rfl,rfl⟩
  .rcases ij hv with⟨j,u,rfl,rfl⟩|⟨y,u,rfl,rfl⟩
   .rw[RY]at h;exact wpAny_eqBool_int h
   .rw[R7]at h;exact SeqAt.EqAt.int_str i t y u _ _ _ _ h
  .rcases ij hv with⟨j,u,rfl,rfl⟩|⟨y,u,rfl,rfl⟩
   .rw[R8]at h;exact SeqAt.EqAt.str_int x t j u _ _ _ _ h
   .rw[RZ]at h;exact wpAny_eqBool_str h
 «strs»:=fun k x t v h=>by
  rcases ij h with⟨i,u,rfl,e⟩|⟨y,u,rfl,e⟩
  .exact nomatch e
  .injection e with e1 _
   subst e1;cases v<;>rfl
theorem E4 (prog:Program) (w:World) (i:Int) (t:Tok):(fk prog w).is (.inl i) (.int i t)=true:=KZ i t
theorem E5 (prog:Program) (w:World) (x:Str) (t:Tok):(fk prog w).is (.inr x) (.str x t)=true:=K0 x t
inductive V where
 |non|bl (b:Bool)|int (i:Int)|str (x:Str)|byt (b:Array UInt8)|flt (b:UInt64)|ref (a:Addr)|ty (n:String)
 deriving DecidableEq
def RelV:V->Value->Prop
 | .non,u=>u=Value.none
 | .bl b,u=>u=Value.bool b
 | .int i,u=>∃t,u=Value.int i t
 | .str x,u=>∃t,u=Value.str x t
 | .byt b,u=>∃t,u=Value.bytes b t
 | .flt b,u=>∃t,u=Value.float b t
 | .ref a,u=>u=Value.ref a
 | .ty n,u=>u=Value.type n
abbrev Vals:List V->List Value->Prop:=Paired RelV
theorem Vals.length {xs:List V} {us:List Value} (r:Vals xs us):xs.length=us.length:=Paired.length r
theorem Vals.get:∀{xs:List V} {us:List Value} {i:Nat} {x:V},Vals xs us->xs[i]?=some x->∃u,us[i]?=some u/\RelV x u
 |_,_,_,_,.nil,e=>by simp at e
 |_,_,0,_,.cons r _,e=>by simp at e;subst e;exact⟨_,rfl,r⟩
 |_,_,i+1,x,.cons _ t,e=>by
  obtain⟨u,h1,h2⟩:=Vals.get (i:=i) (x:=x) t (by simpa using e)
  exact⟨u,by simpa using h1,h2⟩
theorem Vals.set (r:RelV x u):∀{xs:List V} {us:List Value} (i:Nat),Vals xs us->Vals (xs.set i x) (us.set i u)
 |_,_,_,.nil=>.nil
 |_,_,0,.cons _ t=>.cons r t
 |_,_,i+1,.cons q t=>.cons q (Vals.set r i t)
theorem Vals.append:∀{xs ys:List V} {us ws:List Value},Vals xs us->Vals ys ws->Vals (xs++ys) (us++ws)
 |_,_,_,_,.nil,s=>s
 |_,_,_,_,.cons r t,s=>.cons r (Vals.append t s)
theorem Vals.take:∀{xs:List V} {us:List Value} (n:Nat),Vals xs us->Vals (xs.take n) (us.take n)
 |_,_,0,_=>.nil
 |_,_,_+1,.nil=>.nil
 |_,_,n+1,.cons r t=>.cons r (Vals.take n t)
theorem Vals.drop:∀{xs:List V} {us:List Value} (n:Nat),Vals xs us->Vals (xs.drop n) (us.drop n)
 |_,_,0,r=>r
 |_,_,_+1,.nil=>.nil
 |_,_,n+1,.cons _ t=>Vals.drop n t
def oT:Option V->Option Value->Prop
 |some v,some u=>RelV v u
 |none,none=>True
 |_,_=>False
def KV {κ:Type}:List (κ×V)->List (κ×Value)->Prop:=Paired fun (p:κ×V) (q:κ×Value)=>p.1=q.1/\RelV p.2 q.2
def kV:Key->V
 | .inl i=>.int i
 | .inr x=>.str x
inductive HO where
 |lst (xs:List V)
 |tup (xs:List V)
 |dK (dU:List (Key×V))|dT (dU:List (List Key×V))
 |set (S:Int->Bool) (n:Nat)
 |ins (C dx:Addr) (fs:List (Str×V))
 |own (x:Addr)
 |xd (fs:List (Str×V))
 |met (f x:Addr)
 |rng (lo hi:Int)
 |frz (o:Obj) (u:HO)
 |tbl (ps:Array Value)
 |ext (φ:Heap->Prop)
abbrev Hp:=Addr->Option HO
def upd (H:Hp) (a:Addr) (o:HO):Hp:=fun b=>if b=a then some o else H b
theorem cP {H:Hp} {a:Addr} {o:HO}:upd H a o a=some o:=by unfold upd;rw[aq rfl]
theorem cR {H:Hp} {a b:Addr} {o:HO} (h:b≠a):upd H a o b=H b:=by unfold upd;rw[aj h]
theorem j6:upd (upd H a o) a u=upd H a u:=by
 funext b;unfold upd;split<;>rfl
theorem sS {H:Hp} {a b:Addr} {o u:HO} (h:H a=some o) (h':H b=some u) (d:o≠u):a≠b:=by
 intro e;subst e;rw[h]at h';exact d (a9 h')
theorem cM {H:Hp} {a b:Addr} {o:HO} (h:H a=some o) (h':H b=none):a≠b:=by
 intro e;subst e;rw[h]at h';cases h'
section
variable (P:Program) (w:World)
def h8 (H:Hp) (h:Heap) (a:Addr):HO->Prop
 | .lst xs=>xs.length<=sizeLine/\∃(eE:List Value) (n:Nat),Vals xs eE/\h.get? a=some {cls:=.type "list",data:=.seq eE.toArray n}
 | .tup xs=>xs.length<=sizeLine/\∃eE:List Value,Vals xs eE/\IsTup h a eE.toArray
 | .dK dU=>dU.length<=sizeLine/\(a==sysModules)=false/\∃vs,KV dU vs/\h.DictOf (fk P w) a vs
 | .dT dU=>dU.length<=sizeLine/\(a==sysModules)=false/\∃xs:List (List Key×Addr×Value),
   Paired (fun (p:List Key×V) (q:List Key×Addr×Value)=>p.1=q.1/\H q.2.1=some (.tup (p.1.map kV))/\RelV p.2 q.2.2) dU xs/\
   ∃o es ep,h.get? a=some o/\o.ExactDict/\o.data= .dict es ep/\es.toList=xs.map (entryOfKey (tupleKind (fk P w)))/\(xs.map (·.1)).Nodup
 | .set S n=>h.SetOf (intKind P w) a S n
 | .ins C dx fs=>H dx=some (.own a)/\fs.length<=1000/\dx≠a/\h.get? a=some (PySem.W.instObj C dx)/\
   ∃mA,h.Ns1 dx mA/\(∀f,oT (fs.lookup f) (mA f))/\PySem.Within mA (fs.map (·.1))
 | .own _=>∃o,h.get? a=some o
 | .xd fs=>∃mA,h.Ns1 a mA/\∀f,oT (fs.lookup f) (mA f)
 | .rng lo hi=>∃t u v,h.get? a=some {cls:=.type "range",data:=.fields #[.int lo t,.int hi u,.int 1 v]}
 | .frz o u=>h.get? a=some o/\h8 H h a u
 | .tbl ps=>h.get? a=some {cls:=.none,data:=.fields ps}
 | .met f x=>h.get? a=some (PySem.W.methodObj (.ref f) (.ref x))
 | .ext φ=>φ h/\(∃o,h.get? a=some o)/\∀h1 h2:Heap,φ h1->(∀o,h1.get? a=some o->h2.get? a=some o)->φ h2
def HOk (H:Hp) (h:Heap):Prop:=∀a o,H a=some o->h8 P w H h a o
end
section
variable {P:Program} {w:World} {H H':Hp} {h h':Heap} {a:Addr} {o:HO}
theorem h8.lt (x:h8 P w H h a o):a<h.objs.size:=by
 cases o with
 |lst xs=>obtain⟨_,_,_,_,e⟩:=x;exact aM e
 |tup xs=>obtain⟨_,_,_,p⟩:=x;exact p.lt
 |dK dU=>obtain⟨_,_,_,_,o,_,_,e,_⟩:=x;exact aM e
 |dT dU=>obtain⟨_,_,_,_,o,_,_,e,_⟩:=x;exact aM e
 |set S n=>obtain⟨o,_,_,_,e,_⟩:=x;exact aM e
 |ins C dx fs=>obtain⟨_,_,_,e,_⟩:=x;exact aM e
 |own y=>obtain⟨_,e⟩:=x;exact aM e
 |xd fs=>obtain⟨_,⟨_,_,_,e,_⟩,_⟩:=x;exact aM e
 |rng lo hi=>obtain⟨_,_,_,e⟩:=x;exact aM e
 |frz ob u=>obtain⟨e,_⟩:=x;exact aM e
 |tbl ps=>exact aM (show h.get? a=some _ from x)
 |met f y=>exact aM (show h.get? a=some _ from x)
 |ext φ=>obtain⟨_,⟨_,e⟩,_⟩:=x;exact aM e
theorem Paired.jw {α β:Type} {F G:α->β->Prop}:∀{l₁:List α} {l₂:List β},Paired F l₁ l₂->(∀a b,F a b->G a b)->Paired G l₁ l₂
 |_,_,.nil,_=>.nil
 |_,_,.cons r t,f=>.cons (f _ _ r) (Paired.jw t f)
theorem h8.yi (x:h8 P w H h a o) (k:∀b u,(b=a\/H b=some (.own a))->h.get? b=some u->h'.get? b=some u)
  (ho:∀b,H b=some (.own a)->H' b=some (.own a)) (ht:∀b xs,H b=some (.tup xs)->H' b=some (.tup xs)):h8 P w H' h' a o:=by
 induction o with
 |lst xs=>obtain⟨z,eE,n,r,e⟩:=x;exact⟨z,eE,n,r,k _ _ (.inl rfl) e⟩
 |tup xs=>obtain⟨z,eE,r,ob,e,c⟩:=x;exact⟨z,eE,r,ob,k _ _ (.inl rfl) e,c⟩
 |dK dU=>obtain⟨z,y,vs,r,ob,es,ep,e,c⟩:=x;exact⟨z,y,vs,r,ob,es,ep,k _ _ (.inl rfl) e,c⟩
 |dT dU=>
  obtain⟨z,y,xs,r,ob,es,ep,e,c⟩:=x;exact⟨z,y,xs,Paired.jw r fun p q z=>⟨z.1,ht _ _ z.2.1,z.2.2⟩,ob,es,ep,k _ _ (.inl rfl) e,c⟩
 |set S n=>obtain⟨ob,es,ep,t,e,c⟩:=x;exact⟨ob,es,ep,t,k _ _ (.inl rfl) e,c⟩
 |ins C dx fs=>
  obtain⟨d,z,ne,e,mA,⟨od,es,ep,e2,c⟩,r⟩:=x;exact⟨ho _ d,z,ne,k _ _ (.inl rfl) e,mA,⟨od,es,ep,k _ _ (.inr d) e2,c⟩,r⟩
 |own y=>obtain⟨ob,e⟩:=x;exact⟨ob,k _ _ (.inl rfl) e⟩
 |xd fs=>obtain⟨mA,⟨od,es,ep,e,c⟩,r⟩:=x;exact⟨mA,⟨od,es,ep,k _ _ (.inl rfl) e,c⟩,r⟩
 |rng lo hi=>obtain⟨t,u,v,e⟩:=x;exact⟨t,u,v,k _ _ (.inl rfl) e⟩
 |frz ob u ih=>obtain⟨e,q⟩:=x;exact⟨k _ _ (.inl rfl) e,ih q⟩
 |tbl ps=>
  have e:h.get? a=some {cls:=.none,data:=.fields ps}:=x;show h'.get? a=some {cls:=.none,data:=.fields ps};exact k a _ (.inl rfl) e
 |met f y=>
  have e:h.get? a=some (PySem.W.methodObj (.ref f) (.ref y)):=x;show h'.get? a=some (PySem.W.methodObj (.ref f) (.ref y));exact k a _ (.inl rfl) e
 |ext φ=>obtain⟨p,⟨o,e⟩,st⟩:=x;exact⟨st _ _ p fun o q=>k _ _ (.inl rfl) q,⟨o,k _ _ (.inl rfl) e⟩,st⟩
theorem HOk.lt (x:HOk P w H h) (e:H a=some o):a<h.objs.size:=(x a o e).lt
theorem HOk.fresh (x:HOk P w H h) (e:h.objs.size<=a):H a=none:=by
 cases q:H a with
 |none=>rfl
 |some u=>exact absurd (aR (x.lt q) e) (bG _)
theorem HOk.kept (x:HOk P w H h) (k:∀b u,h.get? b=some u->h'.get? b=some u):HOk P w H h':=fun a o e=>
 (x a o e).yi (fun b u _ q=>k b u q) (fun _ q=>q) fun _ _ q=>q
theorem HOk.laid (x:HOk P w H h) (k:∀b u,h.get? b=some u->h'.get? b=some u) (hp:h.objs.size<=a) (new:h8 P w (upd H a o) h' a o):HOk P w (upd H a o) h':=fun b u e=>by
 have hn:=x.fresh hp;by_cases hb:b=a
 .subst hb;rw[cP]at e;cases e;exact new
 .rw[cR hb]at e;exact(x b u e).yi (fun c v _ q=>k c v q) (fun c q=>by rw[cR (cM q hn)];exact q) fun c xs q=>by rw[cR (cM q hn)];exact q
end
def Rd (H:Hp) (a:Addr) (u:HO):Prop:=H a=some u\/∃o,H a=some (.frz o u)
theorem Rd.ok {P:Program} {w:World} {H:Hp} {h:Heap} {a:Addr} {u:HO} (r:Rd H a u) (x:HOk P w H h):h8 P w H h a u:=by
 rcases r with r|⟨o,r⟩
 .exact x a u r
 .obtain⟨_,q⟩:=x a _ r;exact q
def Mut:Option HO->Prop
 |some (.lst _)=>True
 |some (.dK _)=>True
 |some (.dT _)=>True
 |some (.set _ _)=>True
 |some (.ins _ _ _)=>True
 |some (.ext _)=>True
 |_=>False
section
variable {P:Program} {w:World} {H:Hp} {h h':Heap} {x e:Addr} {o':HO}
theorem HOk.write (ok:HOk P w H h) (mu:Mut (H x)) (he:e=x\/H e=some (.own x)) (k:∀b u,b≠e->h.get? b=some u->h'.get? b=some u) (heo:∃u,h'.get? e=some u)
  (new:h8 P w (upd H x o') h' x o'):HOk P w (upd H x o') h':=fun b u q=>by
 have nown:∀c y,H c=some (.own y)->c≠x:=fun c y r z=>by subst z;rw[r]at mu;exact mu
 have ntup:∀c xs,H c=some (.tup xs)->c≠x:=fun c xs r z=>by subst z;rw[r]at mu;exact mu
 by_cases hb:b=x
 .subst hb;rw[cP]at q;cases q;exact new
 .rw[cR hb]at q;by_cases hbe:b=e
  .have q':H b=some (.own x):=by
    rcases he with z|z
    .exact absurd (hbe.trans z) hb
    .rw[hbe];exact z
   rw[q]at q';cases q';obtain⟨v,hv⟩:=heo;exact⟨v,by rw[hbe];exact hv⟩
  .refine(ok b u q).yi (fun c v hc r=>k c v ?_ r) (fun c r=>by rw[cR (nown c b r)];exact r) fun c xs r=>by rw[cR (ntup c xs r)];exact r
   rcases hc with rfl|hc
   .exact hbe
   .rintro rfl;rcases he with z|z
    .exact nown c b hc z
    .rw[hc]at z;cases z;exact hb rfl
end
structure Un (fs ex:List Addr) (H H':Hp) (h h':Heap):Prop where
 keep:∀b o,h.get? b=some o->H b=none->b∉fs->b∉ex->h'.get? b=some o
 slot:∀b o,h.get? b=some o->H b=none->b∈fs->b∉ex->∃sl,h'.get? b=some {o with slots:=sl}
 free:∀b o,h.get? b=some o->H b=none->b∉ex->H' b=none
 there:∀b o,h.get? b=some o->b∉ex->∃o',h'.get? b=some o'
 E6:∀b xs,H b=some (.tup xs)->H' b=some (.tup xs)
 C7:∀b o u,H b=some (.frz o u)->H' b=some (.frz o u)
 E7:∀b ps,H b=some (.tbl ps)->∃more,H' b=some (.tbl (ps++more))
section
variable {fs fs' ex ex':List Addr} {H H1 H2:Hp} {h h1 h2 h':Heap} {a x e:Addr} {o:HO}
theorem Un.any (u:Un fs ex H H1 h h1) {b:Addr} {ob:Obj} (q:h.get? b=some ob) (n:H b=none) (hx:b∉ex):∃sl,h1.get? b=some {ob with slots:=sl}:=by
 by_cases hb:b∈fs
 .exact u.slot b ob q n hb hx
 .exact⟨ob.slots,u.keep b ob q n hb hx⟩
theorem Un.kept (k:∀b u,h.get? b=some u->h'.get? b=some u):Un fs ex H H h h':=
 ⟨fun b ob q _ _ _=>k b ob q,fun b ob q _ _ _=>⟨ob.slots,k b ob q⟩,fun _ _ _ n _=>n,fun b ob q _=>⟨ob,k b ob q⟩,fun _ _ q=>q,fun _ _ _ q=>q,fun _ ps q=>⟨#[],by rw[q];simp⟩⟩
theorem Un.refl:Un fs ex H H h h:=Un.kept fun _ _ q=>q
theorem Un.laid (k:∀b u,h.get? b=some u->h'.get? b=some u) (hp:h.objs.size<=a) (hn:H a=none):Un fs ex H (upd H a o) h h' where
 keep:=fun b u q _ _ _=>k b u q
 slot:=fun b u q _ _ _=>⟨u.slots,k b u q⟩
 free:=fun b u q n _=>by rw[cR (bq (aR (aM q) hp))];exact n
 there:=fun b u q _=>⟨u,k b u q⟩
 E6:=fun b xs q=>by rw[cR (cM q hn)];exact q
 C7:=fun b u xs q=>by rw[cR (cM q hn)];exact q
 E7:=fun b ps q=>⟨#[],by rw[cR (cM q hn),q];simp⟩
theorem Un.write (mu:Mut (H x)) (he:e=x\/H e=some (.own x)) (k:∀b u,b≠e->h.get? b=some u->h'.get? b=some u) (heo:∃u,h'.get? e=some u):Un fs ex H (upd H x o) h h':=by
 have hx:∀b,H b=none->b≠x:=fun b n z=>by subst z;rw[n]at mu;exact mu
 have hb:∀b,H b=none->b≠e:=fun b n z=>by
  subst z;rcases he with r|r
  .exact hx b n r
  .rw[n]at r;cases r
 have hm:∀b u,H b=some u->¬Mut (some u)->b≠x:=fun b u q nm z=>by subst z;rw[q]at mu;exact nm mu
 refine⟨fun b u q n _ _=>k b u (hb b n) q,fun b u q n _ _=>⟨u.slots,k b u (hb b n) q⟩,fun b u q n _=>by rw[cR (hx b n)];exact n,fun b u q _=>?_,
  fun b xs q=>by rw[cR (hm b _ q fun z=>z)];exact q,fun b u xs q=>by rw[cR (hm b _ q fun z=>z)];exact q,fun b ps q=>⟨#[],by rw[cR (hm b _ q fun z=>z),q];simp⟩⟩
 by_cases hbe:b=e
 .subst hbe;exact heo
 .exact⟨u,k b u hbe q⟩
end
def trk (h:Heap) (H:Hp):List Addr:=(List.range h.objs.size).filter fun a=>(H a).isSome
def C8 (h:Heap) (H:Hp):Heap:=PySem.W.hideAll h (trk h H)
theorem K3 (h:Heap) (H:Hp):(C8 h H).objs.size=h.objs.size:=PySem.W.hideAll_size _ _
theorem Mp (e:h.get? b=some o) (n:H b=none):(C8 h H).get? b=some o:=
 PySem.W.hideAll_get _ e fun hm=>by
  have q:(H b).isSome=true:=(XR.mp hm).2;rw[n]at q;simp at q
theorem Pd (e:(C8 h H).get? b=some o):h.get? b=some o/\H b=none:=by
 have e':h.get? b=some o:=PySem.W.of_hideAll (trk h H) e;refine⟨e',?_⟩;cases q:H b with
 |none=>rfl
 |some x=>
  have hm:b∈trk h H:=XR.mpr ⟨WS.mpr (aM e'),by simp[q]⟩
  have z:(C8 h H).get? b=none:=PySem.W.hideAll_none (trk h H) hm;rw[z]at e;cases e
structure Mod (K:PySem.W.Frag) (mg:Str->Option Value) (base:Heap):Prop where
 kin:K.In base
 glob:base.Ns mainGlobals mg
 blt:∃mb,base.Ns builtinsNs mb/\∀x:Str,x≠"__name__"->mb x=bootBuiltins x
 nolimit:base.NoLimit
structure Cx where
 prog:Program
 w:World
 K:PySem.W.Frag
 mg:Str->Option Value
 base:Heap
 A:Around
 N:List Str
 s_0:Shared
 H_0:Hp
 env:Env
 outer:List Env
 stack:List Env
 ex:List Addr
 fn:Str->Bool
 calm:Bool
 pn:List (Addr×Obj)
 xe:Value->Shared->Prop
def frs (l:List Env):List Addr:=l.filterMap (·.frame)
abbrev Cx.fs (X:Cx):List Addr:=frs X.outer
def Vis (sc:Scope) (x:Str):Prop:=sc.names.lookup x=some .local\/sc.names.lookup x=some .cell\/sc.names.lookup x=some .free
def Loc (sc:Scope) (x:Str):Prop:=sc.names.lookup x=some .local\/sc.names.lookup x=some .cell
def Look (env:Env) (h:Heap) (m:Str->Option Value) (x:Str) (u:Value):Prop:=
 (env.kindOf x=some .local/\m x=some u)\/((env.kindOf x=some .cell\/env.kindOf x=some .free)/\∃c,env.cells.lookup x=some c/\h.IsCell c (some u))
structure Cx.Ok (X:Cx):Prop where
 mod:Mod X.K X.mg X.base
 kind:X.env.scope.kind= .function
 glob:X.env.globals=mainGlobals
 blt:X.env.builtins=builtinsNs
 above:X.s_0.heap.objs.size<=X.env.locals
 inj:∀x y c,X.env.cells.lookup x=some c->X.env.cells.lookup y=some c->x=y
 has:∀x,(X.env.kindOf x=some .cell\/X.env.kindOf x=some .free)->∃c,X.env.cells.lookup x=some c
 cab:∀x c,X.fn x=true->X.env.cells.lookup x=some c->X.s_0.heap.objs.size<=c
 hd:X.calm=true->X.A.handled=none
 frames:X.A.frames=some X.stack
 stk:X.stack=X.outer\/(X.stack=X.env::X.outer/\X.env.frame=some X.env.locals)
 exf:∀b∈X.ex,b≠X.env.locals/\∀x c,X.env.cells.lookup x=some c->c≠b
 bs:∀b o,X.base.get? b=some o->X.s_0.heap.get? b=some o/\X.H_0 b=none
 bsz:X.base.objs.size<=X.s_0.heap.objs.size
 Mq:∀b o,X.base.get? b=some o->b∉X.ex
 Mr:∀b∈X.ex,b∉X.fs
 yj:X.s_0.heap.FunFrames X.base X.outer
 frf:∀b∈X.fs,X.H_0 b=none
structure Inv (X:Cx) (pins:List (Addr×Obj)) (σ:List (Option V)) (H:Hp) (s:Shared):Prop where
 ok:X.Ok
 os:s.os=X.s_0.os
 bare:AllBare s.gens
 base:Un X.fs X.ex X.H_0 H X.s_0.heap s.heap
 loc:∃m,s.heap.Ns X.env.locals m/\∀(i:Nat) (x:Str) (v:V),X.N[i]?=some x->σ[i]?=some (some v)->Vis X.env.scope x->∃u,RelV v u/\Look X.env s.heap m x u
 cell:∀x c,X.env.cells.lookup x=some c->∃v,s.heap.IsCell c v
 free:H X.env.locals=none
 qJ:∀x c,X.env.cells.lookup x=some c->H c=none
 pin:∀p∈X.pn++pins,s.heap.get? p.1=some p.2/\H p.1=none/\p.1≠X.env.locals/\p.1∉X.fs/\∀v,p.2.data≠ .cell v
 hok:HOk X.prog X.w H s.heap
 len:σ.length=X.N.length
section
variable {X:Cx} {pins:List (Addr×Obj)} {σ:List (Option V)} {H H':Hp} {s:Shared} {h':Heap}
theorem Cx.Ok.VE (ok:X.Ok) (e:X.base.get? b=some o):b∉X.fs:=fun hb=>by
 have:=(ok.yj.mem hb).1
 rw[e]at this;cases this
theorem Inv.bs (I:Inv X pins σ H s):∀b o,X.base.get? b=some o->s.heap.get? b=some o/\H b=none:=fun b o e=>
 ⟨I.base.keep b o (I.ok.bs b o e).1 (I.ok.bs b o e).2 (I.ok.VE e) (I.ok.Mq b o e),I.base.free b o (I.ok.bs b o e).1 (I.ok.bs b o e).2 (I.ok.Mq b o e)⟩
theorem Inv.bk (I:Inv X pins σ H s):∀b o,X.base.get? b=some o->s.heap.get? b=some o:=fun b o e=>(I.bs b o e).1
theorem Inv.mod (I:Inv X pins σ H s):Mod X.K X.mg X.base:=I.ok.mod
theorem Inv.kIn (I:Inv X pins σ H s):X.K.In s.heap:=I.ok.mod.kin.keeps I.bk
theorem Inv.lt (I:Inv X pins σ H s):X.env.locals<s.heap.objs.size:=let ⟨_,hn,_⟩:=I.loc;hn.lt
theorem Inv.sz (I:Inv X pins σ H s):X.s_0.heap.objs.size<=s.heap.objs.size:=ai I.ok.above (bg I.lt)
theorem Inv.VF (I:Inv X pins σ H s) (h:s.heap.objs.size<=a):a∉X.fs:=fun hb=>by
 obtain⟨_,o,ho,_⟩:=I.ok.yj.mem hb;exact absurd (aR (aM ho) (ai I.sz h)) (bG _)
theorem Inv.cne (I:Inv X pins σ H s):∀x c,X.env.cells.lookup x=some c->c≠X.env.locals:=fun x c e z=>by
 obtain⟨v,o,ho,hd⟩:=I.cell x c e;obtain⟨m,⟨o',es,ep,ho',hd',_⟩,_⟩:=I.loc;rw[z,ho']at ho;cases ho;rw[hd']at hd;cases hd
theorem Inv.yj (I:Inv X pins σ H s):s.heap.FunFrames X.base X.outer:=by
 have all:∀(l:List Env),(∀b∈frs l,b∈X.fs)->X.s_0.heap.FunFrames X.base l->s.heap.FunFrames X.base l:=by
  intro l
  induction l with
  |nil=>intro _ _;trivial
  |cons env r ih=>
   intro hs hl;obtain⟨hk,⟨L,o,hf,hn,ho,hd⟩,hr⟩:=hl;have hL:L∈X.fs:=hs L (by unfold frs;rw[W8,hf];exact aC)
   obtain⟨sl,e⟩:=I.base.slot L o ho (I.ok.frf L hL) hL fun z=>I.ok.Mr L z hL
   exact⟨hk,⟨L,_,hf,hn,e,hd⟩,ih (fun b hb=>hs b (by unfold frs;rw[W8,hf];exact ak _ hb)) hr⟩
 exact all X.outer (fun _ hb=>hb) I.ok.yj
theorem Inv.stack (I:Inv X pins σ H s):s.heap.FunFrames X.base X.stack:=by
 rcases I.ok.stk with e|⟨e,hf⟩
 .rw[e];exact I.yj
 .rw[e];obtain⟨m,hn,_⟩:=I.loc;refine .cons (by rw[I.ok.kind];decide) hf hn ?_ I.yj
  exact Heap.get?_none_of_le (ai I.ok.bsz I.ok.above)
theorem Inv.Hk (I:Inv X pins σ H s):∀b∈frs X.stack,b∈X.env.locals::X.fs:=fun b hb=>by
 rcases I.ok.stk with e|⟨e,hf⟩
 .rw[e]at hb;exact ak _ hb
 .rw[e]at hb;unfold frs at hb;rw[W8,hf]at hb;exact hb
theorem Inv.J5 (I:Inv X pins σ H s):∀b∈frs X.stack,H b=none:=fun b hb=>by
 rcases ag.mp (I.Hk b hb)with e|hb
 .rw[e];exact I.free
 .obtain⟨_,o,ho,_⟩:=I.ok.yj.mem hb;exact I.base.free b o ho (I.ok.frf b hb) fun z=>I.ok.Mr b z hb
theorem Inv.step {g':Array GenState} {t':Nat} {d':Drawn} {ch:List Addr} (I:Inv X pins σ H s)
  (hch:∀b∈ch,(b∈X.ex\/X.s_0.heap.objs.size<=b)/\b≠X.env.locals/\(∀x c,X.env.cells.lookup x=some c->c≠b)/\∀p∈X.pn++pins,p.1≠b)
  (keep:∀b o,b≠X.env.locals->b∉X.fs->b∉ch->s.heap.get? b=some o->H b=none->h'.get? b=some o)
  (slot:∀b o,b≠X.env.locals->b∈X.fs->b∉ch->s.heap.get? b=some o->H b=none->∃sl,h'.get? b=some {o with slots:=sl}) (free:∀b o,b∉ch->s.heap.get? b=some o->H b=none->H' b=none)
  (there:∀b o,b∉ch->s.heap.get? b=some o->∃o',h'.get? b=some o')
  (E6:∀b xs,H b=some (.tup xs)->H' b=some (.tup xs)) (C7:∀b o u,H b=some (.frz o u)->H' b=some (.frz o u)) (E7:∀b ps,H b=some (.tbl ps)->∃more,H' b=some (.tbl (ps++more)))
  (ns:∀m,s.heap.Ns X.env.locals m->h'.Ns X.env.locals m) (hok:HOk X.prog X.w H' h') (hg:AllBare g'):
  Inv X pins σ H' {s with heap:=h',gens:=g',drawn:=d',toks:=t'}:=by
 have neL:∀b o,X.s_0.heap.get? b=some o->b≠X.env.locals:=fun b o e=>bq (aR (aM e) I.ok.above)
 have neC:∀b o,X.s_0.heap.get? b=some o->b∉X.ex->b∉ch:=fun b o e hx hb=>by
  rcases(hch b hb).1 with z|z
  .exact hx z
  .exact absurd (aR (aM e) z) (bG _)
 have cellK:∀x c,X.env.cells.lookup x=some c->∀v,s.heap.IsCell c v->h'.IsCell c v:=fun x c e v ⟨o,ho,hd⟩=>by
  have nch:c∉ch:=fun z=>(hch c z).2.2.1 x c e rfl
  by_cases hc:c∈X.fs
  .obtain⟨sl,q⟩:=slot c o (I.cne x c e) hc nch ho (I.qJ x c e);exact⟨_,q,hd⟩
  .exact⟨o,keep c o (I.cne x c e) hc nch ho (I.qJ x c e),hd⟩
 refine⟨I.ok,I.os,hg,⟨fun b o e n hb hx=>?_,fun b o e n hb hx=>?_,fun b o e n hx=>?_,fun b o e hx=>?_,fun b xs e=>E6 b xs (I.base.E6 b xs e),fun b o xs e=>C7 b o xs (I.base.C7 b o xs e),fun b ps e=>?_⟩,?_,fun x c e=>?_,?_,fun x c e=>?_,fun p hp=>?_,hok,I.len⟩
 .exact keep b o (neL b o e) hb (neC b o e hx) (I.base.keep b o e n hb hx) (I.base.free b o e n hx)
 .obtain⟨sl,e1⟩:=I.base.slot b o e n hb hx;obtain⟨sl',e2⟩:=slot b _ (neL b o e) hb (neC b o e hx) e1 (I.base.free b o e n hx);exact⟨sl',e2⟩
 .obtain⟨o',e1⟩:=I.base.there b o e hx;exact free b o' (neC b o e hx) e1 (I.base.free b o e n hx)
 .obtain⟨o',e1⟩:=I.base.there b o e hx;exact there b o' (neC b o e hx) e1
 .obtain⟨m1,e1⟩:=I.base.E7 b ps e;obtain⟨m2,e2⟩:=E7 b _ e1;exact⟨m1++m2,by rw[e2,Array.append_assoc]⟩
 .obtain⟨m,hn,hl⟩:=I.loc;refine⟨m,ns m hn,fun i x v e1 e2 e3=>?_⟩
  obtain⟨u,r,l⟩:=hl i x v e1 e2 e3;refine⟨u,r,?_⟩;rcases l with l|⟨k,c,e,z⟩
  .exact .inl l
  .exact .inr ⟨k,c,e,cellK x c e _ z⟩
 .obtain⟨v,z⟩:=I.cell x c e;exact⟨v,cellK x c e v z⟩
 .obtain⟨m,⟨o,_,_,ho,_⟩,_⟩:=I.loc;exact free _ o (fun z=>(hch _ z).2.1 rfl) ho I.free
 .obtain⟨v,o,ho,hd⟩:=I.cell x c e;exact free c o (fun z=>(hch c z).2.2.1 x c e rfl) ho (I.qJ x c e)
 .obtain⟨e,n,ne,nf,d⟩:=I.pin p hp;have nch:p.1∉ch:=fun z=>(hch p.1 z).2.2.2 p hp rfl
  exact⟨keep p.1 p.2 ne nf nch e n,free p.1 p.2 nch e n,ne,nf,d⟩
theorem Inv.un {t':Nat} (I:Inv X pins σ H s) (u:Un X.fs [] H H' s.heap h') (hok:HOk X.prog X.w H' h'):Inv X pins σ H' {s with heap:=h',toks:=t'}:=by
 obtain⟨m,⟨o,es,ep,ho,r⟩,_⟩:=id I.loc;obtain⟨sl,hL⟩:=u.any ho I.free (by simp)
 exact I.step (g':=s.gens) (d':=s.drawn) (ch:=[]) (fun _ z=>nomatch z) (fun b o _ hb _ e n=>u.keep b o e n hb (by simp)) (fun b o _ hb _ e n=>u.slot b o e n hb (by simp)) (fun b o _ e n=>u.free b o e n (by simp)) (fun b o _ e=>u.there b o e (by simp)) u.E6 u.C7 u.E7 (fun m' hm=>by
  obtain⟨o',es',ep',ho',r'⟩:=hm;rw[ho]at ho';cases ho';exact⟨_,es',ep',hL,r'⟩) hok I.bare
theorem Inv.call {g':Array GenState} {t':Nat} {d':Drawn} {ch:List Addr} (I:Inv X pins σ H s) (u:Un (frs X.stack) ch H H' s.heap h') (hok:HOk X.prog X.w H' h') (hg:AllBare g')
  (hch:∀b∈ch,(b∈X.ex\/X.s_0.heap.objs.size<=b)/\b≠X.env.locals/\(∀x c,X.env.cells.lookup x=some c->c≠b)/\∀p∈X.pn++pins,p.1≠b):
  Inv X pins σ H' {s with heap:=h',gens:=g',drawn:=d',toks:=t'}:=by
 obtain⟨m,⟨o,es,ep,ho,r⟩,_⟩:=id I.loc;obtain⟨sl,hL⟩:=u.any ho I.free fun z=>(hch _ z).2.1 rfl
 exact I.step (ch:=ch) hch (fun b o hL hb hc e n=>u.keep b o e n (fun z=>(ag.mp (I.Hk b z)).elim hL hb) hc) (fun b o _ _ hc e n=>u.any e n hc) (fun b o hc e n=>u.free b o e n hc) (fun b o hc e=>u.there b o e hc) u.E6 u.C7 u.E7 (fun m' hm=>by
  obtain⟨o',es',ep',ho',r'⟩:=hm;rw[ho]at ho';cases ho';exact⟨_,es',ep',hL,r'⟩) hok hg
theorem Inv.turned {t':Nat} {it:Addr} (I:Inv X pins σ H s) (k:∀b o,b≠it->s.heap.get? b=some o->h'.get? b=some o) (hn:H it=none) (hL:it≠X.env.locals)
  (h1:it∈X.ex\/X.s_0.heap.objs.size<=it) (h2:∀x c,X.env.cells.lookup x=some c->c≠it) (h3:∀p∈X.pn++pins,p.1≠it):Inv X pins σ H {s with heap:=h',toks:=t'}:=by
 have nit:∀b u,H b=some u->b≠it:=fun b u e z=>by rw[z,hn]at e;cases e
 refine I.step (g':=s.gens) (d':=s.drawn) (ch:=[it]) (fun b hb=>?_) (fun b o _ _ hc e _=>k b o (fun z=>hc (by simp[z])) e) (fun b o _ _ hc e _=>⟨o.slots,k b o (fun z=>hc (by simp[z])) e⟩) (fun _ _ _ _ n=>n)
  (fun b o hc e=>⟨o,k b o (fun z=>hc (by simp[z])) e⟩) (fun _ _ e=>e) (fun _ _ _ e=>e) (fun b ps e=>⟨#[],by rw[e];simp⟩) (fun m hm=>?_) (fun b u e=>?_) I.bare
 .have e:b=it:=by simpa using hb
  subst e;exact⟨h1,hL,h2,h3⟩
 .obtain⟨o,es,ep,ho,r⟩:=hm;exact⟨o,es,ep,k _ o (cw hL) ho,r⟩
 .refine(I.hok b u e).yi (fun c v hc q=>k c v ?_ q) (fun _ q=>q) fun _ _ q=>q
  rcases hc with z|z
  .rw[z];exact nit b u e
  .exact nit c _ z
theorem Inv.tok (I:Inv X pins σ H s) (t:Nat):Inv X pins σ H {s with toks:=t}:=I.un (h':=s.heap) (t':=t) Un.refl I.hok
theorem Inv.kept {t':Nat} (I:Inv X pins σ H s) (k:∀b u,s.heap.get? b=some u->h'.get? b=some u):Inv X pins σ H {s with heap:=h',toks:=t'}:=I.un (Un.kept k) (I.hok.kept k)
theorem Inv.laid {a:Addr} {o:HO} {t':Nat} (I:Inv X pins σ H s) (k:∀b u,s.heap.get? b=some u->h'.get? b=some u) (hp:s.heap.objs.size<=a) (new:h8 X.prog X.w (upd H a o) h' a o):
  Inv X pins σ (upd H a o) {s with heap:=h',toks:=t'}:=I.un (Un.laid k hp (I.hok.fresh hp)) (I.hok.laid k hp new)
theorem Inv.write {x e:Addr} {o:HO} {t':Nat} (I:Inv X pins σ H s) (mu:Mut (H x)) (he:e=x\/H e=some (.own x)) (k:∀b u,b≠e->s.heap.get? b=some u->h'.get? b=some u) (heo:∃u,h'.get? e=some u)
  (new:h8 X.prog X.w (upd H x o) h' x o):Inv X pins σ (upd H x o) {s with heap:=h',toks:=t'}:=I.un (Un.write mu he k heo) (I.hok.write mu he k heo new)
theorem Inv.weak {σ':List (Option V)} (I:Inv X pins σ H s) (hl:σ'.length=σ.length) (w:∀(i:Nat) v,σ'[i]?=some (some v)->σ[i]?=some (some v)):Inv X pins σ' H s:=
 ⟨I.ok,I.os,I.bare,I.base,let ⟨m,hn,hl'⟩:=I.loc;⟨m,hn,fun i x v e1 e2 e3=>hl' i x v e1 (w i v e2) e3⟩,I.cell,I.free,I.qJ,I.pin,I.hok,hl.trans I.len⟩
theorem Inv.J6 (I:Inv X pins σ H s) (h:∀p∈pins',s.heap.get? p.1=some p.2/\H p.1=none/\p.1≠X.env.locals/\p.1∉X.fs/\∀v,p.2.data≠ .cell v):Inv X pins' σ H s:=
 ⟨I.ok,I.os,I.bare,I.base,I.loc,I.cell,I.free,I.qJ,fun p hp=>(bO.mp hp).elim (fun z=>I.pin p (cH _ z)) (h p),I.hok,I.len⟩
theorem zt {N:List Str} (hN:N.Nodup) {i j:Nat} {x:Str} (a:N[i]?=some x) (b:N[j]?=some x):i=j:=by
 obtain⟨h1,e1⟩:=aa.mp a;obtain⟨h2,e2⟩:=aa.mp b;exact(List.getElem_inj hN).mp (e1.trans e2.symm)
theorem K4 {M:Model} {A:Around} {E:Value->Shared->Prop} {i:Nat} {x:Str} {v:V} {u:Value} {Q:Unit->Shared->Prop} (I:Inv X pins σ H s) (hN:X.N.Nodup) (hi:X.N[i]?=some x) (hx:Loc X.env.scope x) (r:RelV v u)
  (h:∀s',Inv X pins (σ.set i (some v)) H s'->(∃a,Heap.SameBut a s.heap s'.heap/\(a=X.env.locals\/X.env.cells.lookup x=some a))->Q () s') (hf:X.fn x=true\/X.env.scope.names.lookup x=some .local:=by first|exact .inl rfl|exact .inr rfl|assumption):wpAny M A (storeName X.env x u) Q E s:=by
 obtain⟨m,hn,hl⟩:=id I.loc;have hcls:(X.env.scope.kind== .class||(X.env.scope.kind== .module&&X.env.locals !=X.env.globals))=false:=by rw[I.ok.kind];rfl
 have hiσ:i<σ.length:=by rw[I.len];exact(aa.mp hi).1
 have cne:=I.cne;have tracked:∀{a:Addr} {h':Heap},(∃o,s.heap.get? a=some o/\H a=none)->Heap.SameBut a s.heap h'->HOk X.prog X.w H h':=fun {a h'} ha hs b ob e=>by
  obtain⟨_,_,hfree⟩:=ha;refine(I.hok b ob e).yi (fun c w' hc q=>(hs.2 c ?_).trans q) (fun _ q=>q) fun _ _ q=>q
  rintro rfl;rcases hc with rfl|hc
  .rw[hfree]at e;cases e
  .rw[hfree]at hc;cases hc
 rcases hx with hk|hk
 .refine wpAny_storeName_local hk hn (fun h' hn' hs=>?_) hcls
  obtain⟨oL,_,_,hoL,_⟩:=id hn;refine h _ ⟨I.ok,I.os,I.bare,⟨fun b o e n hb hx=>?_,fun b o e n hb hx=>?_,I.base.free,fun b o e hx=>?_,I.base.E6,I.base.C7,I.base.E7⟩,⟨_,hn',fun j y v' e1 e2 e3=>?_⟩,fun y c e=>?_,I.free,I.qJ,fun p hp=>?_,tracked ⟨oL,hoL,I.free⟩ hs,by simpa using I.len⟩ ⟨_,hs,.inl rfl⟩
  .exact(hs.2 b (bq (aR (aM e) I.ok.above))).trans (I.base.keep b o e n hb hx)
  .obtain⟨sl,e1⟩:=I.base.slot b o e n hb hx;exact⟨sl,(hs.2 b (bq (aR (aM e) I.ok.above))).trans e1⟩
  .obtain⟨o',e1⟩:=I.base.there b o e hx;exact⟨o',(hs.2 b (bq (aR (aM e) I.ok.above))).trans e1⟩
  .by_cases hj:j=i
   .subst hj;rw[hi]at e1;cases e1;rw[bL hiσ]at e2;cases e2;exact⟨u,r,.inl ⟨hk,by simp⟩⟩
   .rw[cI (cw hj)]at e2;obtain⟨u',r',q⟩:=hl j y v' e1 e2 e3;refine⟨u',r',?_⟩;rcases q with⟨k,e⟩|⟨k,c,e,z⟩
    .refine .inl ⟨k,?_⟩;have:y≠x:=fun e=>hj (zt hN e1 (e▸hi))
     simp[this,e]
    .exact .inr ⟨k,c,e,z.sameBut hs (cne y c e)⟩
  .obtain⟨w',z⟩:=I.cell y c e;exact⟨w',z.sameBut hs (cne y c e)⟩
  .obtain⟨e,n,ne,nf,d⟩:=I.pin p hp;exact⟨(hs.2 p.1 ne).trans e,n,ne,nf,d⟩
 .have hfn:X.fn x=true:=by
   rcases hf with z|z
   .exact z
   .rw[z]at hk;cases hk
  obtain⟨c,hc⟩:=I.ok.has x (.inl hk);obtain⟨w',z⟩:=I.cell x c hc;refine wpAny_storeName_cell I.ok.kind hk hc z (fun h' hc' hs=>?_)
  obtain⟨oc,hoc,hocd⟩:=id z;refine h {s with heap:=h'} ⟨I.ok,I.os,I.bare,⟨fun b o e n hb hx=>?_,fun b o e n hb hx=>?_,I.base.free,fun b o e hx=>?_,I.base.E6,I.base.C7,I.base.E7⟩,⟨m,hn.sameBut hs (cw (cne x c hc)),fun j y v' e1 e2 e3=>?_⟩,fun y c' e=>?_,I.free,I.qJ,fun p hp=>?_,tracked ⟨oc,hoc,I.qJ x c hc⟩ hs,by simpa using I.len⟩ ⟨c,hs,.inr hc⟩
  .exact(hs.2 b (bq (aR (aM e) (I.ok.cab x c hfn hc)))).trans (I.base.keep b o e n hb hx)
  .obtain⟨sl,e1⟩:=I.base.slot b o e n hb hx;exact⟨sl,(hs.2 b (bq (aR (aM e) (I.ok.cab x c hfn hc)))).trans e1⟩
  .obtain⟨o',e1⟩:=I.base.there b o e hx;exact⟨o',(hs.2 b (bq (aR (aM e) (I.ok.cab x c hfn hc)))).trans e1⟩
  .by_cases hj:j=i
   .subst hj;rw[hi]at e1;cases e1;rw[bL hiσ]at e2;cases e2;exact⟨u,r,.inr ⟨.inl hk,c,hc,hc'⟩⟩
   .rw[cI (cw hj)]at e2;obtain⟨u',r',q⟩:=hl j y v' e1 e2 e3;refine⟨u',r',?_⟩;rcases q with q|⟨k,c',e,z'⟩
    .exact .inl q
    .refine .inr ⟨k,c',e,z'.sameBut hs ?_⟩;rintro rfl;exact hj (zt hN e1 (I.ok.inj _ _ _ e hc▸hi))
  .by_cases hcc:c'=c
   .subst hcc;exact⟨_,hc'⟩
   .obtain⟨w2,z2⟩:=I.cell y c' e;exact⟨w2,z2.sameBut hs hcc⟩
  .obtain⟨e,n,ne,nf,d⟩:=I.pin p hp;refine⟨(hs.2 p.1 ?_).trans e,n,ne,nf,d⟩;intro q;rw[q,hoc]at e;have q':oc=p.2:=a9 e;exact d w' (by rw[<-q'];exact hocd)
theorem zu {E:Value->Shared->Prop} {Q:Unit->Shared->Prop} (I:Inv X pins σ H s) (hN:X.N.Nodup) (hi:X.N[i]?=some x) (hx:Loc X.env.scope x) (r:RelV v u)
  (h:∀s',Inv X pins (σ.set i (some v)) H s'->Q () s') (hf:X.fn x=true\/X.env.scope.names.lookup x=some .local:=by first|exact .inl rfl|exact .inr rfl|assumption):wpAny M A (storeName X.env x u) Q E s:=
 K4 I hN hi hx r (fun s' I' _=>h s' I') hf
theorem Inv.UA (I:Inv X pins σ H s) (ho:s'.os=s.os) (u:Un (frs X.stack) ch H H' s.heap s'.heap) (hok:HOk X.prog X.w H' s'.heap) (hg:AllBare s'.gens)
  (hch:∀b∈ch,(b∈X.ex\/X.s_0.heap.objs.size<=b)/\b≠X.env.locals/\(∀x c,X.env.cells.lookup x=some c->c≠b)/\∀p∈X.pn++pins,p.1≠b):Inv X pins σ H' s':=by
 obtain⟨h',g',d',t',o'⟩:=s';have e:o'=s.os:=ho;subst e;exact I.call (g':=g') (t':=t') (d':=d') u hok hg hch
end
abbrev XK:=Value->Option Addr->Hp->Prop
abbrev St:=List (Option V)
abbrev VK:=V->Hp->Prop
abbrev TE:=St->Hp->VK->Prop
abbrev TT:=St->Hp->(Bool->Hp->Prop)->Prop
abbrev TA:=St->Hp->(List V->Hp->Prop)->Prop
structure Ends where
 nx:St->Hp->Prop
 rt:VK
 bk:St->Hp->Prop:=fun _ _=>False
 ct:St->Hp->Prop:=fun _ _=>False
abbrev TS:=Ends->St->Hp->Prop
def EP (X:Cx) (pins:List (Addr×Obj)) (σ:St) (Q:VK) (u:Value) (s':Shared):Prop:=∃v H',Inv X pins σ H' s'/\RelV v u/\Q v H'
def TP (X:Cx) (pins:List (Addr×Obj)) (σ:St) (Q:Bool->Hp->Prop) (b:Bool) (s':Shared):Prop:=∃H',Inv X pins σ H' s'/\Q b H'
def AP (X:Cx) (pins:List (Addr×Obj)) (σ:St) (Q:List V->Hp->Prop) (us:List Value) (s':Shared):Prop:=∃vs H',Inv X pins σ H' s'/\Vals vs us/\Q vs H'
def SP (X:Cx) (pins:List (Addr×Obj)) (D:Ends) (f:Flow) (s':Shared):Prop:=
 match f with
 | .next=>∃σ' H',Inv X pins σ' H' s'/\D.nx σ' H'
 | .brk=>∃σ' H',Inv X pins σ' H' s'/\D.bk σ' H'
 | .cont=>∃σ' H',Inv X pins σ' H' s'/\D.ct σ' H'
 | .ret u=>∃v σ' H',Inv X pins σ' H' s'/\RelV v u/\D.rt v H'
def PE (X:Cx) (e:Expr) (t:TE):Prop:=
 ∀(pins:List (Addr×Obj)) (s:Shared) (σ:St) (H:Hp) (Q:VK),Inv X pins σ H s->t σ H Q->wpAny (model X.prog X.w) X.A (eval e X.env) (EP X pins σ Q) X.xe s
def PT (X:Cx) (e:Expr) (t:TT):Prop:=
 ∀(pins:List (Addr×Obj)) (s:Shared) (σ:St) (H:Hp) (Q:Bool->Hp->Prop),Inv X pins σ H s->t σ H Q->wpAny (model X.prog X.w) X.A (isTrue e X.env (eval e X.env)) (TP X pins σ Q) X.xe s
def PW (X:Cx) (e:Expr) (t:TT):Prop:=
 ∀(whole:Sem Value) (pins:List (Addr×Obj)) (s:Shared) (σ:St) (H:Hp) (Q:Bool->Hp->Prop),Inv X pins σ H s->t σ H Q->wpAny (model X.prog X.w) X.A (isTrue e X.env whole) (TP X pins σ Q) X.xe s
theorem PW.pt (h:PW X e t):PT X e t:=h _
def PA (X:Cx) (es:List Expr) (t:TA):Prop:=
 ∀(pos:Pos) (pins:List (Addr×Obj)) (s:Shared) (σ:St) (H:Hp) (Q:List V->Hp->Prop),Inv X pins σ H s->t σ H Q->wpAny (model X.prog X.w) X.A (spliced (backTo pos (starEach es X.env))) (AP X pins σ Q) X.xe s
def PS (X:Cx) (st:Stmt) (t:TS):Prop:=
 ∀(pins:List (Addr×Obj)) (s:Shared) (σ:St) (H:Hp) (D:Ends),Inv X pins σ H s->t D σ H->wpAny (model X.prog X.w) X.A (exec st X.env) (SP X pins D) X.xe s
def PSs (X:Cx) (st:List Stmt) (t:TS):Prop:=
 ∀(pins:List (Addr×Obj)) (s:Shared) (σ:St) (H:Hp) (D:Ends),Inv X pins σ H s->t D σ H->wpAny (model X.prog X.w) X.A (execs st X.env) (SP X pins D) X.xe s
theorem thn {α:Type} {t:Sem α} {Q Q':α->Shared->Prop} {E:Value->Shared->Prop} (h:wpAny M A t Q E s) (hQ:∀a s,Q a s->Q' a s):wpAny M A t Q' E s:=bW h hQ fun _ _ x=>x
section
variable {X:Cx}
inductive Ms (i:Nat) (σ:St) (H:Hp) (Q:VK):Prop
 |mk:∀v,σ[i]?=some (some v)->Q v H->Ms i σ H Q
def tC (v:V):TE:=fun _ H Q=>Q v H
theorem Hl (hN:X.N[i]?=some x) (hv:Vis X.env.scope x) (hd:(x==("__debug__":Str))=false:=by decide) (hcd:(x==("__classdict__":Str))=false:=by decide):PE X (.Name x pos) (Ms i):=by
 intro pins s σ H Q I h;obtain⟨v,e,h⟩:=h;obtain⟨m,hn,hl⟩:=I.loc;obtain⟨u,r,l⟩:=hl i x v hN e hv;have fin:EP X pins σ Q u s:=⟨v,H,I,r,h⟩;rcases l with⟨hk,hm⟩|⟨hk,c,hc,hcell⟩
 .exact wpAny_Name (wpAny_loadName_local I.ok.kind hk hn hm fin) hd
 .rcases hk with hk|hk
  .exact wpAny_Name (wpAny_loadName_cell I.ok.kind hk hc hcell fin) hd
  .exact wpAny_Name (wpAny_loadName_free I.ok.kind hk hc hcell fin hcd) hd
theorem cT {i j pos}:PE X (.Constant (.int i) j pos) (tC (.int i)):=fun _ _ _ H _ I h=>wpAny_Constant_int ⟨.int i,H,I.tok _,⟨_,rfl⟩,h⟩
theorem E8 {b j pos}:PE X (.Constant (.bool b) j pos) (tC (.bl b)):=fun _ _ _ H _ I h=>Constant_bool ⟨.bl b,H,I,rfl,h⟩
theorem R9 {j pos}:PE X (.Constant .none j pos) (tC .non):=fun _ _ _ H _ I h=>Constant_none ⟨.non,H,I,rfl,h⟩
theorem gk {x j pos}:PE X (.Constant (.str x) j pos) (tC (.str x)):=fun _ _ _ H _ I h=>Calls.Constant_str ⟨.str x,H,I.tok _,⟨_,rfl⟩,h⟩
def Gl (X:Cx) (x:Str):Prop:=X.env.kindOf x=some .globalImplicit
theorem uI {E:Value->Shared->Prop} {Q:Value->Shared->Prop} (I:Inv X pins σ H s) (hg:Gl X x) (hm:X.mg x=some u) (h:Q u s)
  (hd:(x==("__debug__":Str))=false:=by decide):wpAny (model X.prog X.w) X.A (eval (.Name x pos) X.env) Q E s:=
 Calls.Name_function_global I.ok.kind hg (Calls.loadGlobal_global (by rw[I.ok.glob];exact I.mod.glob.keeps I.bk) hm h) hd
theorem sZ {E:Value->Shared->Prop} {Q:Value->Shared->Prop} (I:Inv X pins σ H s) (hg:Gl X x) (hm:X.mg x=none) (hv:bootBuiltins x=some u) (h:Q u s)
  (hn:x≠"__name__":=by decide) (hd:(x==("__debug__":Str))=false:=by decide):wpAny (model X.prog X.w) X.A (eval (.Name x pos) X.env) Q E s:=by
 obtain⟨mb,h1,h2⟩:=I.mod.blt;exact Calls.Name_function_global I.ok.kind hg (Calls.loadGlobal_builtin (by rw[I.ok.glob];exact I.mod.glob.keeps I.bk) hm (by rw[I.ok.blt];exact h1.keeps I.bk) ((h2 x hn).trans hv) h) hd
theorem Pe (hg:Gl X x) (hm:X.mg x=some u) (r:RelV v u) (hd:(x==("__debug__":Str))=false:=by decide):PE X (.Name x pos) (tC v):=
 fun _ _ _ H _ I h=>uI I hg hm ⟨v,H,I,r,h⟩ hd
variable {a b:Expr} {ta tb:TE} {pos:Pos}
def PC (X:Cx) (op:CmpOp) (a b:Expr) (t:TE):Prop:=
 ∀(pins:List (Addr×Obj)) (s:Shared) (σ:St) (H:Hp) (Q:VK),Inv X pins σ H s->t σ H Q->
  wpAny (model X.prog X.w) X.A (eval a X.env) (fun v s₁=>wpAny (model X.prog X.w) X.A (eval b X.env) (fun u s₂=>wpAny (model X.prog X.w) X.A (compareOp op v u) (EP X pins σ Q) X.xe s₂) X.xe s₁) X.xe s
theorem E9 (b:Expr) (h:op≠ .In) (h2:op≠ .NotIn):behindInMarks op b=false:=by
 have e1:(op==CmpOp.In)=false:=by cases op<;>first|rfl|exact absurd rfl h
 have e2:(op==CmpOp.NotIn)=false:=by cases op<;>first|rfl|exact absurd rfl h2
 cases b<;>simp[behindInMarks,e1,e2]
def VG (ta:TE):TE:=fun σ H Q=>ta σ H fun x H1=>Q (.bl (decide (x= .non))) H1
theorem RelV.Mt (r:RelV x v):(v==Value.none)=decide (x= .non):=by
 cases x with
 |non=>cases r;rfl
 |bl _=>cases r;rfl
 |int _=>obtain⟨t,rfl⟩:=r;rfl
 |str _=>obtain⟨t,rfl⟩:=r;rfl
 |byt _=>obtain⟨t,rfl⟩:=r;rfl
 |flt _=>obtain⟨t,rfl⟩:=r;rfl
 |ref _=>cases r;rfl
 |ty _=>cases r;rfl
theorem Sa {j pos'} (ha:PE X a ta):PC X .Is a (.Constant .none j pos') (VG ta):=by
 intro pins s σ H Q I h;refine thn (ha pins s σ H _ I h) fun v s1 ⟨x,H1,I1,r1,q1⟩=>?_
 exact Constant_none (is_none_gen ⟨.bl _,H1,I1,by rw[r1.Mt];rfl,q1⟩)
inductive eB (x:V) (H1:Hp) (Q:Bool->Hp->Prop):Prop
 |mk:∀c,x= .bl c->Q c H1->eB x H1 Q
def tB (t:TE):TT:=fun σ H Q=>t σ H fun x H1=>eB x H1 Q
theorem Mu (h:PC X op a b t) (h1:behindInMarks op b=false:=by first|exact E9 _ (by decide) (by decide)|rfl):PE X (.Compare a [op] [b] pos) t:=fun pins s σ H Q I hw=>wpAny_Compare1 (h pins s σ H Q I hw) h1
theorem C9 (h:PC X op a b t) (h1:behindInMarks op b=false:=by first|exact E9 _ (by decide) (by decide)|rfl):PT X (.Compare a [op] [b] pos) (tB t):=by
 intro pins s σ H Q I hw;refine wpAny_isTrue_Compare1 (thn (h pins s σ H _ I hw) fun v s1 h1=>thn h1 fun u s2 h2=>thn h2 fun c s3 ⟨x,H1,I1,r1,q1⟩=>?_) h1
 obtain⟨d,rfl,q⟩:=q1;cases r1;exact bM ⟨H1,I1,q⟩
theorem fJ (h:PE X e t) (he:∀whole,isTrue e X.env whole=(do let v<-whole;standAt e.pos;holding [v] (truthy v)):=by intro _;rfl):PT X e (tB t):=by
 intro pins s σ H Q I hw;refine isTrue_plain (thn (h pins s σ H _ I hw) fun v s1 ⟨x,H1,I1,r1,q1⟩=>?_) (he _)
 obtain⟨d,rfl,q⟩:=q1;cases r1;exact bM ⟨H1,I1,q⟩
variable {tA tB':TT} {rest:List Expr}
def VH (t u:TT):TT:=fun σ H Q=>t σ H fun c H1=>if c=true then u σ H1 Q else Q false H1
def tOr (t u:TT):TT:=fun σ H Q=>t σ H fun c H1=>if c=true then Q true H1 else u σ H1 Q
def VI (t:TT):TT:=fun σ H Q=>t σ H fun c H1=>Q (!c) H1
theorem Dc (ha:PT X a tA):PW X (.BoolOp .And [a] pos) tA:=by
 intro wh pins s σ H Q I h;refine isTrue_and (thn (ha pins s σ H Q I h) fun c s1 e=>?_)
 cases c with
 |true=>exact isTrue_and_nil e
 |false=>exact e
theorem Hn (ha:PT X a tA):PW X (.BoolOp .Or [a] pos) tA:=by
 intro wh pins s σ H Q I h;refine isTrue_or (thn (ha pins s σ H Q I h) fun c s1 e=>?_)
 cases c with
 |false=>exact isTrue_or_nil e
 |true=>exact e
theorem Ho (ha:PT X a tA) (hb:PW X (.BoolOp .And (b::rest) pos) tB'):PW X (.BoolOp .And (a::b::rest) pos) (VH tA tB'):=by
 intro wh pins s σ H Q I h;refine isTrue_and (thn (ha pins s σ H _ I h) fun c s1 ⟨H1,I1,q1⟩=>?_)
 cases c with
 |true=>exact hb wh pins s1 σ H1 Q I1 q1
 |false=>exact⟨H1,I1,q1⟩
theorem Mv (ha:PT X a tA) (hb:PW X (.BoolOp .Or (b::rest) pos) tB'):PW X (.BoolOp .Or (a::b::rest) pos) (tOr tA tB'):=by
 intro wh pins s σ H Q I h;refine isTrue_or (thn (ha pins s σ H _ I h) fun c s1 ⟨H1,I1,q1⟩=>?_)
 cases c with
 |true=>exact⟨H1,I1,q1⟩
 |false=>exact hb wh pins s1 σ H1 Q I1 q1
theorem lr (ha:PT X a tA):PT X (.UnaryOp .Not a pos) (VI tA):=by
 intro pins s σ H Q I h;exact isTrue_not (ha pins s σ H (fun c H1=>Q (!c) H1) I h)
def UB (ta tb:TE):TE:=fun σ H Q=>ta σ H fun x H1=>∃c,x= .bl c/\if c=true then tb σ H1 Q else Q (.bl false) H1
def VJ (ta tb:TE):TE:=fun σ H Q=>ta σ H fun x H1=>∃c,x= .bl c/\if c=true then Q (.bl true) H1 else tb σ H1 Q
theorem tf {op} (h:PE X a t):PE X (.BoolOp op [a] pos) t:=fun pins s σ H Q I hw=>BoolOp_one (h pins s σ H Q I hw)
theorem tj (ha:PE X a ta) (hb:PE X (.BoolOp .And (b::rest) pos) tb):PE X (.BoolOp .And (a::b::rest) pos) (UB ta tb):=by
 intro pins s σ H Q I h;refine BoolOp_and (thn (ha pins s σ H _ I h) fun v s1 ⟨x,H1,I1,r1,q1⟩=>?_)
 obtain⟨c,rfl,q1⟩:=q1;cases r1;refine bM ?_;cases c with
 |true=>exact hb pins s1 σ H1 Q I1 q1
 |false=>exact⟨.bl false,H1,I1,rfl,q1⟩
theorem J7 (ha:PE X a ta) (hb:PE X (.BoolOp .Or (b::rest) pos) tb):PE X (.BoolOp .Or (a::b::rest) pos) (VJ ta tb):=by
 intro pins s σ H Q I h;refine BoolOp_or (thn (ha pins s σ H _ I h) fun v s1 ⟨x,H1,I1,r1,q1⟩=>?_)
 obtain⟨c,rfl,q1⟩:=q1;cases r1;refine bM ?_;cases c with
 |false=>exact hb pins s1 σ H1 Q I1 q1
 |true=>exact⟨.bl true,H1,I1,rfl,q1⟩
def tIf (t:TT) (ta tb:TE):TE:=fun σ H Q=>t σ H fun c H1=>if c=true then ta σ H1 Q else tb σ H1 Q
theorem lW (hc:PT X c tA) (ha:PE X a ta) (hb:PE X b tb):PE X (.IfExp c a b pos) (tIf tA ta tb):=by
 intro pins s σ H Q I h;refine wpAny_IfExp (thn (hc pins s σ H _ I h) fun d s1 ⟨H1,I1,q1⟩=>?_)
 cases d with
 |true=>exact ha pins s1 σ H1 Q I1 q1
 |false=>exact hb pins s1 σ H1 Q I1 q1
end
def SqL (K:PySem.W.Frag) (H:Hp) (a:Addr) (xs:List V):Prop:=
 Rd H a (.lst xs)\/
  ∃(o:Obj) (eE:Array Value) (n:Nat),K.lookup a=some o/\o.cls= .type "list"/\o.dict=none/\o.data= .seq eE n/\eE.size<=sizeLine/\Vals xs eE.toList
def SqT (K:PySem.W.Frag) (H:Hp) (a:Addr) (xs:List V):Prop:=
 Rd H a (.tup xs)\/
  ∃(o:Obj) (eE:Array Value) (n:Nat),K.lookup a=some o/\o.cls= .type "tuple"/\o.data= .seq eE n/\eE.size<=sizeLine/\Vals xs eE.toList
def VL:Value->Option V
 | .none=>some .non
 | .bool b=>some (.bl b)
 | .int i _=>some (.int i)
 | .str x _=>some (.str x)
 | .bytes b _=>some (.byt b)
 | .float b _=>some (.flt b)
 | .ref a=>some (.ref a)
 | .type n=>some (.ty n)
 |_=>none
theorem RelV.abs (r:RelV x u):VL u=some x:=by
 cases x with
 |non=>cases r;rfl
 |bl _=>cases r;rfl
 |int _=>obtain⟨t,rfl⟩:=r;rfl
 |str _=>obtain⟨t,rfl⟩:=r;rfl
 |byt _=>obtain⟨t,rfl⟩:=r;rfl
 |flt _=>obtain⟨t,rfl⟩:=r;rfl
 |ref _=>cases r;rfl
 |ty _=>cases r;rfl
theorem RelV.inj (r:RelV x u) (q:RelV y u):x=y:=a9 (r.abs.symm.trans q.abs)
theorem Vals.inj:∀{xs ys:List V} {us:List Value},Vals xs us->Vals ys us->xs=ys
 |_,_,_,.nil,.nil=>rfl
 |_,_,_,.cons r t,.cons r' t'=>by rw[r.inj r',Vals.inj t t']
section
variable {X:Cx} {pins:List (Addr×Obj)} {σ:St} {H:Hp} {s:Shared} {a:Addr} {xs ys:List V}
theorem SqL.of {K:PySem.W.Frag} (h:H a=some (.lst xs)):SqL K H a xs:=.inl (.inl h)
theorem SqT.of {K:PySem.W.Frag} (h:H a=some (.tup xs)):SqT K H a xs:=.inl (.inl h)
theorem Inv.list (I:Inv X pins σ H s) (h:SqL X.K H a xs):∃eE:List Value,Vals xs eE/\PlainL s.heap a eE.toArray/\xs.length<=sizeLine:=by
 rcases h with h|⟨o,eE,n,hk,hc,hd,hs,hz,r⟩
 .obtain⟨z,eE,n,r,e⟩:=h.ok I.hok;exact⟨eE,r,⟨_,n,e,rfl,rfl,rfl⟩,z⟩
 .refine⟨eE.toList,r,⟨o,n,I.kIn a o hk,hc,hd,by simpa using hs⟩,?_⟩
  have e:=r.length;simp only[bV]at e;omega
theorem Inv.tuple (I:Inv X pins σ H s) (h:SqT X.K H a xs):∃eE:List Value,Vals xs eE/\IsTup s.heap a eE.toArray/\xs.length<=sizeLine:=by
 rcases h with h|⟨o,eE,n,hk,hc,hs,hz,r⟩
 .obtain⟨z,eE,r,p⟩:=h.ok I.hok;exact⟨eE,r,p,z⟩
 .refine⟨eE.toList,r,⟨o,I.kIn a o hk,hc,n,by simpa using hs⟩,?_⟩
  have e:=r.length;simp only[bV]at e;omega
theorem Inv.uJ (I:Inv X pins σ H s) (h:SqL X.K H a xs) (h':SqL X.K H a ys):xs=ys:=by
 obtain⟨eE,r,⟨o,n,e,_,_,d⟩,_⟩:=I.list h;obtain⟨its',r',⟨o',n',e',_,_,d'⟩,_⟩:=I.list h';rw[e]at e';cases e';rw[d]at d';injection d' with d1 _
 have:eE=its':=by simpa using congrArg Array.toList d1
 subst this;exact r.inj r'
theorem Inv.K5 (I:Inv X pins σ H s) (h:SqT X.K H a xs) (h':SqT X.K H a ys):xs=ys:=by
 obtain⟨eE,r,⟨o,e,_,n,d⟩,_⟩:=I.tuple h;obtain⟨its',r',⟨o',e',_,n',d'⟩,_⟩:=I.tuple h';rw[e]at e';cases e';rw[d]at d';injection d' with d1 _
 have:eE=its':=by simpa using congrArg Array.toList d1
 subst this;exact r.inj r'
end
abbrev Cx.Bl (X:Cx) (E:Value->Shared->Prop):Cx:={X with xe:=E}
abbrev Cx.nox (X:Cx):Cx:=X.Bl fun _ _=>False
theorem Cx.Ok.Bl {X:Cx} (ok:X.Ok) (E:Value->Shared->Prop):(X.Bl E).Ok:=
 ⟨ok.mod,ok.kind,ok.glob,ok.blt,ok.above,ok.inj,ok.has,ok.cab,ok.hd,ok.frames,ok.stk,ok.exf,ok.bs,ok.bsz,ok.Mq,ok.Mr,ok.yj,ok.frf⟩
theorem Cx.Ok.qK {X:Cx} {E:Value->Shared->Prop} (ok:(X.Bl E).Ok):X.Ok:=
 ⟨ok.mod,ok.kind,ok.glob,ok.blt,ok.above,ok.inj,ok.has,ok.cab,ok.hd,ok.frames,ok.stk,ok.exf,ok.bs,ok.bsz,ok.Mq,ok.Mr,ok.yj,ok.frf⟩
section
variable {X:Cx} {pins:List (Addr×Obj)} {σ:St} {H:Hp} {s:Shared} {E:Value->Shared->Prop}
theorem Inv.Bl (I:Inv X pins σ H s) (E:Value->Shared->Prop):Inv (X.Bl E) pins σ H s:=⟨I.ok.Bl E,I.os,I.bare,I.base,I.loc,I.cell,I.free,I.qJ,I.pin,I.hok,I.len⟩
theorem Inv.qK (I:Inv (X.Bl E) pins σ H s):Inv X pins σ H s:=⟨I.ok.qK,I.os,I.bare,I.base,I.loc,I.cell,I.free,I.qJ,I.pin,I.hok,I.len⟩
theorem SP.qK {D:Ends} {f:Flow} {s':Shared} (h:SP (X.Bl E) pins D f s'):SP X pins D f s':=by
 cases f with
 |next=>obtain⟨σ',H',I,q⟩:=h;exact⟨σ',H',I.qK,q⟩
 |brk=>obtain⟨σ',H',I,q⟩:=h;exact⟨σ',H',I.qK,q⟩
 |cont=>obtain⟨σ',H',I,q⟩:=h;exact⟨σ',H',I.qK,q⟩
 |ret u=>obtain⟨v,σ',H',I,r,q⟩:=h;exact⟨v,σ',H',I.qK,r,q⟩
theorem PSs.nox {st:List Stmt} {t:TS} (h:PSs X.nox st t):PSs X st t:=fun pins s σ H D I hw=>
 bW (h pins s σ H D (I.Bl _) hw) (fun _ _ q=>q.qK) fun _ _ z=>False.elim z
end
section
variable {X:Cx} {st:Stmt} {rest:List Stmt} {t u:TS} {e:Expr} {te:TE} {pos:Pos}
def UC:TS:=fun D σ H=>D.nx σ H
def VM (t u:TS):TS:=fun D σ H=>t {D with nx:=u D} σ H
theorem dr:PSs X [] UC:=fun _ _ σ H _ I h=>W9 ⟨σ,H,I,h⟩
theorem cN (h1:PS X st t) (h2:PSs X rest u):PSs X (st::rest) (VM t u):=by
 intro pins s σ H D I h;refine wpAny_execs_cons (thn (h1 pins s σ H {D with nx:=u D} I h) fun f s1 q=>?_)
 cases f with
 |next=>
  obtain⟨σ',H',I',q⟩:=q;exact h2 pins s1 σ' H' D I' q
 |ret v=>exact q
 |brk=>exact q
 |cont=>exact q
theorem cQ (h1:PS X st t):PSs X [st] t:=by
 intro pins s σ H D I h;refine wpAny_execs_cons (thn (h1 pins s σ H D I h) fun f s1 q=>?_)
 cases f with
 |next=>exact W9 q
 |ret v=>exact q
 |brk=>exact q
 |cont=>exact q
theorem Inv.quiet (I:Inv X pins σ H s):interactive X.env=false:=by simp[interactive,I.ok.kind]
def UD (te:TE):TS:=fun D σ H=>te σ H fun _ H1=>D.nx σ H1
theorem dH (he:PE X e te) (hs:swapsWith e none pos.line X.env=pure false:=by rfl):PS X (.Expr e pos) (UD te):=by
 intro pins s σ H D I h;exact wpAny_Expr_any (thn (he pins s σ H _ I h) fun v s1 ⟨x,H1,I1,r1,q1⟩=>⟨σ,H1,I1,q1⟩) I.quiet hs
def VN (te:TE):TS:=fun D σ H=>te σ H D.rt
theorem cV (he:PE X e te):PS X (.Return (some e) pos) (VN te):=by
 intro pins s σ H D I h;exact wpAny_Return_some (thn (he pins s σ H _ I h) fun v s1 ⟨x,H1,I1,r1,q1⟩=>⟨x,σ,H1,I1,r1,q1⟩)
def VO (c:TT) (t u:TS):TS:=fun D σ H=>c σ H fun b H1=>if b=true then t D σ H1 else u D σ H1
theorem dX (hc:PT X c tc) (ha:PSs X a t) (hb:PSs X b u):PS X (.If c a b pos) (VO tc t u):=by
 intro pins s σ H D I h;refine wpAny_If (thn (hc pins s σ H _ I h) fun d s1 ⟨H1,I1,q1⟩=>?_)
 cases d with
 |true=>exact ha pins s1 σ H1 D I1 q1
 |false=>exact hb pins s1 σ H1 D I1 q1
end
abbrev TG:=V->St->Hp->(St->Hp->Prop)->Prop
abbrev TGs:=List V->St->Hp->(St->Hp->Prop)->Prop
def PG (X:Cx) (target:Expr) (t:TG):Prop:=
 ∀(pins:List (Addr×Obj)) (s:Shared) (σ:St) (H:Hp) (v:V) (u:Value) (Q:St->Hp->Prop),Inv X pins σ H s->RelV v u->t v σ H Q->
  wpAny (model X.prog X.w) X.A (assign target X.env u) (fun _ s'=>∃σ' H',Inv X pins σ' H' s'/\Q σ' H') X.xe s
def PGs (X:Cx) (ts:List Expr) (t:TGs):Prop:=
 ∀(pins:List (Addr×Obj)) (s:Shared) (σ:St) (H:Hp) (vs:List V) (us:List Value) (Q:St->Hp->Prop),Inv X pins σ H s->Vals vs us->t vs σ H Q->
  wpAny (model X.prog X.w) X.A (assignInOrder ((assignEach ts X.env).map (·.2)) us) (fun _ s'=>∃σ' H',Inv X pins σ' H' s'/\Q σ' H') X.xe s
abbrev Sb:=V->V->V->Hp->(Hp->Prop)->Prop
def Sd (X:Cx) (t:Sb):Prop:=
 ∀(pins:List (Addr×Obj)) (s:Shared) (σ:St) (H:Hp) (o i v:V) (ov iv u:Value) (Q:Hp->Prop),Inv X pins σ H s->RelV o ov->RelV i iv->RelV v u->t o i v H Q->
  wpAny (model X.prog X.w) X.A (setItem ov iv u) (fun _ s'=>∃H',Inv X pins σ H' s'/\Q H') X.xe s
abbrev TIp:=V->V->Hp->VK->Prop
def PIp (X:Cx) (op:Operator) (t:TIp):Prop:=
 ∀(pins:List (Addr×Obj)) (s:Shared) (σ:St) (H:Hp) (x y:V) (v u:Value) (Q:VK),Inv X pins σ H s->RelV x v->RelV y u->t x y H Q->
  wpAny (model X.prog X.w) X.A (inplaceOp op v u) (EP X pins σ Q) X.xe s
section
variable {X:Cx} {pos:Pos}
def Fb (i:Nat):TG:=fun v σ H Q=>Q (σ.set i (some v)) H
theorem J8 (hN:X.N.Nodup) (hi:X.N[i]?=some x) (hx:Loc X.env.scope x) (hf:X.fn x=true\/X.env.scope.names.lookup x=some .local:=by first|exact .inl rfl|exact .inr rfl|assumption):PG X (.Name x pos) (Fb i):=by
 intro pins s σ H v u Q I r h;exact wpAny_assign_Name (zu I hN hi hx r (fun s' I'=>⟨_,H,I',h⟩) hf)
def VP:TGs:=fun vs σ H Q=>vs= []/\Q σ H
inductive Rv (t:TG) (u:TGs) (vs:List V) (σ:St) (H:Hp) (Q:St->Hp->Prop):Prop
 |mk:∀v r,vs=v::r->(t v σ H fun σ' H'=>u r σ' H' Q)->Rv t u vs σ H Q
theorem Dd:PGs X [] VP:=by
 intro pins s σ H vs us Q I r h;obtain⟨e,h⟩:=h;subst e;cases r;exact assignInOrder_nil ⟨σ,H,I,h⟩
theorem oz (h1:PG X e t) (h2:PGs X es u)
  (hs:(assignEach (e::es) X.env).map (·.2)=assign e X.env::(assignEach es X.env).map (·.2):=by rfl):PGs X (e::es) (Rv t u):=by
 intro pins s σ H vs us Q I r h;obtain⟨v,vr,e1,h⟩:=h;subst e1;cases r with
 |cons r rr=>
  rw[hs];refine assignInOrder_cons (thn (h1 pins s σ H _ _ _ I r h) fun _ s1 ⟨σ1,H1,I1,q1⟩=>?_)
  exact h2 pins s1 σ1 H1 _ _ Q I1 rr q1
inductive Se (K:PySem.W.Frag) (n:Nat) (t:TGs) (v:V) (σ:St) (H:Hp) (Q:St->Hp->Prop):Prop
 |mk:∀a xs,v= .ref a->SqT K H a xs->xs.length=n->t xs σ H Q->Se K n t v σ H Q
theorem Hq (hc:X.calm=true) (h:PGs X es t)
  (hn:(assignEach es X.env).length=n:=by rfl) (mB:(assignEach es X.env).findIdx? (·.1)=none:=by rfl):PG X (.Tuple es k pos) (Se X.K n t):=by
 intro pins s σ H v u Q I r hw;obtain⟨a,xs,e1,hq,hl,hw⟩:=hw;subst e1;cases r;obtain⟨eE,rv,ht,hz⟩:=I.tuple hq;refine assign_Tuple_tuple (I.ok.hd hc) ht (by simp[hn,<-hl,rv.length]) mB fun h' hx=>?_
 have I1:Inv X pins σ H {s with heap:=h'}:=I.kept (t':=s.toks) fun b o e=>hx b o (bq (aM e)) e
 exact h pins _ σ H xs _ Q I1 (by simpa using rv) hw
def VQ (to ti:TE) (t:Sb):TG:=fun v σ H Q=>to σ H fun o H1=>ti σ H1 fun i H2=>t o i v H2 fun H3=>Q σ H3
theorem qL (ho:PE X o to) (hi:PE X i ti) (hs:Sd X t)
  (ha:∀v,assign (.Subscript o i pos) X.env v=(do
   let ov<-holding [v] (eval o X.env)
   let iv<-holding [v,ov] (eval i X.env)
   standAt pos
   holding [v,ov,iv] (setItem ov iv v)
   release [v,ov,iv] []):=by intro _;rfl):PG X (.Subscript o i pos) (VQ to ti t):=by
 intro pins s σ H v u Q I r h;rw[ha];refine aD (WB (thn (ho pins s σ H _ I h) fun ov s1 ⟨x,H1,I1,r1,q1⟩=>?_))
 refine aD (WB (thn (hi pins s1 σ H1 _ I1 q1) fun iv s2 ⟨y,H2,I2,r2,q2⟩=>?_))
 refine aD (wpAny_standAt (aD (WB (thn (hs pins s2 σ H2 x y v ov iv u _ I2 r1 r2 r q2) fun _ s3 ⟨H3,I3,q3⟩=>?_))))
 exact wpAny_release ⟨σ,H3,I3,q3⟩
def Sf (te:TE) (g:TG):TS:=fun D σ H=>te σ H fun x H1=>g x σ H1 D.nx
theorem qM (he:PE X e te) (hg:PG X tg g) (hs:swapsWithSole [tg] e pos.line X.env=pure false:=by rfl) (hw:swappedStores [tg] e X.env=pure none:=by rfl)
  (h1:(assignEach [tg] X.env).map (·.2)= [assign tg X.env]:=by rfl):PS X (.Assign [tg] e pos) (Sf te g):=by
 intro pins s σ H D I h;refine wpAny_Assign_stores (thn (he pins s σ H _ I h) fun v s1 ⟨x,H1,I1,r1,q1⟩=>?_) hs hw
 rw[h1];exact thn (hg pins s1 σ H1 x v _ I1 r1 q1) fun _ s2 q=>q
theorem Sg (hN:X.N.Nodup) (hi:X.N[i]?=some x) (hx:Loc X.env.scope x) (he:PE X e te) (hs:swapsWith e (some (.Name x pos')) pos.line X.env=pure false:=by rfl) (hf:X.fn x=true\/X.env.scope.names.lookup x=some .local:=by first|exact .inl rfl|exact .inr rfl|assumption):
  PS X (.Assign [.Name x pos'] e pos) (Sf te (Fb i)):=by
 intro pins s σ H D I h;refine wpAny_Assign_Name (thn (he pins s σ H _ I h) fun v s1 ⟨y,H1,I1,r1,q1⟩=>?_) hs
 exact zu I1 hN hi hx r1 (fun s2 I2=>⟨_,H1,I2,q1⟩) hf
def VR (i:Nat) (te:TE) (ti:TIp):TS:=fun D σ H=>∃x,σ[i]?=some (some x)/\te σ H fun y H1=>ti x y H1 fun z H2=>D.nx (σ.set i (some z)) H2
theorem Si (hN:X.N.Nodup) (hi:X.N[i]?=some x) (hx:Loc X.env.scope x) (he:PE X e te) (ho:PIp X op ti) (hf:X.fn x=true\/X.env.scope.names.lookup x=some .local:=by first|exact .inl rfl|exact .inr rfl|assumption):
  PS X (.AugAssign (.Name x pos') op e pos) (VR i te ti):=by
 intro pins s σ H D I h;obtain⟨v,e1,h⟩:=h;obtain⟨m,hn,hl⟩:=I.loc;have vis:Vis X.env.scope x:=by rcases hx with k|k;exact .inl k;exact .inr (.inl k)
 obtain⟨u,r,l⟩:=hl i x v hi e1 vis;refine wpAny_AugAssign_Name ?_;have go:wpAny (model X.prog X.w) X.A (eval e X.env) (fun w s₂=>wpAny (model X.prog X.w) X.A (inplaceOp op u w) (fun r s₃=>wpAny (model X.prog X.w) X.A (storeName X.env x r) (fun _=>SP X pins D .next) X.xe s₃) X.xe s₂) X.xe s:=by
  refine thn (he pins s σ H _ I h) fun w s1 ⟨y,H1,I1,r1,q1⟩=>?_
  refine thn (ho pins s1 σ H1 v y u w _ I1 r r1 q1) fun z s2 ⟨zv,H2,I2,r2,q2⟩=>?_
  exact zu I2 hN hi hx r2 (fun s3 I3=>⟨_,H2,I3,q2⟩) hf
 rcases l with⟨hk,hm⟩|⟨hk,c,hc,hcell⟩
 .exact wpAny_loadName_local I.ok.kind hk hn hm go
 .rcases hk with hk|hk
  .exact wpAny_loadName_cell I.ok.kind hk hc hcell go
  .rcases hx with k|k
   .have:X.env.scope.names.lookup x=some .free:=hk
    rw[k]at this;cases this
   .have:X.env.scope.names.lookup x=some .free:=hk
    rw[k]at this;cases this
def UE (to ti te:TE) (tget:V->V->Hp->VK->Prop) (tip:TIp) (tset:Sb):TS:=fun D σ H=>to σ H fun o H1=>ti σ H1 fun i H2=>tget o i H2 fun x H3=>te σ H3 fun y H4=>tip x y H4 fun z H5=>tset o i z H5 fun H6=>D.nx σ H6
def UG (X:Cx) (t:V->V->Hp->VK->Prop):Prop:=
 ∀(pins:List (Addr×Obj)) (s:Shared) (σ:St) (H:Hp) (o i:V) (ov iv:Value) (Q:VK),Inv X pins σ H s->RelV o ov->RelV i iv->t o i H Q->
  wpAny (model X.prog X.w) X.A (getItem ov iv) (EP X pins σ Q) X.xe s
theorem J9 {tget:V->V->Hp->VK->Prop} (ho:PE X o to) (hi:PE X i ti) (hg:UG X tget) (he:PE X e te) (hp:PIp X op tip) (hs:Sd X tset)
  (ha:∀ov iv new,augStore i ov iv new=(do holding [new,ov,iv] (setItem ov iv new);release [new,ov,iv] [];pure .next):=by intros;rfl):PS X (.AugAssign (.Subscript o i uG) op e pos) (UE to ti te tget tip tset):=by
 intro pins s σ H D I h;refine wpAny_AugAssign_SubscriptAny (thn (ho pins s σ H _ I h) fun ov s1 ⟨x1,H1,I1,r1,q1⟩=>?_) ha
 refine thn (hi pins s1 σ H1 _ I1 q1) fun iv s2 ⟨x2,H2,I2,r2,q2⟩=>?_
 refine thn (hg pins s2 σ H2 x1 x2 ov iv _ I2 r1 r2 q2) fun old s3 ⟨x3,H3,I3,r3,q3⟩=>?_
 refine thn (he pins s3 σ H3 _ I3 q3) fun v s4 ⟨x4,H4,I4,r4,q4⟩=>?_
 refine thn (hp pins s4 σ H4 x3 x4 old v _ I4 r3 r4 q4) fun new s5 ⟨x5,H5,I5,r5,q5⟩=>?_
 exact thn (hs pins s5 σ H5 x1 x2 x5 ov iv new _ I5 r1 r2 r5 q5) fun _ s6 ⟨H6,I6,q6⟩=>⟨σ,H6,I6,q6⟩
def ipI (f:Int->Int->Int):TIp:=fun x y H Q=>∃i j,x= .int i/\y= .int j/\Q (.int (f i j)) H
theorem Sj:PIp X .Add (ipI fun i j=>i+j):=by
 intro pins s σ H x y v u Q I r1 r2 h;obtain⟨i,j,e1,e2,q⟩:=h;subst e1;subst e2;obtain⟨t,rfl⟩:=r1;obtain⟨t',rfl⟩:=r2;exact iadd_int ⟨.int _,H,I.tok _,⟨_,rfl⟩,q⟩
theorem Mw:PIp X .Sub (ipI fun i j=>i-j):=by
 intro pins s σ H x y v u Q I r1 r2 h;obtain⟨i,j,e1,e2,q⟩:=h;subst e1;subst e2;obtain⟨t,rfl⟩:=r1;obtain⟨t',rfl⟩:=r2;exact isub_int ⟨.int _,H,I.tok _,⟨_,rfl⟩,q⟩
end
section
variable {X:Cx} {pos:Pos}
def Mx (c:TT) (tb:TS):TS:=fun D σ H=>∃W:Nat->St->Hp->Prop,(∃m,W m σ H)/\∀m σ H,W m σ H->
 c σ H fun b H1=>if b=true then∃N:St->Hp->Prop,(∀σ' H',N σ' H'->∃m',m'<m/\W m' σ' H')/\tb {D with nx:=N,ct:=N,bk:=D.nx} σ H1 else D.nx σ H1
theorem qN (hp:PassesOwn (model X.prog X.w) X.A X.env X.xe) (hc:PT X c tc) (hb:PSs X body tb):PS X (.While c body [] pos) (Mx tc tb):=by
 intro pins s σ H D I h;obtain⟨W,⟨m0,w0⟩,turn⟩:=h;refine wpAny_While (codeAny_whileLoop (fun n s'=>∃σ' H',Inv X pins σ' H' s'/\W n σ' H') ?_ m0 ⟨σ,H,I,w0⟩)
 rintro n s1 ⟨σ1,H1,I1,w1⟩;refine cb hp (thn (hc pins s1 σ1 H1 _ I1 (turn n σ1 H1 w1)) fun b s2 ⟨H2,I2,q2⟩=>?_)
 cases b with
 |true=>
  obtain⟨N,hN,q2⟩:=q2;rw[aq rfl];refine cb hp (thn (hb pins s2 σ1 H2 _ I2 q2) fun f s3 q3=>?_)
  cases f with
  |next=>
   obtain⟨σ3,H3,I3,n3⟩:=q3;obtain⟨m',hm,w3⟩:=hN σ3 H3 n3;exact⟨m',hm,σ3,H3,I3,w3⟩
  |cont=>
   obtain⟨σ3,H3,I3,n3⟩:=q3;obtain⟨m',hm,w3⟩:=hN σ3 H3 n3;exact⟨m',hm,σ3,H3,I3,w3⟩
  |brk=>exact q3
  |ret v=>exact q3
 |false=>
  rw[aj aN];exact W9 ⟨σ1,H2,I2,q2⟩
end
structure It where
 go:Nat->Hp->Prop
 yld:Nat->Hp->V->Hp->Prop
 stop:Nat->Hp->Prop
def yk (X:Cx) (pins:List (Addr×Obj)) (H:Hp) (b:Addr):Prop:=
 H b=none/\b≠X.env.locals/\b∉X.fs/\(b∈X.ex\/X.s_0.heap.objs.size<=b)/\(∀x c,X.env.cells.lookup x=some c->c≠b)/\∀p∈X.pn++pins,p.1≠b
theorem Inv.Fc (I:Inv X pins σ H s) (hb:s.heap.objs.size<=b) (hn:H' b=none):yk X pins H' b:=by
 refine⟨hn,XS (aR I.lt hb),I.VF hb,.inr (ai I.sz hb),fun x c e z=>?_,fun p hp z=>?_⟩
 .obtain⟨v,q⟩:=I.cell x c e;exact absurd (aR q.lt (by rw[z];exact hb)) (bG _)
 .exact absurd (aR (aM (I.pin p hp).1) (by rw[z];exact hb)) (bG _)
structure Turn (P:Program) (w:World) (K:PySem.W.Frag) (tg:Expr) (J:It) (fp:List Addr) (it:Addr) (tn:Nat->Heap->Prop):Prop where
 mem:it∈fp
 obj:∀i h,tn i h->∀b∈fp,∃o,h.get? b=some o/\∀v,o.data≠ .cell v
 keep:∀i h h',tn i h->(∀b∈fp,∀o,h.get? b=some o->h'.get? b=some o)->tn i h'
 item:∀(X:Cx),X.prog=P->X.w=w->X.K=K->X.calm=true->∀(i:Nat) (pins:List (Addr×Obj)) (s:Shared) (σ:St) (H:Hp) (E:Value->Shared->Prop),Inv X pins σ H s->(∀b∈fp,yk X pins H b)->tn i s.heap->J.go i H->
  wpAny (model P w) X.A (pyNext (.ref it)) (fun r s1=>∃u,r=some u/\
   wpAny (model P w) X.A (letOwnedTupleGo tg (.ref it) u) (fun _ s2=>∃x H',Inv X pins σ H' s2/\RelV x u/\J.yld i H x H'/\tn (i+1) s2.heap/\∀b∈fp,H' b=none) E s1) E s
 done:∀(X:Cx),X.prog=P->X.w=w->X.K=K->X.calm=true->∀(i:Nat) (pins:List (Addr×Obj)) (s:Shared) (σ:St) (H:Hp) (E:Value->Shared->Prop),Inv X pins σ H s->(∀b∈fp,yk X pins H b)->tn i s.heap->J.stop i H->
  wpAny (model P w) X.A (pyNext (.ref it)) (fun r s1=>r=none/\Inv X pins σ H s1) E s
 self:∀(A:Around) (i:Nat) (s:Shared) (Q:Value->Shared->Prop) (E:Value->Shared->Prop),tn i s.heap->Q (.ref it) s->wpAny (model P w) A (pyIter (.ref it)) Q E s
abbrev TI:=St->Hp->(It->Hp->Prop)->Prop
def PIE (X:Cx) (pins:List (Addr×Obj)) (σ:St) (tg:Expr) (R:It->Hp->Prop) (itv:Value) (s2:Shared):Prop:=
 ∃(it:Addr) (fp:List Addr) (tn:Nat->Heap->Prop) (J:It) (H':Hp),itv= .ref it/\Inv X pins σ H' s2/\Turn X.prog X.w X.K tg J fp it tn/\tn 0 s2.heap/\(∀b∈fp,yk X pins H' b)/\R J H'
def PI (X:Cx) (tg iter:Expr) (wi:TI):Prop:=
 ∀(pins:List (Addr×Obj)) (s:Shared) (σ:St) (H:Hp) (R:It->Hp->Prop),Inv X pins σ H s->wi σ H R->
  wpAny (model X.prog X.w) X.A (eval iter X.env) (fun v s1=>wpAny (model X.prog X.w) X.A (pyIter v) (PIE X pins σ tg R) X.xe s1) X.xe s
theorem Ka {M:Model} {A:Around} {E:Value->Shared->Prop} {s:Shared} {tg:Expr} {it:Addr} {u:Value} {o:Obj} {n:String} {vs:Array Value} {Q:Unit->Shared->Prop} (ho:s.heap.get? it=some o) (hc:o.cls= .type n) (hd:o.data= .fields vs)
  (hn: ["enumerate","zip","dict_itemiterator","dict_reverseitemiterator","odict_iterator","itertools.zip_longest","itertools.pairwise"].contains n=false) (hQ:Q () s):wpAny M A (letOwnedTupleGo tg (.ref it) u) Q E s:=by
 unfold letOwnedTupleGo;cases tg<;>first
  |exact aU hQ
  |(cases u<;>first
    |exact aU hQ
    |(refine aD (wpAny_load ho ?_)
      rw[hc,hd];show wpAny M A (if (["enumerate","zip","dict_itemiterator","dict_reverseitemiterator","odict_iterator","itertools.zip_longest","itertools.pairwise"].contains n&&vs[0]?==some (rawInt _))=true then _ else _) Q E s
      rw[aj (by intro h;rw[hn,X0]at h;cases h)]
      exact aU hQ))
def Itl (K:PySem.W.Frag) (a:Addr):It:=
 ⟨fun i H=>∃xs x,SqL K H a xs/\xs[i]?=some x,fun i H x H'=>H'=H/\∀xs,SqL K H a xs->xs[i]?=some x,fun i H=>∃xs,SqL K H a xs/\xs.length<=i⟩
def Itt (K:PySem.W.Frag) (a:Addr):It:=
 ⟨fun i H=>∃xs x,SqT K H a xs/\xs[i]?=some x,fun i H x H'=>H'=H/\∀xs,SqT K H a xs->xs[i]?=some x,fun i H=>∃xs,SqT K H a xs/\xs.length<=i⟩
def Itr (lo:Int) (n:Nat):It:=⟨fun i _=>i<n,fun i H x H'=>H'=H/\x= .int (lo+i),fun i _=>n<=i⟩
theorem K6 {P:Program} {w:World} {K:PySem.W.Frag} {tg:Expr} (a it:Addr):Turn P w K tg (Itl K a) [it] it (fun i h=>h.IsListIter it a i) where
 mem:=by simp
 obj:=fun i h st b hb=>by
  have e:b=it:=by simpa using hb
  subst e;obtain⟨o,e,c,d⟩:=st;exact⟨o,e,fun v z=>by rw[d]at z;cases z⟩
 keep:=fun i h h' st k=>st.at fun o e=>k it (by simp) o e
 item:=by
  intro X hP hw hK hc i pins s σ H E I hf st hg;subst hP hw hK;obtain⟨xs,x,hq,hx⟩:=hg;obtain⟨eE,rv,p,hz⟩:=I.list hq;obtain⟨u,hu,ru⟩:=rv.get hx;obtain⟨f0,f1,f2,f3,f4,f5⟩:=hf it (by simp)
  refine wpAny_pyNext_list_item st p.isList (x:=u) (by simpa using hu) fun h' gg sb=>?_
  have I1:Inv X pins σ H {s with heap:=h'}:=I.turned (t':=s.toks) (fun b o hb e=>(sb.2 b hb).trans e) f0 f1 f3 f4 f5
  obtain⟨o,e,c,d⟩:=id gg;exact⟨u,rfl,Ka (s:={s with heap:=h'}) e c d (by decide) ⟨x,H,I1,ru,⟨rfl,fun ys hy=>by rw[I.uJ hy hq];exact hx⟩,gg,fun b hb=>(hf b hb).1⟩⟩
 done:=by
  intro X hP hw hK hc i pins s σ H E I hf st hg;subst hP hw hK;obtain⟨xs,hq,hx⟩:=hg;obtain⟨eE,rv,p,hz⟩:=I.list hq;obtain⟨f0,f1,f2,f3,f4,f5⟩:=hf it (by simp)
  have hl:=rv.length;exact wpAny_pyNext_list_end (I.ok.hd hc) st p.isList (by simp;omega) fun h' eb=>⟨rfl,I.turned (t':=s.toks) (fun b o hb e=>eb b o hb e) f0 f1 f3 f4 f5⟩
 self:=fun _ _ _ _ _ st h=>wpAny_pyIter_listiter st h
theorem Hr {P:Program} {w:World} {K:PySem.W.Frag} {tg:Expr} (a it:Addr):Turn P w K tg (Itt K a) [it] it (fun i h=>h.IsTupleIter it a i) where
 mem:=by simp
 obj:=fun i h st b hb=>by
  have e:b=it:=by simpa using hb
  subst e;obtain⟨o,e,c,d⟩:=st;exact⟨o,e,fun v z=>by rw[d]at z;cases z⟩
 keep:=fun i h h' st k=>st.at fun o e=>k it (by simp) o e
 item:=by
  intro X hP hw hK hc i pins s σ H E I hf st hg;subst hP hw hK;obtain⟨xs,x,hq,hx⟩:=hg;obtain⟨eE,rv,p,hz⟩:=I.tuple hq;obtain⟨u,hu,ru⟩:=rv.get hx;obtain⟨f0,f1,f2,f3,f4,f5⟩:=hf it (by simp)
  refine wpAny_pyNext_tuple_item st (show s.heap.IsTuple a eE.toArray from p) (x:=u) (by simpa using hu) fun h' gg sb=>?_
  have I1:Inv X pins σ H {s with heap:=h'}:=I.turned (t':=s.toks) (fun b o hb e=>(sb.2 b hb).trans e) f0 f1 f3 f4 f5
  obtain⟨o,e,c,d⟩:=id gg;exact⟨u,rfl,Ka (s:={s with heap:=h'}) e c d (by decide) ⟨x,H,I1,ru,⟨rfl,fun ys hy=>by rw[I.K5 hy hq];exact hx⟩,gg,fun b hb=>(hf b hb).1⟩⟩
 done:=by
  intro X hP hw hK hc i pins s σ H E I hf st hg;subst hP hw hK;obtain⟨xs,hq,hx⟩:=hg;obtain⟨eE,rv,p,hz⟩:=I.tuple hq;obtain⟨f0,f1,f2,f3,f4,f5⟩:=hf it (by simp)
  have hl:=rv.length;exact wpAny_pyNext_tuple_end (I.ok.hd hc) st (show s.heap.IsTuple a eE.toArray from p) (by simp;omega) fun h' eb=>⟨rfl,I.turned (t':=s.toks) (fun b o hb e=>eb b o hb e) f0 f1 f3 f4 f5⟩
 self:=fun _ _ _ _ _ st h=>wpAny_pyIter_tupleiter st h
theorem Hs {P:Program} {w:World} {K:PySem.W.Frag} {tg:Expr} (it:Addr) (lo:Int) (n:Nat):Turn P w K tg (Itr lo n) [it] it (fun i h=>IsRangeIter h it (lo+(i:Nat)*1) ((n:Int)-(i:Nat)) 1) where
 mem:=by simp
 obj:=fun i h st b hb=>by
  have e:b=it:=by simpa using hb
  subst e;exact⟨_,st,fun v z=>by
   have z':Data.fields _=Data.cell v:=z;cases z'⟩
 keep:=fun i h h' st k=>k it (by simp) _ st
 item:=by
  intro X hP hw hK hc i pins s σ H E I hf st hg;subst hP hw hK;obtain⟨f0,f1,f2,f3,f4,f5⟩:=hf it (by simp)
  have W:=Walks.range (prog:=X.prog) (w:=X.w) (I.ok.hd hc) it lo 1 n;refine W.item i s _ _ hg st fun v h' tk hv gg kk=>?_
  obtain⟨t,rfl⟩:=hv;have I1:Inv X pins σ H {s with heap:=h',toks:=tk}:=I.turned (fun b o hb e=>kk b o (by simpa using hb) e) f0 f1 f3 f4 f5
  refine⟨_,rfl,Ka (s:={s with heap:=h',toks:=tk}) (n:="range_iterator") gg rfl rfl (by decide) ⟨.int (lo+i),H,I1,⟨t,?_⟩,⟨rfl,rfl⟩,gg,fun b hb=>(hf b hb).1⟩⟩
  rw[Int.mul_one]
 done:=by
  intro X hP hw hK hc i pins s σ H E I hf st hg;subst hP hw hK;obtain⟨f0,f1,f2,f3,f4,f5⟩:=hf it (by simp)
  exact wpAny_pyNext_range_end (I.ok.hd hc) st (by have:n<=i:=hg;omega) fun h' eb=>⟨rfl,I.turned (t':=s.toks) (fun b o hb e=>eb b o hb e) f0 f1 f3 f4 f5⟩
 self:=fun _ _ _ _ _ st h=>wpAny_pyIter_rangeiter st h
section
variable {X:Cx} {tg:Expr}
def UH (K:PySem.W.Frag) (tl:TE):TI:=fun σ H R=>tl σ H fun x H1=>∃a,x= .ref a/\(∃xs,SqL K H1 a xs)/\R (Itl K a) H1
def VS (K:PySem.W.Frag) (tl:TE):TI:=fun σ H R=>tl σ H fun x H1=>∃a,x= .ref a/\(∃xs,SqT K H1 a xs)/\R (Itt K a) H1
theorem uK {l:Expr} {tl:TE} (hl:PE X l tl):PI X tg l (UH X.K tl):=by
 intro pins s σ H R I h;refine thn (hl pins s σ H _ I h) fun v s1 ⟨x,H1,I1,r1,q1⟩=>?_
 obtain⟨a,e,⟨xs,hq⟩,q⟩:=q1;subst e;cases r1;obtain⟨eE,rv,p,hz⟩:=I1.list hq;refine wpAny_pyIter_list p.isList ?_;refine⟨s1.heap.objs.size,[s1.heap.objs.size],_,_,H1,rfl,I1.kept (t':=s1.toks) fun b o e=>aK _ e,K6 a _,⟨_,a8 _ rfl,rfl,rfl⟩,fun b hb=>?_,q⟩
 have e:b=s1.heap.objs.size:=by simpa using hb
 subst e;exact I1.Fc (au _) (I1.hok.fresh (au _))
theorem Sk {l:Expr} {tl:TE} (hl:PE X l tl):PI X tg l (VS X.K tl):=by
 intro pins s σ H R I h;refine thn (hl pins s σ H _ I h) fun v s1 ⟨x,H1,I1,r1,q1⟩=>?_
 obtain⟨a,e,⟨xs,hq⟩,q⟩:=q1;subst e;cases r1;obtain⟨eE,rv,p,hz⟩:=I1.tuple hq;refine wpAny_pyIter_tuple (show s1.heap.IsTuple a eE.toArray from p) ?_;refine⟨s1.heap.objs.size,[s1.heap.objs.size],_,_,H1,rfl,I1.kept (t':=s1.toks) fun b o e=>aK _ e,Hr a _,⟨_,a8 _ rfl,rfl,rfl⟩,fun b hb=>?_,q⟩
 have e:b=s1.heap.objs.size:=by simpa using hb
 subst e;exact I1.Fc (au _) (I1.hok.fresh (au _))
theorem Fd {pins:List (Addr×Obj)} {σ:St} {H:Hp} {s:Shared} {R:It->Hp->Prop} {E:Value->Shared->Prop} {lo hi:Int} {t u v:Tok} {tk:Nat} (I:Inv X pins σ H s) (h1:-(2^62)<=lo) (h2:lo<2^62) (h3:-(2^62)<=hi) (h4:hi<2^62)
  (q:R (Itr lo (hi-lo).toNat) H):wpAny (model X.prog X.w) X.A (pyIter (.ref s.heap.objs.size)) (PIE X pins σ tg R) E {s with heap:=s.heap.push {cls:=.type "range",data:=.fields #[.int lo t,.int hi u,.int 1 v]},toks:=tk}:=by
 refine wpAny_pyIter_range (IsRange.new ..) (small_one h1 h2 h3 h4) ?_;have I1:Inv X pins σ H {s with heap:=s.heap.push {cls:=.type "range",data:=.fields #[.int lo t,.int hi u,.int 1 v]},toks:=tk}:=I.kept fun b o e=>aK _ e
 refine⟨(s.heap.push {cls:=.type "range",data:=.fields #[.int lo t,.int hi u,.int 1 v]}).objs.size,[(s.heap.push {cls:=.type "range",data:=.fields #[.int lo t,.int hi u,.int 1 v]}).objs.size],_,_,H,rfl,
  I1.kept (t':=tk) fun b o e=>aK _ e,Hs _ lo (hi-lo).toNat,?_,fun b hb=>?_,q⟩
 .have e1:lo+((0:Nat):Int)*1=lo:=by simp
  have e2:(((hi-lo).toNat:Nat):Int)-((0:Nat):Int)=Builtin.Range.rangeSize lo hi 1:=by rw[rangeSize_one];split<;>omega
  show IsRangeIter _ _ (lo+((0:Nat):Int)*1) ((((hi-lo).toNat:Nat):Int)-((0:Nat):Int)) 1;rw[e1,e2];exact a8 _ rfl
 .have e:b=(s.heap.push {cls:=.type "range",data:=.fields #[.int lo t,.int hi u,.int 1 v]}).objs.size:=by simpa using hb
  subst e;exact I1.Fc (au _) (I1.hok.fresh (au _))
def UI (ta:TA):TI:=fun σ H R=>ta σ H fun vs H1=>∃j:Int,vs= [.int j]/\-(2^62)<=j/\j<2^62/\R (Itr 0 j.toNat) H1
def UJ (ta:TA):TI:=fun σ H R=>ta σ H fun vs H1=>∃i j:Int,vs= [.int i,.int j]/\(-(2^62)<=i/\i<2^62/\-(2^62)<=j/\j<2^62)/\R (Itr i (j-i).toNat) H1
theorem wb {a:Expr} {ta:TA} {p pos:Pos} (hg:Gl X "range") (hm:X.mg "range"=none) (ha:PA X [a] ta) (hs:starEach [a] X.env= [(false,eval a X.env)]:=by rfl):PI X tg (.Call (.Name "range" p) [a] [] pos) (UI ta):=by
 intro pins s σ H R I h;refine Call_ (sZ I hg hm boot_range (bA (thn (ha pos pins s σ H _ I h) fun us s1 ⟨vs,H1,I1,r1,q1⟩=>?_) hs rfl))
 obtain⟨j,e,q1,q2,q⟩:=q1;subst e;cases r1 with
 |cons r rr=>
  cases rr;obtain⟨t,rfl⟩:=r;exact call_range_1 (Fd I1 (by omega) (by omega) q1 q2 (by simpa using q))
theorem K7 (hg:Gl X "range") (hm:X.mg "range"=none) (ha:PA X [a,b] ta) (hs:starEach [a,b] X.env= [(false,eval a X.env),(false,eval b X.env)]:=by rfl) (hs2:starEach [b] X.env= [(false,eval b X.env)]:=by rfl):
  PI X tg (.Call (.Name "range" p) [a,b] [] pos) (UJ ta):=by
 intro pins s σ H R I h;refine Call_ (sZ I hg hm boot_range (bA (thn (ha pos pins s σ H _ I h) fun us s1 ⟨vs,H1,I1,r1,q1⟩=>?_) (by rw[hs,hs2]) (by rw[hs2];rfl)))
 obtain⟨i,j,e,⟨q1,q2,q3,q4⟩,q⟩:=q1;subst e;cases r1 with
 |cons r rr=>
  cases rr with
  |cons r' rr=>
   cases rr;obtain⟨t,rfl⟩:=r;obtain⟨t',rfl⟩:=r';exact call_range_2 (Fd I1 q1 q2 q3 q4 q)
def VT (wi:TI) (g:TG) (tb:TS):TS:=fun D σ H=>wi σ H fun J H1=>∃W:Nat->Nat->St->Hp->Prop,(∃m,W 0 m σ H1)/\∀i m σ H,W i m σ H->
 (J.stop i H/\D.nx σ H)\/(J.go i H/\∃N:St->Hp->Prop,(∀σ' H',N σ' H'->∃m',m'<m/\W (i+1) m' σ' H')/\∀x H',J.yld i H x H'->g x σ H' fun σ2 H2=>tb {D with nx:=N,ct:=N,bk:=D.nx} σ2 H2)
def zw (fp:List Addr) (h:Heap):List (Addr×Obj):=fp.filterMap fun b=>(h.get? b).map fun o=>(b,o)
theorem tm (hb:b∈fp) (e:h.get? b=some o):(b,o)∈zw fp h:=List.mem_filterMap.mpr ⟨b,hb,by rw[e];rfl⟩
theorem K8 {p:Addr×Obj} (hp:p∈zw fp h):p.1∈fp/\h.get? p.1=some p.2:=by
 obtain⟨b,hb,e⟩:=List.mem_filterMap.mp hp;cases q:h.get? b with
 |none=>rw[q]at e;cases e
 |some o=>
  rw[q]at e;have e':(b,o)=p:=a9 e;subst e';exact⟨hb,q⟩
theorem Inv.pinned (I:Inv X pins σ H s) (hf:∀b∈fp,yk X pins H b) (ho:∀b∈fp,∃o,s.heap.get? b=some o/\∀v,o.data≠ .cell v):Inv X (pins++zw fp s.heap) σ H s:=
 I.J6 fun p hp=>(bO.mp hp).elim (fun z=>I.pin p (ba _ z)) fun z=>by
  obtain⟨hb,e⟩:=K8 z;obtain⟨f0,f1,f2,_⟩:=hf p.1 hb;obtain⟨o,e',d⟩:=ho p.1 hb;rw[e]at e';cases e';exact⟨e,f0,f1,f2,d⟩
theorem Inv.uL (I:Inv X (pins++pl) σ H s):Inv X pins σ H s:=I.J6 fun p hp=>I.pin p (ba _ (cH _ hp))
theorem qO (hp:PassesOwn (model X.prog X.w) X.A X.env X.xe) (hc:X.calm=true) (hi:PI X tg iter wi) (hg:PG X tg g) (hb:PSs X body tb)
  (hs:∀x,foldedSetIterable iter X.env x=pure x:=by intro _;rfl):PS X (.For tg iter body [] pos) (VT wi g tb):=by
 intro pins s σ H D I h;refine wpAny_For (thn (hi pins s σ H _ I h) fun v s1 h1=>thn h1 fun itv s2 h2=>?_) hs
 obtain⟨it,fp,tn,J,H2,e,I2,T,st2,f2,W,⟨m0,w0⟩,turn⟩:=h2;subst e;have stat:∀{H':Hp},(∀b∈fp,H' b=none)->∀b∈fp,yk X pins H' b:=fun hn b hb=>⟨hn b hb,(f2 b hb).2⟩
 refine codeAny_forLoop_any (fun n s'=>∃i σ' H',Inv X pins σ' H' s'/\tn i s'.heap/\(∀b∈fp,H' b=none)/\W i n σ' H') ?_ m0 ⟨0,σ,H2,I2,st2,fun b hb=>(f2 b hb).1,w0⟩
 rintro n s3 ⟨i,σ3,H3,I3,st3,fr3,w3⟩;rcases turn i n σ3 H3 w3 with⟨stop,qn⟩|⟨go,N,hN,step⟩
 .refine cb hp (thn (T.done X rfl rfl rfl hc i pins s3 σ3 H3 X.xe I3 (stat fr3) st3 stop) fun r s4 ⟨hr,I4⟩=>?_)
  subst hr;exact W9 ⟨σ3,H3,I4,qn⟩
 .refine cb hp (thn (T.item X rfl rfl rfl hc i pins s3 σ3 H3 X.xe I3 (stat fr3) st3 go) fun r s4 ⟨u,hr,h4⟩=>?_)
  subst hr;refine cb hp (thn h4 fun _ s5 ⟨x,H5,I5,r5,y5,st5,fr5⟩=>?_)
  have I5':=I5.pinned (stat fr5) (T.obj _ _ st5);refine cb hp (thn (hg _ s5 σ3 H5 x u _ I5' r5 (step x H5 y5)) fun _ s6 ⟨σ6,H6,I6,q6⟩=>?_)
  refine cb hp (thn (hb _ s6 σ6 H6 _ I6 q6) fun f s7 q7=>?_)
  have again:∀{σ7:St} {H7:Hp},Inv X (pins++zw fp s5.heap) σ7 H7 s7->N σ7 H7->∃m,m<n/\∃i σ' H',Inv X pins σ' H' s7/\tn i s7.heap/\(∀b∈fp,H' b=none)/\W i m σ' H':=fun {σ7 H7} I7 n7=>by
   obtain⟨m',hm,w7⟩:=hN σ7 H7 n7;refine⟨m',hm,i+1,σ7,H7,I7.uL,T.keep _ _ _ st5 fun b hb o e=>(I7.pin (b,o) (ba _ (ba _ (tm hb e)))).1,fun b hb=>?_,w7⟩
   obtain⟨o,e,d⟩:=T.obj _ _ st5 b hb;exact(I7.pin (b,o) (ba _ (ba _ (tm hb e)))).2.1
  cases f with
  |next=>obtain⟨σ7,H7,I7,n7⟩:=q7;exact again I7 n7
  |cont=>obtain⟨σ7,H7,I7,n7⟩:=q7;exact again I7 n7
  |brk=>obtain⟨σ7,H7,I7,q7⟩:=q7;exact⟨σ7,H7,I7.uL,q7⟩
  |ret v=>obtain⟨x7,σ7,H7,I7,r7,q7⟩:=q7;exact⟨x7,σ7,H7,I7.uL,r7,q7⟩
end
theorem My {K:PySem.W.Frag} {a:Addr} {xs:List V} {g:TG} {tb:TS} {D:Ends} {σ:St} {H:Hp} (Pv:Nat->St->Hp->Prop) (h0:Pv 0 σ H) (hl:∀i σ H,i<=xs.length->Pv i σ H->SqL K H a xs)
  (hs:∀i x σ H,xs[i]?=some x->Pv i σ H->g x σ H fun σ2 H2=>tb {D with nx:=Pv (i+1),ct:=Pv (i+1),bk:=D.nx} σ2 H2) (hd:∀σ H,Pv xs.length σ H->D.nx σ H):
  ∃W:Nat->Nat->St->Hp->Prop,(∃m,W 0 m σ H)/\∀i m σ H,W i m σ H->
   ((Itl K a).stop i H/\D.nx σ H)\/((Itl K a).go i H/\∃N:St->Hp->Prop,(∀σ' H',N σ' H'->∃m',m'<m/\W (i+1) m' σ' H')/\∀x H',(Itl K a).yld i H x H'->g x σ H' fun σ2 H2=>tb {D with nx:=N,ct:=N,bk:=D.nx} σ2 H2):=by
 refine⟨fun i m σ H=>m=xs.length-i/\i<=xs.length/\Pv i σ H,⟨xs.length,by simp,aO _,h0⟩,?_⟩
 rintro i m σ H ⟨rfl,hi,p⟩;have q:=hl i σ H hi p;by_cases fH:i<xs.length
 .refine .inr ⟨⟨xs,xs[i],q,by simp[fH]⟩,Pv (i+1),fun σ' H' p'=>⟨xs.length-(i+1),by omega,rfl,fH,p'⟩,fun x H' y=>?_⟩
  obtain⟨e,y⟩:=y;subst e;exact hs i x σ _ (y xs q) p
 .have e:i=xs.length:=by omega
  subst e;exact .inl ⟨⟨xs,q,au _⟩,hd σ H p⟩
theorem Pf {K:PySem.W.Frag} {a:Addr} {xs:List V} {g:TG} {tb:TS} {D:Ends} {σ:St} {H:Hp} (Pv:Nat->St->Hp->Prop) (h0:Pv 0 σ H) (hl:∀i σ H,i<=xs.length->Pv i σ H->SqT K H a xs)
  (hs:∀i x σ H,xs[i]?=some x->Pv i σ H->g x σ H fun σ2 H2=>tb {D with nx:=Pv (i+1),ct:=Pv (i+1),bk:=D.nx} σ2 H2) (hd:∀σ H,Pv xs.length σ H->D.nx σ H):
  ∃W:Nat->Nat->St->Hp->Prop,(∃m,W 0 m σ H)/\∀i m σ H,W i m σ H->
   ((Itt K a).stop i H/\D.nx σ H)\/((Itt K a).go i H/\∃N:St->Hp->Prop,(∀σ' H',N σ' H'->∃m',m'<m/\W (i+1) m' σ' H')/\∀x H',(Itt K a).yld i H x H'->g x σ H' fun σ2 H2=>tb {D with nx:=N,ct:=N,bk:=D.nx} σ2 H2):=by
 refine⟨fun i m σ H=>m=xs.length-i/\i<=xs.length/\Pv i σ H,⟨xs.length,by simp,aO _,h0⟩,?_⟩
 rintro i m σ H ⟨rfl,hi,p⟩;have q:=hl i σ H hi p;by_cases fH:i<xs.length
 .refine .inr ⟨⟨xs,xs[i],q,by simp[fH]⟩,Pv (i+1),fun σ' H' p'=>⟨xs.length-(i+1),by omega,rfl,fH,p'⟩,fun x H' y=>?_⟩
  obtain⟨e,y⟩:=y;subst e;exact hs i x σ _ (y xs q) p
 .have e:i=xs.length:=by omega
  subst e;exact .inl ⟨⟨xs,q,au _⟩,hd σ H p⟩
theorem wc {lo:Int} {n:Nat} {g:TG} {tb:TS} {D:Ends} {σ:St} {H:Hp} (Pv:Nat->St->Hp->Prop) (h0:Pv 0 σ H)
  (hs:∀i σ H,i<n->Pv i σ H->g (.int (lo+i)) σ H fun σ2 H2=>tb {D with nx:=Pv (i+1),ct:=Pv (i+1),bk:=D.nx} σ2 H2) (hd:∀σ H,Pv n σ H->D.nx σ H):
  ∃W:Nat->Nat->St->Hp->Prop,(∃m,W 0 m σ H)/\∀i m σ H,W i m σ H->
   ((Itr lo n).stop i H/\D.nx σ H)\/((Itr lo n).go i H/\∃N:St->Hp->Prop,(∀σ' H',N σ' H'->∃m',m'<m/\W (i+1) m' σ' H')/\∀x H',(Itr lo n).yld i H x H'->g x σ H' fun σ2 H2=>tb {D with nx:=N,ct:=N,bk:=D.nx} σ2 H2):=by
 refine⟨fun i m σ H=>m=n-i/\i<=n/\Pv i σ H,⟨n,by simp,aO _,h0⟩,?_⟩
 rintro i m σ H ⟨rfl,hi,p⟩;by_cases fH:i<n
 .refine .inr ⟨fH,Pv (i+1),fun σ' H' p'=>⟨n-(i+1),by omega,rfl,fH,p'⟩,fun x H' y=>?_⟩
  obtain⟨e,y⟩:=y;subst e y;exact hs i σ _ fH p
 .have e:i=n:=by omega
  subst e;exact .inl ⟨au _,hd σ H p⟩
theorem Fe (Pv:St->Hp->Prop) (μ:St->Hp->Nat) (h0:Pv σ H)
  (hs:∀σ H,Pv σ H->c σ H fun b H1=>if b=true then tb {D with nx:=fun σ' H'=>Pv σ' H'/\μ σ' H'<μ σ H,ct:=fun σ' H'=>Pv σ' H'/\μ σ' H'<μ σ H,bk:=D.nx} σ H1 else D.nx σ H1)
  (mono:∀σ H Q Q',(∀b H1,Q b H1->Q' b H1)->c σ H Q->c σ H Q'):Mx c tb D σ H:=by
 refine⟨fun m σ H=>m=μ σ H/\Pv σ H,⟨_,rfl,h0⟩,?_⟩
 rintro m σ H ⟨rfl,p⟩;refine mono σ H _ _ (fun b H1 q=>?_) (hs σ H p)
 cases b with
 |true=>exact⟨_,fun σ' H' ⟨p',l⟩=>⟨_,l,rfl,p'⟩,q⟩
 |false=>exact q
abbrev R2:=V->V->Hp->VK->Prop
def OpR (X:Cx) (f:Value->Value->Sem Value) (r:R2):Prop:=
 ∀(pins:List (Addr×Obj)) (s:Shared) (σ:St) (H:Hp) (x y:V) (v u:Value) (Q:VK),Inv X pins σ H s->RelV x v->RelV y u->r x y H Q->
  wpAny (model X.prog X.w) X.A (f v u) (EP X pins σ Q) X.xe s
def UnR (X:Cx) (f:Value->Sem Value) (r:V->Hp->VK->Prop):Prop:=
 ∀(pins:List (Addr×Obj)) (s:Shared) (σ:St) (H:Hp) (x:V) (v:Value) (Q:VK),Inv X pins σ H s->RelV x v->r x H Q->
  wpAny (model X.prog X.w) X.A (f v) (EP X pins σ Q) X.xe s
def nN (X:Cx) (f:Value) (r:List V->Hp->VK->Prop):Prop:=
 ∀(pins:List (Addr×Obj)) (s:Shared) (σ:St) (H:Hp) (xs:List V) (us:List Value) (Q:VK),Inv X pins σ H s->Vals xs us->r xs H Q->
  wpAny (model X.prog X.w) X.A (call f us) (EP X pins σ Q) X.xe s
def tOp (r:R2) (ta tb:TE):TE:=fun σ H Q=>ta σ H fun x H1=>tb σ H1 fun y H2=>r x y H2 Q
def tUn (r:V->Hp->VK->Prop) (ta:TE):TE:=fun σ H Q=>ta σ H fun x H1=>r x H1 Q
inductive rI (C:Int->Int->Prop) (g:Int->Int->V) (x:V) (y:V) (H:Hp) (Q:VK):Prop
 |mk:∀i j,x= .int i->y= .int j->C i j->Q (g i j) H->rI C g x y H Q
inductive rI0 (g:Int->Int->V) (x:V) (y:V) (H:Hp) (Q:VK):Prop
 |mk:∀i j,x= .int i->y= .int j->Q (g i j) H->rI0 g x y H Q
inductive rU (g:Int->V) (x:V) (H:Hp) (Q:VK):Prop
 |mk:∀i,x= .int i->Q (g i) H->rU g x H Q
section
variable {X:Cx} {a b c:Expr} {ta tb tc:TE} {pos:Pos}
theorem Sm (ha:PE X a ta) (hb:PE X b tb) {R:V->V->Hp->Prop} (I:Inv X pins σ H s)
  (h:ta σ H fun x H1=>tb σ H1 fun y H2=>R x y H2) {Q:Value->Shared->Prop} {f:Value->Value->Sem Value}
  (hf:∀v u s2 x y H2,Inv X pins σ H2 s2->RelV x v->RelV y u->R x y H2->wpAny (model X.prog X.w) X.A (f v u) Q X.xe s2):
  wpAny (model X.prog X.w) X.A (eval a X.env) (fun v s₁=>wpAny (model X.prog X.w) X.A (eval b X.env) (fun u s₂=>wpAny (model X.prog X.w) X.A (f v u) Q X.xe s₂) X.xe s₁) X.xe s:=by
 refine thn (ha pins s σ H _ I h) fun v s1 ⟨x,H1,I1,r1,q1⟩=>?_
 refine thn (hb pins s1 σ H1 _ I1 q1) fun u s2 ⟨y,H2,I2,r2,q2⟩=>?_
 exact hf v u s2 x y H2 I2 r1 r2 q2
theorem fB {r:R2} (ho:OpR X (binaryOp op) r) (ha:PE X a ta) (hb:PE X b tb):PE X (.BinOp a op b pos) (tOp r ta tb):=by
 intro pins s σ H Q I h;exact wpAny_BinOp (Sm ha hb I h fun v u s2 x y H2 I2 rx ry q=>ho pins s2 σ H2 x y v u Q I2 rx ry q)
theorem Rw {r:V->Hp->VK->Prop} (ho:UnR X (unaryOp op) r) (ha:PE X a ta):PE X (.UnaryOp op a pos) (tUn r ta):=by
 intro pins s σ H Q I h;exact UnaryOp_ (thn (ha pins s σ H _ I h) fun v s1 ⟨x,H1,I1,r1,q1⟩=>ho pins s1 σ H1 x v Q I1 r1 q1)
theorem opI {f:Value->Value->Sem Value} {C:Int->Int->Prop} {g:Int->Int->Int}
  (rule:∀(i j:Int) (t u:Tok) (s:Shared) (Q:Value->Shared->Prop) (E:Value->Shared->Prop),C i j->Q (.int (g i j) s.toks) {s with toks:=s.toks+1}->wpAny (model X.prog X.w) X.A (f (.int i t) (.int j u)) Q E s):
  OpR X f (rI C fun i j=>.int (g i j)):=by
 intro pins s σ H x y v u Q I rx ry h;obtain⟨i,j,rfl,rfl,hc,q⟩:=h;obtain⟨t,rfl⟩:=rx;obtain⟨t',rfl⟩:=ry;exact rule i j t t' s _ _ hc ⟨.int (g i j),H,I.tok _,⟨_,rfl⟩,q⟩
theorem UK {f:Value->Value->Sem Value} {g:Int->Int->Int}
  (rule:∀(i j:Int) (t u:Tok) (s:Shared) (Q:Value->Shared->Prop) (E:Value->Shared->Prop),Q (.int (g i j) s.toks) {s with toks:=s.toks+1}->wpAny (model X.prog X.w) X.A (f (.int i t) (.int j u)) Q E s):
  OpR X f (rI0 fun i j=>.int (g i j)):=by
 intro pins s σ H x y v u Q I rx ry h;obtain⟨i,j,rfl,rfl,q⟩:=h;obtain⟨t,rfl⟩:=rx;obtain⟨t',rfl⟩:=ry;exact rule i j t t' s _ _ ⟨.int (g i j),H,I.tok _,⟨_,rfl⟩,q⟩
theorem Sn {f:Value->Value->Sem Value} {g:Int->Int->Bool}
  (rule:∀(i j:Int) (t u:Tok) (s:Shared) (Q:Value->Shared->Prop) (E:Value->Shared->Prop),Q (.bool (g i j)) s->wpAny (model X.prog X.w) X.A (f (.int i t) (.int j u)) Q E s):
  OpR X f (rI0 fun i j=>.bl (g i j)):=by
 intro pins s σ H x y v u Q I rx ry h;obtain⟨i,j,rfl,rfl,q⟩:=h;obtain⟨t,rfl⟩:=rx;obtain⟨t',rfl⟩:=ry;exact rule i j t t' s _ _ ⟨.bl (g i j),H,I,rfl,q⟩
def Pg (i j:Int):Prop:=(-(2^64)<i/\i<2^64)\/(-(2^64)<j/\j<2^64)
theorem Pg.ok {i j:Int} (h:Pg i j):IntMulOk i j:=by
 rcases h with⟨h1,h2⟩|⟨h1,h2⟩
 .exact .of_left (intBits_le_64 h1 h2)
 .exact .of_right (intBits_le_64 h1 h2)
theorem iH:OpR X (binaryOp .Add) (rI0 fun i j=>.int (i+j)):=UK fun _ _ _ _ _ _ _ q=>add_int q
theorem md:OpR X (binaryOp .Sub) (rI0 fun i j=>.int (i-j)):=UK fun _ _ _ _ _ _ _ q=>sub_int q
theorem So:OpR X (binaryOp .Mult) (rI Pg fun i j=>.int (i*j)):=opI fun _ _ _ _ _ _ _ hc q=>mul_int q hc.ok
theorem Ph:OpR X (binaryOp .Mod) (rI (fun _ j=>j≠0) fun i j=>.int (i.fmod j)):=opI fun _ _ _ _ _ _ _ hc q=>mod_int' hc q
theorem unI {f:Value->Sem Value} {g:Int->Int}
  (rule:∀(i:Int) (t:Tok) (s:Shared) (Q:Value->Shared->Prop) (E:Value->Shared->Prop),Q (.int (g i) s.toks) {s with toks:=s.toks+1}->wpAny (model X.prog X.w) X.A (f (.int i t)) Q E s):
  UnR X f (rU fun i=>.int (g i)):=by
 intro pins s σ H x v Q I rx h;obtain⟨i,rfl,q⟩:=h;obtain⟨t,rfl⟩:=rx;exact rule i t s _ _ ⟨.int (g i),H,I.tok _,⟨_,rfl⟩,q⟩
theorem Mz:UnR X (unaryOp .USub) (rU fun i=>.int (-i)):=unI fun _ _ _ _ _ q=>neg_int q
end
def UL:V->V->Bool
 | .non,.non=>true| .non,.int _=>true| .int _,.non=>true| .non,.bl _=>true| .bl _,.non=>true| .non,.str _=>true| .str _,.non=>true
 | .int _,.int _=>true| .bl _,.bl _=>true| .str _,.str _=>true| .byt _,.byt _=>true
 | .int _,.str _=>true| .str _,.int _=>true| .bl _,.str _=>true| .str _,.bl _=>true
 |_,_=>false
inductive rEq (x:V) (y:V) (H:Hp) (Q:VK):Prop
 |mk:UL x y=true->Q (.bl (decide (x=y))) H->rEq x y H Q
inductive rNe (x:V) (y:V) (H:Hp) (Q:VK):Prop
 |mk:UL x y=true->Q (.bl (!decide (x=y))) H->rNe x y H Q
theorem Kb:decide (V.int i=V.int j)=(i==j):=by
 rw[Xa];simp
theorem MA:decide (V.bl i=V.bl j)=(i==j):=by
 rw[Xa];simp
theorem rV:decide (V.str i=V.str j)=(i==j):=by
 rw[Xa];simp
theorem Kc {i j:Array UInt8}:decide (V.byt i=V.byt j)=(i.toList==j.toList):=by
 rw[Xa];cases i;cases j;simp
section
variable {X:Cx} {a b c:Expr} {ta tb tc:TE} {pos:Pos}
theorem fw (I:Inv X pins σ H s) (q:Q (.bl k) H) (e:k=k'):EP X pins σ Q (.bool k') s:=by
 subst e;exact⟨.bl k,H,I,rfl,q⟩
theorem iR:OpR X (compareOp .Eq) rEq:=by
 intro pins s σ H x y v u Q I rx ry h;obtain⟨hs,q⟩:=h;cases x with
 |non=>
  cases rx;cases y with
  |non=>cases ry;exact PySem.EqNone.eq_none_none (fw I q (by simp))
  |bl j=>cases ry;exact PySem.EqNone.eq_none_bool (fw I q (by simp))
  |int j=>obtain⟨t',rfl⟩:=ry;exact PySem.EqNone.eq_none_int (fw I q (by simp))
  |str j=>obtain⟨t',rfl⟩:=ry;exact PySem.EqNone.eq_none_str (fw I q (by simp))
  |_=>exact absurd (show false=true from hs) aN
 |bl i=>
  cases rx;cases y with
  |non=>cases ry;exact PySem.EqNone.eq_bool_none (fw I q (by simp))
  |bl j=>cases ry;exact eq_bool (fw I q MA)
  |str j=>obtain⟨t',rfl⟩:=ry;exact PySem.EqMixed.eq_bool_str (fw I q (by simp))
  |_=>exact absurd (show false=true from hs) aN
 |int i=>
  obtain⟨t,rfl⟩:=rx;cases y with
  |non=>cases ry;exact PySem.EqNone.eq_int_none (fw I q (by simp))
  |int j=>obtain⟨t',rfl⟩:=ry;exact eq_int (fw I q Kb)
  |str j=>obtain⟨t',rfl⟩:=ry;exact PySem.EqMixed.eq_int_str (fw I q (by simp))
  |_=>exact absurd (show false=true from hs) aN
 |str i=>
  obtain⟨t,rfl⟩:=rx;cases y with
  |non=>cases ry;exact PySem.EqNone.eq_str_none (fw I q (by simp))
  |bl j=>cases ry;exact PySem.EqMixed.eq_str_bool (fw I q (by simp))
  |int j=>obtain⟨t',rfl⟩:=ry;exact PySem.EqMixed.eq_str_int (fw I q (by simp))
  |str j=>obtain⟨t',rfl⟩:=ry;exact eq_str (fw I q rV)
  |_=>exact absurd (show false=true from hs) aN
 |byt i=>
  obtain⟨t,rfl⟩:=rx;cases y with
  |byt j=>obtain⟨t',rfl⟩:=ry;exact PySem.W.eq_bytes (fw I q Kc)
  |_=>exact absurd (show false=true from hs) aN
 |_=>cases y<;>exact absurd (show false=true from hs) aN
theorem Cw:OpR X (compareOp .NotEq) rNe:=by
 intro pins s σ H x y v u Q I rx ry h;obtain⟨hs,q⟩:=h;cases x with
 |non=>
  cases rx;cases y with
  |non=>cases ry;exact PySem.EqNone.ne_none_none (fw I q (by simp))
  |bl j=>cases ry;exact PySem.EqNone.ne_none_bool (fw I q (by simp))
  |int j=>obtain⟨t',rfl⟩:=ry;exact PySem.EqNone.ne_none_int (fw I q (by simp))
  |str j=>obtain⟨t',rfl⟩:=ry;exact PySem.EqNone.ne_none_str (fw I q (by simp))
  |_=>exact absurd (show false=true from hs) aN
 |bl i=>
  cases rx;cases y with
  |non=>cases ry;exact PySem.EqNone.ne_bool_none (fw I q (by simp))
  |bl j=>cases ry;exact ne_bool (fw I q (congrArg not MA))
  |str j=>obtain⟨t',rfl⟩:=ry;exact PySem.EqMixed.ne_bool_str (fw I q (by simp))
  |_=>exact absurd (show false=true from hs) aN
 |int i=>
  obtain⟨t,rfl⟩:=rx;cases y with
  |non=>cases ry;exact PySem.EqNone.ne_int_none (fw I q (by simp))
  |int j=>obtain⟨t',rfl⟩:=ry;exact ne_int (fw I q (congrArg not Kb))
  |str j=>obtain⟨t',rfl⟩:=ry;exact PySem.EqMixed.ne_int_str (fw I q (by simp))
  |_=>exact absurd (show false=true from hs) aN
 |str i=>
  obtain⟨t,rfl⟩:=rx;cases y with
  |non=>cases ry;exact PySem.EqNone.ne_str_none (fw I q (by simp))
  |bl j=>cases ry;exact PySem.EqMixed.ne_str_bool (fw I q (by simp))
  |int j=>obtain⟨t',rfl⟩:=ry;exact PySem.EqMixed.ne_str_int (fw I q (by simp))
  |str j=>obtain⟨t',rfl⟩:=ry;exact ne_str (fw I q (congrArg not rV))
  |_=>exact absurd (show false=true from hs) aN
 |byt i=>
  obtain⟨t,rfl⟩:=rx;cases y with
  |byt j=>obtain⟨t',rfl⟩:=ry;exact PySem.W.ne_bytes (fw I q (congrArg not Kc))
  |_=>exact absurd (show false=true from hs) aN
 |_=>cases y<;>exact absurd (show false=true from hs) aN
theorem mV:OpR X (compareOp .Lt) (rI0 fun i j=>.bl (decide (i<j))):=Sn fun _ _ _ _ _ _ _ q=>lt_int q
theorem zx:OpR X (compareOp .LtE) (rI0 fun i j=>.bl (decide (i<=j))):=Sn fun _ _ _ _ _ _ _ q=>le_int q
theorem oA:OpR X (compareOp .Gt) (rI0 fun i j=>.bl (decide (j<i))):=Sn fun _ _ _ _ _ _ _ q=>gt_int q
theorem qP (b:Expr) (h:op≠ .In:=by decide) (h2:op≠ .NotIn:=by decide):behindInMarks op b=false:=by
 have e1:(op==CmpOp.In)=false:=by cases op<;>first|rfl|exact absurd rfl h
 have e2:(op==CmpOp.NotIn)=false:=by cases op<;>first|rfl|exact absurd rfl h2
 cases b<;>simp[behindInMarks,e1,e2]
theorem yZ {r:R2} (ho:OpR X (compareOp op) r) (ha:PE X a ta) (hb:PE X b tb) (hm:behindInMarks op b=false):PE X (.Compare a [op] [b] pos) (tOp r ta tb):=by
 intro pins s σ H Q I h;exact wpAny_Compare1 (Sm ha hb I h fun v u s2 x y H2 I2 rx ry q=>ho pins s2 σ H2 x y v u Q I2 rx ry q) hm
def Ry (t:TE):TT:=fun σ H Q=>t σ H fun x H'=>eB x H' Q
theorem rW {r:R2} (ho:OpR X (compareOp op) r) (ha:PE X a ta) (hb:PE X b tb) (hm:behindInMarks op b=false):PT X (.Compare a [op] [b] pos) (Ry (tOp r ta tb)):=by
 intro pins s σ H Q I h;refine wpAny_isTrue_Compare1 (thn (ha pins s σ H _ I h) fun v s1 ⟨x,H1,I1,r1,q1⟩=>thn (hb pins s1 σ H1 _ I1 q1) fun u s2 ⟨y,H2,I2,r2,q2⟩=>
  thn (ho pins s2 σ H2 x y v u _ I2 r1 r2 q2) fun c s3 ⟨z,H3,I3,r3,k,e,q3⟩=>?_) hm
 subst e;cases r3;exact bM ⟨H3,I3,q3⟩
def Sq (r r':R2) (ta tb tc:TE):TE:=fun σ H Q=>ta σ H fun x H1=>tb σ H1 fun y H2=>r x y H2 fun z H3=>∃k,z= .bl k/\
 (if k=true then tc σ H3 fun w' H4=>r' y w' H4 Q else Q (.bl false) H3)
theorem Ff {r r':R2} (ho:OpR X (compareOp op) r) (ho':OpR X (compareOp op') r') (ha:PE X a ta) (hb:PE X b tb) (hc:PE X c tc)
  (hm:lastMarks [op,op'] [b,c]=false:=by with_unfolding_all rfl):PE X (.Compare a [op,op'] [b,c] pos) (Sq r r' ta tb tc):=by
 intro pins s σ H Q I h;refine Compare_chain (thn (ha pins s σ H _ I h) fun v s1 ⟨x,H1,I1,r1,q1⟩=>chain_link (thn (hb pins s1 σ H1 _ I1 q1) fun u s2 ⟨y,H2,I2,r2,q2⟩=>
  thn (ho pins s2 σ H2 x y v u _ I2 r1 r2 q2) fun d s3 ⟨z,H3,I3,r3,k,e,q3⟩=>?_)) hm
 subst e;cases r3;refine bM ?_;cases k with
 |false=>exact ite_ff ⟨.bl false,H3,I3,rfl,q3⟩
 |true=>exact ite_tt (chain_last (thn (hc pins s3 σ H3 _ I3 q3) fun w' s4 ⟨z',H4,I4,r4,q4⟩=>ho' pins s4 σ H4 y z' u w' Q I4 r2 r4 q4))
theorem we:(sizeLine:Nat)<2^63:=by rw[sizeLine_eq];decide
theorem tp:OpR X (binaryOp .Add) (fun x y H Q=>∃i j,x= .str i/\y= .str j/\i.length+j.length<=sizeLine/\Q (.str (i++j)) H):=by
 intro pins s σ H x y v u Q I rx ry h;obtain⟨i,j,rfl,rfl,hz,q⟩:=h;obtain⟨t,rfl⟩:=rx;obtain⟨t',rfl⟩:=ry;exact add_str (fun t' tk=>⟨.str (i++j),H,I.tok _,⟨_,rfl⟩,q⟩) hz
theorem vals1 (r:Vals [x] us):∃u,us= [u]/\RelV x u:=by
 cases r with
 |cons r1 r2=>cases r2;exact⟨_,rfl,r1⟩
theorem vals2 (r:Vals [x,y] us):∃u w',us= [u,w']/\RelV x u/\RelV y w':=by
 cases r with
 |cons r1 r2=>
  cases r2 with
  |cons r3 r4=>cases r4;exact⟨_,_,rfl,r1,r3⟩
theorem K9 (hc:X.calm=true):nN X (.builtin "max") (fun xs H Q=>∃i j,xs= [.int i,.int j]/\Q (.int (if j>i then j else i)) H):=by
 intro pins s σ H xs us Q I r h;obtain⟨i,j,rfl,q⟩:=h;obtain⟨u,w',rfl,⟨t,rfl⟩,⟨t',rfl⟩⟩:=vals2 r;refine max_two_ints (I.ok.hd hc) fun h' tk k=>⟨_,H,I.kept k,?_,q⟩
 by_cases hj:j>i
 .rw[aq hj,aq hj];exact⟨_,rfl⟩
 .rw[aj hj,aj hj];exact⟨_,rfl⟩
theorem uM:nN X (.type "str") (fun xs H Q=>∃i,xs= [.int i]/\i.natAbs.log2<1920/\Q (.str (toString i)) H):=by
 intro pins s σ H xs us Q I r h;obtain⟨i,rfl,hz,q⟩:=h;obtain⟨u,rfl,t,rfl⟩:=vals1 r;exact PySem.P.str_of_int hz ⟨.str _,H,I.tok _,⟨_,rfl⟩,q⟩
theorem uN:nN X (.builtin "ord") (fun xs H Q=>∃x,xs= [.str x]/\x.length=1/\Q (.int (x.cps.getD 0 0:Nat)) H):=by
 intro pins s σ H xs us Q I r h;obtain⟨x,rfl,hz,q⟩:=h;obtain⟨u,rfl,t,rfl⟩:=vals1 r;exact ord_of_one hz ⟨.int _,H,I.tok _,⟨_,rfl⟩,q⟩
end
structure Ht (h:Heap) (x dx C:Addr) (mA:Str->Option Value):Prop where
 obj:h.get? x=some (PySem.W.instObj C dx)
 ns:h.Ns1 dx mA
 ne:dx≠x
theorem La {h:Heap} {dx:Addr} {mA:Str->Option Value} (n:h.Ns1 dx mA):∃od,h.get? dx=some od/\∀name,PySem.W.lookIn name od=some (mA name):=by
 obtain⟨o,es,ep,ho,hd,hk,_,hm⟩:=n;refine⟨o,ho,fun name=>?_⟩
 have e:=hm name;unfold nsFind findBy at e;rw[<-Array.find?_toList]at e;unfold PySem.W.lookIn;rw[hd];dsimp only;split
 .rename_i y q
  rw[q]at e;exact congrArg some e
 .rename_i q
  rw[q]at e;have a:es.toList.any (·.refKey)=false:=by
   rw[List.any_eq_false];intro y hy;obtain⟨z,t,hkey⟩:=hk y (Array.mem_toList_iff.mp hy);simp[DictEntry.refKey,hkey]
  have a':¬es.toList.any (·.refKey)=true:=by rw[a];exact aN
  rw[aj a'];exact congrArg some e
theorem Ht.look {mA:Str->Option Value} (I:Ht h x dx C mA):∃od,PySem.W.InstAt h x (PySem.W.instObj C dx) C (some od)/\∀name,PySem.W.lookIn name od=some (mA name):=
 let ⟨od,ho,hl⟩:=La I.ns
 ⟨od,⟨I.obj,rfl,rfl,ho⟩,hl⟩
section
variable {prog:Program} {w:World} {A:Around} {E:Value->Shared->Prop} {s:Shared} {K:PySem.W.Frag} {x dx C f:Addr} {mA:Str->Option Value} {name:Str} {v:Value}
theorem get_map {Q:Value->Shared->Prop} (X:K.In s.heap) (I:Ht s.heap x dx C mA) (hg:PySem.W.plainGet K C name=true) (hh:PySem.W.hasDictIn K C=true)
  (ha:PySem.W.findIn K (.ref C) name=some none) (hv:mA name=some v) (hv':PySem.W.handedIn v=true) (h:Q v {s with toks:=s.toks+1}):
  wpAny (model prog w) A (getAttr (.ref x) name expr) Q E s:=by
 obtain⟨od,J,hl⟩:=I.look;exact PySem.W.get_value X J (PySem.W.plainGet_of hg).1 (PySem.W.findObj_own hh ha rfl (by rw[hl,hv])) hv' h
theorem MB {pl:Sem Bool} {Q:Value×List Value->Shared->Prop} (X:K.In s.heap) (I:Ht s.heap x dx C mA) (hg:PySem.W.plainGet K C name=true)
  (hf:PySem.W.findIn K (.ref C) name=some (some (.ref f))) (ht:PySem.W.isFn K (.ref f)=true) (hv:mA name=none) (h:Q (.ref f,[.ref x]) s):
  wpAny (model prog w) A (getMethod (.ref x) name pl) Q E s:=by
 obtain⟨od,J,hl⟩:=I.look;exact PySem.W.method_fn X J (PySem.W.plainGet_of hg).1 (PySem.W.plainGet_of hg).2 hf (cA.mp ht) (by show (PySem.W.lookIn name od).map (·.isSome)=some false;rw[hl,hv];rfl) h
theorem Pj {Q:Unit->Shared->Prop} (X:K.In s.heap) (I:Ht s.heap x dx C mA)
  (hs:PySem.W.findIn K (.ref C) "__setattr__"=some (some (.builtin "object.__setattr__"))) (hp:PySem.W.plainOver K C=true) (ht:PySem.W.takerIn K C name=some none) (hh:PySem.W.hasDictIn K C=true)
  (hw:PySem.Within mA ns) (hsz:ns.length<=sizeLine)
  (h:∀h',Ht h' x dx C (fun y=>if y=name then some v else mA y)->Heap.SameBut dx s.heap h'->Q () {s with heap:=h',toks:=s.toks+2}):
  wpAny (model prog w) A (setAttr (.ref x) name v) Q E s:=by
 obtain⟨od,J,hl⟩:=I.look;refine PySem.W.set_plain X J hs (PySem.W.osa_open (s:={s with toks:=s.toks+1}) (r:=none) X J hp ht fun b=>?_)
 obtain⟨cd,hc,hd'⟩:=PySem.W.any_some hh;have hx:s.heap.get? x=some ⟨.ref C,some dx,.plain,#[]⟩:=I.obj;refine aD (aU (aD (aD (wpAny_loadPart hx (aD (PySem.W.Looks.here (s:={s with toks:=s.toks+1}) (PySem.W.looks_clsIn X hc) ?_))))))
 rw[hd'];refine aU (a:=some dx) (aD (aU (aD ?_)));refine wpAny_nsSet1 (s:={s with toks:=s.toks+1}) I.ns fun h' hn2 hs2=>?_
 obtain⟨oD,esD,epD,hoD,hdD,hcD⟩:=hn2.count (PySem.Within.cons name v hw);refine aD (wpAny_lookBehind hoD (by rw[hdD];exact pastItsLine_dict (ai hcD (by rw[aG];omega))) ?_)
 exact aU (h _ ⟨(hs2.2 _ (cw I.ne)).trans I.obj,hn2,I.ne⟩ hs2)
theorem MC {R:Result->Shared->Prop} {kw:List (Str×Value)} (X:K.In s.heap) (hm:PySem.W.makesIn K C=true)
  (hi:PySem.W.findIn K (.ref C) "__init__"=some (some (.ref f))) (hf:PySem.W.typeIn K (.ref f)=some (.type "function"))
  (h:codeAny (model prog w) (A.under (.builtin "type.__call__" ⟨.ref C::vs,kw⟩)) (.call (.ref f) ⟨.ref (s.heap.objs.size+1)::vs,kw⟩) (PySem.W.InitBack (s.heap.objs.size+1) R)
   {s with heap:=(s.heap.push PySem.W.emptyDict).push (PySem.W.instObj C s.heap.objs.size)}):
  codeAny (model prog w) A (.call (.ref C) ⟨vs,kw⟩) R s:=by
 obtain⟨hh,g,d,t,os⟩:=s;exact PySem.W.make_core (PySem.W.makes_of X hm) (PySem.W.looks_findIn X hi) (fun self=>PySem.W.bind_fn X self hf) (.inl rfl) h
end
def dE (f:Str) (v:V):List (Str×V)->List (Str×V)
 | []=>[(f,v)]
 |(g,x)::r=>if g=f then (g,v)::r else (g,x)::dE f v r
theorem xS (f g:Str) (v:V):∀fs:List (Str×V),(dE f v fs).lookup g=if g=f then some v else fs.lookup g
 | []=>by
  show List.lookup g [(f,v)]=_;by_cases h:g=f
  .have hb:(g==f)=true:=cA.mpr h;simp only[List.lookup,hb,aq h]
  .have hb:(g==f)=false:=aW.mpr h;simp only[List.lookup,hb,aj h]
 |(k,x)::r=>by
  have ih:=xS f g v r;rw[show dE f v ((k,x)::r)=(if k=f then (k,v)::r else (k,x)::dE f v r)from rfl]
  by_cases hk:k=f
  .rw[aq hk];by_cases h:g=k
   .have hb:(g==k)=true:=cA.mpr h;simp only[List.lookup,hb,aq (h.trans hk)]
   .have hb:(g==k)=false:=aW.mpr h;simp only[List.lookup,hb,aj (fun e:g=f=>h (e.trans hk.symm))]
  .rw[aj hk];by_cases h:g=k
   .have hb:(g==k)=true:=cA.mpr h;simp only[List.lookup,hb,aj (fun e:g=f=>hk (h.symm.trans e))]
   .have hb:(g==k)=false:=aW.mpr h;simp only[List.lookup,hb];exact ih
theorem wg (f:Str) (v:V):∀fs:List (Str×V),f∈(dE f v fs).map (·.1)/\∀g,g∈fs.map (·.1)->g∈(dE f v fs).map (·.1)
 | []=>⟨by simp[dE],fun g h=>by simp at h⟩
 |(k,x)::r=>by
  obtain⟨i1,i2⟩:=wg f v r;rw[show dE f v ((k,x)::r)=(if k=f then (k,v)::r else (k,x)::dE f v r)from rfl]
  by_cases hk:k=f
  .rw[aq hk];subst hk;exact⟨by simp,fun g h=>by simpa using h⟩
  .rw[aj hk];refine⟨?_,fun g h=>?_⟩
   .rw[bh];exact ak _ i1
   .rw[bh]at h⊢;rcases ag.mp h with e|e
    .exact ag.mpr (.inl e)
    .exact ak _ (i2 g e)
theorem xT (f:Str) (v:V):∀fs:List (Str×V),(dE f v fs).length<=fs.length+1
 | []=>by simp[dE]
 |(k,x)::r=>by
  have ih:=xT f v r;rw[show dE f v ((k,x)::r)=(if k=f then (k,v)::r else (k,x)::dE f v r)from rfl]
  by_cases hk:k=f
  .rw[aq hk,aG,aG];omega
  .rw[aj hk,aG,aG];omega
theorem oT.some_of (r:oT (some v) o):∃u,o=some u/\RelV v u:=by
 cases o with
 |none=>exact(show False from r).elim
 |some u=>exact⟨u,rfl,r⟩
theorem oT.none_of (r:oT none o):o=none:=by
 cases o with
 |none=>rfl
 |some u=>exact(show False from r).elim
theorem Lb (r:RelV v u):PySem.W.handedIn u=true:=by
 cases v with
 |non=>cases (show u=Value.none from r);rfl
 |bl b=>cases (show u=Value.bool b from r);rfl
 |int i=>obtain⟨t,e⟩:=(show∃t,u=Value.int i t from r);cases e;rfl
 |str x=>obtain⟨t,e⟩:=(show∃t,u=Value.str x t from r);cases e;rfl
 |byt b=>obtain⟨t,e⟩:=(show∃t,u=Value.bytes b t from r);cases e;rfl
 |flt b=>obtain⟨t,e⟩:=(show∃t,u=Value.float b t from r);cases e;rfl
 |ref a=>cases (show u=Value.ref a from r);rfl
 |ty n=>cases (show u=Value.type n from r);rfl
section
variable {P:Program} {w:World} {H H':Hp} {h h':Heap} {a C dx:Addr} {fs fs':List (Str×V)}
theorem De (hok:HOk P w H h) (e:H a=some (.ins C dx fs)):∃mA,Ht h a dx C mA/\(∀f,oT (fs.lookup f) (mA f))/\PySem.Within mA (fs.map (·.1))/\fs.length<=1000/\H dx=some (.own a):=by
 obtain⟨d,z,ne,ob,mA,n,r,q⟩:=(show h8 P w H h a (.ins C dx fs)from hok a _ e);exact⟨mA,⟨ob,n,ne⟩,r,q,z,d⟩
end
structure Cls (K:PySem.W.Frag) (C:Addr):Prop where
 pg:PySem.W.plainGet K C Str.empty=true
 hd:PySem.W.hasDictIn K C=true
 po:PySem.W.plainOver K C=true
 sa:PySem.W.findIn K (.ref C) "__setattr__"=some (some (.builtin "object.__setattr__"))
theorem Cls.get {K:PySem.W.Frag} {C:Addr} (c:Cls K C) (f:Str):PySem.W.plainGet K C f=true:=c.pg
def e8 (K:PySem.W.Frag) (C:Addr) (f:Str):Prop:=PySem.W.findIn K (.ref C) f=some none
theorem e8.UM {K:PySem.W.Frag} {C:Addr} {f:Str} (n:e8 K C f):PySem.W.takerIn K C f=some none:=by
 unfold PySem.W.takerIn;rw[show PySem.W.findIn K (.ref C) f=some none from n];rfl
structure Meth (K:PySem.W.Frag) (C:Addr) (m:Str) (f:Addr):Prop where
 at_:PySem.W.findIn K (.ref C) m=some (some (.ref f))
 fn:PySem.W.isFn K (.ref f)=true
 kp:PySem.W.keepIn K (.ref f)=true
section
variable {X:Cx} {pins:List (Addr×Obj)} {σ:St} {H:Hp} {s:Shared} {a C dx:Addr} {fs:List (Str×V)} {f:Str} {v:V} {A:Around} {E:Value->Shared->Prop}
theorem zy {Q:Value->Shared->Prop} (I:Inv X pins σ H s) (e:H a=some (.ins C dx fs)) (c:Cls X.K C) (n:e8 X.K C f) (l:fs.lookup f=some v)
  (h:∀u s',Inv X pins σ H s'->RelV v u->Q u s'):wpAny (model X.prog X.w) A (getAttr (.ref a) f b) Q E s:=by
 obtain⟨mA,O,r,_,_,_⟩:=De I.hok e;obtain⟨u,hu,ru⟩:=oT.some_of (v:=v) (o:=mA f) (by rw[<-l];exact r f)
 exact get_map I.kIn O (c.get f) c.hd n hu (Lb ru) (h u _ (I.tok _) ru)
theorem zA {pl:Sem Bool} {Q:Value×List Value->Shared->Prop} (I:Inv X pins σ H s) (e:H a=some (.ins C dx fs)) (c:Cls X.K C) (k:Meth X.K C m g) (l:fs.lookup m=none)
  (h:Q (.ref g,[.ref a]) s):wpAny (model X.prog X.w) A (getMethod (.ref a) m pl) Q E s:=by
 obtain⟨mA,O,r,_,_,_⟩:=De I.hok e;have hn:mA m=none:=oT.none_of (by rw[<-l];exact r m)
 exact MB I.kIn O (c.get m) k.at_ k.fn hn h
theorem zB {Q:Unit->Shared->Prop} (I:Inv X pins σ H s) (e:H a=some (.ins C dx fs)) (c:Cls X.K C) (n:e8 X.K C f) (hl:fs.length<1000) (ry:RelV y u)
  (h:∀s',Inv X pins σ (upd H a (.ins C dx (dE f y fs))) s'->Q () s'):wpAny (model X.prog X.w) A (setAttr (.ref a) f u) Q E s:=by
 obtain⟨mA,O,r,wi,_,ho⟩:=De I.hok e;have hz:(fs.map (·.1)).length<=sizeLine:=by rw[List.length_map,sizeLine_eq];omega
 refine Pj I.kIn O c.sa c.po n.UM c.hd wi hz fun h' O' sb=>h _ ?_
 have hd:∃o,h'.get? dx=some o:=let ⟨o,_,_,e',_⟩:=O'.ns;⟨o,e'⟩
 refine I.write (x:=a) (e:=dx) (by rw[e];exact True.intro) (.inr ho) (fun b q hb z=>(sb.2 b hb).trans z) hd ?_
 refine⟨by rw[cR O.ne];exact ho,?_,O.ne,O'.obj,_,O'.ns,fun g=>?_,fun g hg=>?_⟩
 .have:=xT f y fs;omega
 .show oT ((dE f y fs).lookup g) (if g=f then some u else mA g)
  rw[xS];by_cases q:g=f
  .rw[aq q,aq q];exact ry
  .rw[aj q,aj q];exact r g
 .by_cases q:g=f
  .rw[q];exact(wg f y fs).1
  .refine(wg f y fs).2 g (wi g fun z=>hg ?_)
   show (if g=f then some u else mA g)=none
   rw[aj q];exact z
theorem Inv.made (I:Inv X pins σ H s):Inv X pins σ (upd (upd H s.heap.objs.size (.own (s.heap.objs.size+1))) (s.heap.objs.size+1) (.ins C s.heap.objs.size []))
  {s with heap:=(s.heap.push PySem.W.emptyDict).push (PySem.W.instObj C s.heap.objs.size)}:=by
 have e1:(s.heap.push PySem.W.emptyDict).get? s.heap.objs.size=some PySem.W.emptyDict:=a8 s.heap rfl;have e2:((s.heap.push PySem.W.emptyDict).push (PySem.W.instObj C s.heap.objs.size)).get? (s.heap.objs.size+1)=some (PySem.W.instObj C s.heap.objs.size):=by
  have:=a8 (s.heap.push PySem.W.emptyDict) (o:=PySem.W.instObj C s.heap.objs.size) rfl
  rwa [bE]at this
 have e3:(s.heap.push PySem.W.emptyDict).Ns s.heap.objs.size (fun _=>none):=⟨PySem.W.emptyDict,#[],_,e1,rfl,(fun e he=>absurd he (by simp)),fun _=>rfl⟩
 have I1:=I.laid (a:=s.heap.objs.size) (o:=.own (s.heap.objs.size+1)) (h':=s.heap.push PySem.W.emptyDict) (t':=s.toks) (fun b u q=>aK _ q) (au _) ⟨_,e1⟩
 refine I1.laid (a:=s.heap.objs.size+1) (o:=.ins C s.heap.objs.size []) (t':=s.toks) (fun b u q=>aK _ q) (XT (bE _ _)) ?_
 have ne:s.heap.objs.size≠s.heap.objs.size+1:=bq (bt _);refine⟨by rw[cR ne,cP],aO _,ne,e2,fun _=>none,(Heap.Ns1.of_empty e3).at fun o q=>aK _ q,fun _=>True.intro,fun y hy=>absurd rfl hy⟩
theorem Pk {Q:Value->Shared->Prop} (hb:attributeBase e f env (eval e env)=eval e env)
  (h:wpAny (model prog w) A (eval e env) (fun o s₁=>wpAny (model prog w) A (getAttr o f true) Q E s₁) E s):wpAny (model prog w) A (eval (.Attribute e f pos) env) Q E s:=
 Attribute_any_ h (by rw[arm_eval_Attribute,hb])
end
inductive UN (K:PySem.W.Frag) (f:Str) (x:V) (H1:Hp) (Q:VK):Prop
 |mk:∀a C dx fs v,x= .ref a->H1 a=some (.ins C dx fs)->Cls K C->e8 K C f->fs.lookup f=some v->Q v H1->UN K f x H1 Q
def UO (K:PySem.W.Frag) (ta:TE) (f:Str):TE:=fun σ H Q=>ta σ H fun x H1=>UN K f x H1 Q
inductive Rz (K:PySem.W.Frag) (f:Str) (y x:V) (H2:Hp) (P:Hp->Prop):Prop
 |mk:∀a C dx fs,x= .ref a->H2 a=some (.ins C dx fs)->Cls K C->e8 K C f->fs.length<1000->P (upd H2 a (.ins C dx (dE f y fs)))->Rz K f y x H2 P
def VU (K:PySem.W.Frag) (ta tv:TE) (f:Str):TS:=fun D σ H=>tv σ H fun y H1=>ta σ H1 fun x H2=>Rz K f y x H2 (D.nx σ)
def Sr (X:Cx) (op:Operator) (rd:V->V->Hp->VK->Prop):Prop:=
 ∀(pins:List (Addr×Obj)) (s:Shared) (σ:St) (H:Hp) (x y:V) (u v:Value) (Q:VK),Inv X pins σ H s->RelV x u->RelV y v->rd x y H Q->wpAny (model X.prog X.w) X.A (inplaceOp op u v) (EP X pins σ Q) X.xe s
def Pl (K:PySem.W.Frag) (ta tv:TE) (rd:V->V->Hp->VK->Prop) (f:Str):TS:=fun D σ H=>ta σ H fun x H1=>∃a C dx fs v,x= .ref a/\H1 a=some (.ins C dx fs)/\Cls K C/\e8 K C f/\fs.lookup f=some v/\
 tv σ H1 fun y H2=>rd v y H2 fun z H3=>∃dx' fs',H3 a=some (.ins C dx' fs')/\fs'.length<1000/\D.nx σ (upd H3 a (.ins C dx' (dE f z fs')))
section
variable {X:Cx} {o e value:Expr} {f:Str} {pos pos' uG:Pos} {ta tv:TE}
theorem df (he:PE X e ta) (hb:attributeBase e f X.env (eval e X.env)=eval e X.env):PE X (.Attribute e f pos) (UO X.K ta f):=by
 intro pins s σ H Q I h;refine Pk hb (thn (he pins s σ H _ I h) fun u s1 ⟨x,H1,I1,rx,a,C,dx,fs,v,ex,ea,c,n,l,q⟩=>?_)
 subst ex;obtain rfl:u=Value.ref a:=rx;exact zy I1 ea c n l fun u' s2 I2 ru=>⟨v,H1,I2,ru,q⟩
theorem eP (ha:PE X o ta) (hv:PE X value tv) (hs:swapsWith value (some (.Attribute o f pos')) pos.line X.env=pure false):PS X (.Assign [.Attribute o f pos'] value pos) (VU X.K ta tv f):=by
 intro pins s σ H D I h;refine plainObj_wpAny_Assign_Attribute (thn (hv pins s σ H _ I h) fun u s1 ⟨y,H1,I1,ry,q⟩=>thn (ha pins s1 σ H1 _ I1 q) fun ov s2 ⟨x,H2,I2,rx,a,C,dx,fs,ex,ea,c,n,l,q2⟩=>?_) hs
 subst ex;obtain rfl:ov=Value.ref a:=rx;exact zB I2 ea c n l ry fun s3 I3=>⟨σ,_,I3,q2⟩
theorem oB {rd:V->V->Hp->VK->Prop} (ha:PE X o ta) (hv:PE X value tv) (sY:Sr X op rd):PS X (.AugAssign (.Attribute o f uG) op value pos) (Pl X.K ta tv rd f):=by
 intro pins s σ H D I h;refine wpAny_AugAssign_AttributeAny (thn (ha pins s σ H _ I h) fun ov s1 ⟨x,H1,I1,rx,a,C,dx,fs,v,ex,ea,c,n,l,q⟩=>?_)
 subst ex;obtain rfl:ov=Value.ref a:=rx;refine zy I1 ea c n l fun u s2 I2 ru=>thn (hv pins s2 σ H1 _ I2 q) fun w3 s3 ⟨y,H2,I3,ry,q3⟩=>thn (sY pins s3 σ H2 v y u w3 _ I3 ru ry q3) fun w4 s4 ⟨z,H3,I4,rz,dx',fs',ea',l',q4⟩=>?_
 exact zB I4 ea' c n l' rz fun s5 I5=>⟨σ,_,I5,q4⟩
def VW:V->V->Hp->VK->Prop:=fun x y H Q=>∃i j,x= .int i/\y= .int j/\Q (.int (i+j)) H
def VX:V->V->Hp->VK->Prop:=fun x y H Q=>∃i j,x= .int i/\y= .int j/\Q (.int (i-j)) H
theorem Hu:Sr X .Add VW:=by
 rintro pins s σ H x y u v Q I rx ry ⟨i,j,rfl,rfl,q⟩;obtain⟨t,rfl⟩:=(show∃t,u=Value.int i t from rx);obtain⟨t',rfl⟩:=(show∃t',v=Value.int j t' from ry);exact PyProof.Rows.iadd_int ⟨.int (i+j),H,I.tok _,⟨_,rfl⟩,q⟩
theorem MD:Sr X .Sub VX:=by
 rintro pins s σ H x y u v Q I rx ry ⟨i,j,rfl,rfl,q⟩;obtain⟨t,rfl⟩:=(show∃t,u=Value.int i t from rx);obtain⟨t',rfl⟩:=(show∃t',v=Value.int j t' from ry);exact PyProof.Rows.isub_int ⟨.int (i-j),H,I.tok _,⟨_,rfl⟩,q⟩
end
section
variable {X:Cx} {pins:List (Addr×Obj)} {σ:St} {H:Hp} {s:Shared} {A:Around} {E:Value->Shared->Prop} {Q:Value->Shared->Prop} {c:Value} {b:Bool}
end
structure iI (k:Nat) (A:Around):Prop where
 hd:A.handled=none
 dp:A.depth+3*k+5<recursionLimit
 un:A.units+16*k+200<cLine
theorem iI.mono (r:iI k A) (h:j<=k):iI j A:=⟨r.hd,by have:=r.dp;omega,by have:=r.un;omega⟩
theorem iI.deeper (r:iI (k+1) A) (env:Env):iI k (A.deeper env):=
 ⟨r.hd,by have:=r.dp;show A.depth+1+3*k+5<_;omega,by have:=r.un;show A.units+3+16*k+200<_;omega⟩
theorem Hv {A:Around} {C:Addr} {us:List Value} {kw:List (Str×Value)}:(A.under (.builtin "type.__call__" ⟨.ref C::us,kw⟩)).depth=A.depth+1:=by
 first|rfl|simp[Around.under,Code.weight,Code.isCreation,Code.isGuard,Code.isCaller,Code.frames,Code.isFrame,guardIds]
theorem Hx {A:Around} {C:Addr} {us:List Value} {kw:List (Str×Value)}:(A.under (.builtin "type.__call__" ⟨.ref C::us,kw⟩)).units=A.units+1:=by
 first|rfl|simp[Around.under,Code.cUnits,Code.frames,Code.isFrame]
theorem iI.make (r:iI (k+1) A) (C:Addr) (us:List Value) (kw:List (Str×Value)):iI k (A.under (.builtin "type.__call__" ⟨.ref C::us,kw⟩)):=
 ⟨r.hd,by have:=r.dp;rw[Hv];omega,by have:=r.un;rw[Hx];omega⟩
theorem iI.depth (r:iI k A):A.depth<recursionLimit:=by have:=r.dp;omega
theorem iI.units (r:iI k A):A.units+64<cLine:=by have:=r.un;omega
def Hy:TA:=fun _ H Q=>Q [] H
def UP (ta:TE) (tr:TA):TA:=fun σ H Q=>ta σ H fun x H1=>tr σ H1 fun xs H2=>Q (x::xs) H2
section
variable {X:Cx} {e:Expr} {es:List Expr} {te:TE} {t:TA} {pos:Pos}
theorem cO:PA X [] Hy:=fun _ _ _ _ H Q I h=>cB ⟨[],H,I,.nil,h⟩
theorem cK (ha:PE X e te) (hr:PA X es t) (hs:starEach (e::es) X.env=(false,eval e X.env)::starEach es X.env:=by rfl):PA X (e::es) (UP te t):=by
 intro pos pins s σ H Q I h;rw[hs];show wpAny _ _ (spliced ((false,eval e X.env)::backTo pos (starEach es X.env))) _ _ s;refine bI (thn (ha pins s σ H _ I h) fun u s1 ⟨x,H1,I1,r1,q1⟩=>?_)
 exact thn (hr pos pins s1 σ H1 _ I1 q1) fun us s2 ⟨xs,H2,I2,r2,q2⟩=>⟨x::xs,H2,I2,.cons r1 r2,q2⟩
def VY (t:TA):TE:=fun σ H Q=>t σ H fun xs H1=>xs.length<=sizeLine/\∀p,H1 p=none->Q (.ref p) (upd H1 p (.tup xs))
def VZ (t:TA):TE:=fun σ H Q=>t σ H fun xs H1=>xs.length<=sizeLine/\∀p,H1 p=none->Q (.ref p) (upd H1 p (.lst xs))
theorem h9 {x1} (h:PA X es t):PE X (.Tuple es x1 pos) (VY t):=by
 intro pins s σ H Q I hq;refine wpAny_Tuple_spliced (thn (h pos pins s σ H _ I hq) fun us s1 ⟨xs,H1,I1,r,z,q⟩=>⟨by rw[<-r.length];exact z,?_⟩)
 have hf:H1 s1.heap.objs.size=none:=I1.hok.fresh (au _);refine⟨.ref s1.heap.objs.size,upd H1 s1.heap.objs.size (.tup xs),I1.laid (t':=s1.toks) (fun b u e=>aK _ e) (au _) ?_,rfl,q _ hf⟩
 exact⟨z,us,r,⟨_,a8 _ rfl,rfl,_,rfl⟩⟩
theorem eX (h:PA X es t):PE X (.List es pos) (VZ t):=by
 intro pins s σ H Q I hq;refine wpAny_List_spliced (thn (h pos pins s σ H _ I hq) fun us s1 ⟨xs,H1,I1,r,z,q⟩=>⟨by rw[<-r.length];exact z,?_⟩)
 have hf:H1 s1.heap.objs.size=none:=I1.hok.fresh (au _);refine⟨.ref s1.heap.objs.size,upd H1 s1.heap.objs.size (.lst xs),I1.laid (t':=s1.toks) (fun b u e=>aK _ e) (au _) ?_,rfl,q _ hf⟩
 exact⟨z,us,0,r,a8 _ rfl⟩
end
abbrev Sp:=List V->Hp->VK->XK->Prop
abbrev CXT:=List Env->Hp->Shared->XK->Value->Shared->Prop
structure Hz (P:Program) (w:World) (K:PySem.W.Frag) (mg:Str->Option Value) (base:Heap) (A:Around) (outer:List Env) (s:Shared) (H:Hp):Prop where
 frames:A.frames=some outer
 mod:Mod K mg base
 bs:∀b o,base.get? b=some o->s.heap.get? b=some o/\H b=none
 bsz:base.objs.size<=s.heap.objs.size
 yj:s.heap.FunFrames base outer
 frf:∀b∈frs outer,H b=none
 hok:HOk P w H s.heap
 bare:AllBare s.gens
def CE (outer:List Env) (P:Program) (w:World) (H:Hp) (s:Shared) (Q:VK) (u:Value) (s':Shared):Prop:=
 ∃v H',s'.os=s.os/\AllBare s'.gens/\Un (frs outer) [] H H' s.heap s'.heap/\HOk P w H' s'.heap/\RelV v u/\Q v H'
def CR (CX:CXT) (outer:List Env) (P:Program) (w:World) (H:Hp) (s:Shared) (Q:VK) (E:XK) (r:Result) (s':Shared):Prop:=
 match r with
 | .ok (.ret u)=>CE outer P w H s Q u s'
 | .ok _=>False
 | .error e=>CX outer H s E e s'
structure oC (P:Program) (w:World) (K:PySem.W.Frag) (mg:Str->Option Value) (base:Heap) (CX:CXT) (k:Nat) (f:Addr) (fd:FuncData) (ps:List Str) (sp:Sp):Prop where
 len:∀vs H Q E,sp vs H Q E->vs.length=ps.length
 run:∀(A:Around) (outer:List Env) (s:Shared) (H:Hp) (args:Args) (us:List Value) (vs:List V) (Q:VK) (E:XK),iI k A->Hz P w K mg base A outer s H->BindsTo s fd args (ps.zip us)->Vals vs us->sp vs H Q E->
  codeAny (model P w) A (.call (.ref f) args) (CR CX outer P w H s Q E) s
theorem Hz.make {P:Program} {w:World} {K:PySem.W.Frag} {mg:Str->Option Value} {base:Heap} {A:Around} {outer:List Env} {s:Shared} {H:Hp} (e:Hz P w K mg base A outer s H) (C:Addr) (us:List Value) (kw:List (Str×Value)):
  Hz P w K mg base (A.under (.builtin "type.__call__" ⟨.ref C::us,kw⟩)) outer s H:=⟨by first|exact e.frames|(simpa[Around.under,Code.envs,Code.isFrame,pushEnvs]using e.frames),e.mod,e.bs,e.bsz,e.yj,e.frf,e.hok,e.bare⟩
section
variable {X:Cx} {pins:List (Addr×Obj)} {σ:St} {H:Hp} {s s':Shared}
theorem Inv.UQ (I:Inv X pins σ H s):Hz X.prog X.w X.K X.mg X.base X.A X.stack s H:=
 ⟨I.ok.frames,I.ok.mod,I.bs,ai I.ok.bsz I.sz,I.stack,I.J5,I.hok,I.bare⟩
theorem Inv.after (I:Inv X pins σ H s) (h:CE X.stack X.prog X.w H s Q u s'):EP X pins σ Q u s':=by
 obtain⟨v,H',os,bare,un,hok,r,q⟩:=h;obtain⟨hh,g,d,t,os'⟩:=s';obtain rfl:os'=s.os:=os;exact⟨v,H',I.call (h':=hh) (g':=g) (d':=d) (t':=t) (ch:=[]) un hok bare (fun b z=>absurd z (by simp)),r,q⟩
end
def Kd (sp:Sp) (dvs:List V) (E:XK) (t:TA):TE:=fun σ H Q=>t σ H fun vs H1=>sp (vs++dvs) H1 Q E
inductive RB (C:Addr) (m:Str) (x:V) (H1:Hp) (P:Prop):Prop
 |mk:∀a dx fs,x= .ref a->H1 a=some (.ins C dx fs)->fs.lookup m=none->P->RB C m x H1 P
def Ke (C:Addr) (m:Str) (sp:Sp) (dvs:List V) (E:XK) (ta:TE) (t:TA):TE:=fun σ H Q=>ta σ H fun x H1=>RB C m x H1 (t σ H1 fun vs H2=>sp (x::(vs++dvs)) H2 Q E)
def Kf (C:Addr) (sp:Sp) (dvs:List V) (E:XK) (t:TA):TE:=fun σ H Q=>t σ H fun vs H1=>∀x dx,H1 x=none->H1 dx=none->dx≠x->
 sp (.ref x::(vs++dvs)) (upd (upd H1 dx (.own x)) x (.ins C dx [])) (fun v H2=>v= .non/\Q (.ref x) H2) E
def Binds (K:PySem.W.Frag) (fd:FuncData) (ps:List Str) (ds:List Value):Prop:=
 ∀(s:Shared) (us:List Value),K.In s.heap->(us++ds).length=ps.length->BindsTo s fd ⟨us,[]⟩ (ps.zip (us++ds))
theorem Binds.all {K:PySem.W.Frag} {fd:FuncData} {ps:List Str} (h:∀us:List Value,us.length=ps.length->bindArgs fd ⟨us,[]⟩=pure (ps.zip us)):Binds K fd ps []:=fun s us _ hl=>by
 rw[WC]at hl⊢;exact .of_eq (h us hl)
def Passes (CX:CXT) (X:Cx) (E:XK):Prop:=∀(pins:List (Addr×Obj)) (σ:St) (H:Hp) (s:Shared) (e:Value) (s':Shared),Inv X pins σ H s->CX X.stack H s E e s'->X.xe e s'
section
variable {X:Cx} {CX:CXT} {k:Nat} {f C:Addr} {fd:FuncData} {ps:List Str} {sp:Sp} {dvs:List V} {ds:List Value} {E:XK} {x m:Str} {p pos apos:Pos} {e o:Expr} {es:List Expr} {ta:TE} {t:TA}
theorem zC (F:oC X.prog X.w X.K X.mg X.base CX k f fd ps sp) (hr:iI k X.A) (hb:Binds X.K fd ps ds) (hd:Vals dvs ds) (hx:Passes CX X E)
  (I:Inv X pins σ H s) (r:Vals vs us) (h:sp (vs++dvs) H Q E):wpAny (model X.prog X.w) X.A (call (.ref f) us) (EP X pins σ Q) X.xe s:=by
 have r2:Vals (vs++dvs) (us++ds):=r.append hd;have hl:(us++ds).length=ps.length:=by rw[<-r2.length];exact F.len _ _ _ _ h
 refine wpAny_call (XU (F.run X.A X.stack s H ⟨us,[]⟩ (us++ds) (vs++dvs) Q E hr I.UQ (hb s us I.kIn hl) r2 h) fun r s' hq=>?_)
 cases r with
 |error e=>exact hx pins σ H s e s' I hq
 |ok fl=>
  cases fl with
  |ret u=>exact I.after hq
  |next=>exact False.elim hq
  |brk=>exact False.elim hq
  |cont=>exact False.elim hq
theorem Pn (F:oC X.prog X.w X.K X.mg X.base CX k f fd ps sp) (hr:iI k X.A) (hg:Gl X x) (hm:X.mg x=some (.ref f)) (hk:PySem.W.keepIn X.K (.ref f)=true) (hb:Binds X.K fd ps ds) (hd:Vals dvs ds) (hx:Passes CX X E)
  (ha:PA X (e::es) t) (hdb:(x==("__debug__":Str))=false:=by decide) (he:starEach (e::es) X.env=(false,eval e X.env)::starEach es X.env:=by rfl) (hpl:(backTo pos (starEach es X.env)).any (·.1)=false:=by rfl):
  PE X (.Call (.Name x p) (e::es) [] pos) (Kd sp dvs E t):=by
 intro pins s σ H Q I h;refine bR (uI I hg hm ?_ hdb);refine PySem.W.callWith_K (h₀:=X.base) I.ok.mod.kin hk (thn (ha pos pins s σ H _ I h) fun us s1 ⟨vs,H1,I1,r,q⟩=>⟨I1.kIn,?_⟩) he hpl
 exact zC F hr hb hd hx I1 r q
theorem ME (F:oC X.prog X.w X.K X.mg X.base CX k f fd ps sp) (hr:iI k X.A) (hg:Gl X x) (hm:X.mg x=some (.ref f)) (hk:PySem.W.keepIn X.K (.ref f)=true) (hb:Binds X.K fd ps ds) (hd:Vals dvs ds) (hx:Passes CX X E)
  (hdb:(x==("__debug__":Str))=false:=by decide):PE X (.Call (.Name x p) [] [] pos) (Kd sp dvs E Hy):=by
 intro pins s σ H Q I h;refine bR (uI I hg hm ?_ hdb);exact PySem.W.callWith_K0 I.kIn hk (zC (us:=[]) F hr hb hd hx I .nil h)
theorem Po {pl:Sem Bool} (he:PE X o ta) (c:Cls X.K C) (hm:Meth X.K C m f) (F:oC X.prog X.w X.K X.mg X.base CX k f fd ps sp) (hr:iI k X.A) (hb:Binds X.K fd ps ds) (hd:Vals dvs ds) (hx:Passes CX X E) (ha:PA X (e::es) t)
  (mB:starEach (e::es) X.env=(false,eval e X.env)::starEach es X.env:=by rfl) (hpl:(backTo pos (starEach es X.env)).any (·.1)=false:=by rfl)
  (ht:eval (.Call (.Attribute o m apos) (e::es) [] pos) X.env=(do
   let ov<-eval o X.env
   standAt apos.atName
   let (f,first)<-holding [ov] (getMethod ov m pl)
   callWith pos f first (backTo pos (starEach (e::es) X.env)) (backToKw pos (keywordEach [] X.env))):=by rfl):
  PE X (.Call (.Attribute o m apos) (e::es) [] pos) (Ke C m sp dvs E ta t):=by
 intro pins s σ H Q I h;refine PySem.W.methodCall_KW (pl:=pl) (thn (he pins s σ H _ I h) fun u s1 ⟨x,H1,I1,rx,a,dx,fs,ex,ea,l,q⟩=>?_) ht
 subst ex;obtain rfl:u=Value.ref a:=rx;refine zA I1 ea c hm l ?_;refine PySem.W.callWith_K (first:=[.ref a]) (h₀:=X.base) I.ok.mod.kin hm.kp (thn (ha pos pins s1 σ H1 _ I1 q) fun us s2 ⟨vs,H2,I2,r,q2⟩=>⟨I2.kIn,?_⟩) mB hpl
 exact zC (us:=.ref a::us) (vs:=.ref a::vs) F hr hb hd hx I2 (.cons rfl r) q2
theorem MF {pl:Sem Bool} (he:PE X o ta) (c:Cls X.K C) (hm:Meth X.K C m f) (F:oC X.prog X.w X.K X.mg X.base CX k f fd ps sp) (hr:iI k X.A) (hb:Binds X.K fd ps ds) (hd:Vals dvs ds) (hx:Passes CX X E)
  (ht:eval (.Call (.Attribute o m apos) [] [] pos) X.env=(do
   let ov<-eval o X.env
   standAt apos.atName
   let (f,first)<-holding [ov] (getMethod ov m pl)
   callWith pos f first (backTo pos (starEach [] X.env)) (backToKw pos (keywordEach [] X.env))):=by rfl):
  PE X (.Call (.Attribute o m apos) [] [] pos) (Ke C m sp dvs E ta Hy):=by
 intro pins s σ H Q I h;refine PySem.W.methodCall_KW (pl:=pl) (thn (he pins s σ H _ I h) fun u s1 ⟨x,H1,I1,rx,a,dx,fs,ex,ea,l,q⟩=>?_) ht
 subst ex;obtain rfl:u=Value.ref a:=rx;refine zA I1 ea c hm l ?_;exact PySem.W.callWith_K0 (first:=[.ref a]) I1.kIn hm.kp (zC (us:=[.ref a]) (vs:=[.ref a]) F hr hb hd hx I1 (.cons rfl .nil) q)
structure Mk (K:PySem.W.Frag) (C f:Addr):Prop where
 makes:PySem.W.makesIn K C=true
 init:PySem.W.findIn K (.ref C) "__init__"=some (some (.ref f))
 fn:PySem.W.isFn K (.ref f)=true
 kp:PySem.W.keepIn K (.ref C)=true
theorem Fg (M:Mk X.K C f) (F:oC X.prog X.w X.K X.mg X.base CX k f fd ps sp) (hr:iI (k+1) X.A) (hb:Binds X.K fd ps ds) (hd:Vals dvs ds)
  (hx:Passes CX X E) (I:Inv X pins σ H s) (r:Vals vs us)
  (h:∀x dx,H x=none->H dx=none->dx≠x->sp (.ref x::(vs++dvs)) (upd (upd H dx (.own x)) x (.ins C dx [])) (fun v H2=>v= .non/\Q (.ref x) H2) E):
  wpAny (model X.prog X.w) X.A (call (.ref C) us) (EP X pins σ Q) X.xe s:=by
 have hq:=h (s.heap.objs.size+1) s.heap.objs.size (I.hok.fresh (X1 _)) (I.hok.fresh (au _)) (bq (bt _));have I2:=Inv.made (C:=C) I;have r2:Vals (V.ref (s.heap.objs.size+1)::(vs++dvs)) (Value.ref (s.heap.objs.size+1)::(us++ds)):=.cons rfl (r.append hd);have hl:(Value.ref (s.heap.objs.size+1)::us++ds).length=ps.length:=by
  have e:=r2.length;rw[F.len _ _ _ _ hq]at e;exact e.symm
 refine wpAny_call (MC (f:=f) I.kIn M.makes M.init (cA.mp M.fn) (XU (F.run _ X.stack _ _ ⟨Value.ref (s.heap.objs.size+1)::us,[]⟩ (Value.ref (s.heap.objs.size+1)::(us++ds)) _ _ E (hr.make C us [])
  (I2.UQ.make C us []) (hb _ (Value.ref (s.heap.objs.size+1)::us) I2.kIn hl) r2 hq) fun r s' hq'=>?_))
 cases r with
 |error e=>exact hx pins σ _ _ e s' I2 hq'
 |ok fl=>
  cases fl with
  |ret u=>
   obtain⟨v,H',I3,rv,ev,q3⟩:=I2.after hq';subst ev;exact⟨rv,⟨V.ref (s.heap.objs.size+1),H',I3,rfl,q3⟩⟩
  |next=>exact False.elim hq'
  |brk=>exact False.elim hq'
  |cont=>exact False.elim hq'
theorem Pp (M:Mk X.K C f) (F:oC X.prog X.w X.K X.mg X.base CX k f fd ps sp) (hr:iI (k+1) X.A) (hg:Gl X x) (hm:X.mg x=some (.ref C)) (hb:Binds X.K fd ps ds) (hd:Vals dvs ds) (hx:Passes CX X E)
  (ha:PA X (e::es) t) (hdb:(x==("__debug__":Str))=false:=by decide) (he:starEach (e::es) X.env=(false,eval e X.env)::starEach es X.env:=by rfl) (hpl:(backTo pos (starEach es X.env)).any (·.1)=false:=by rfl):
  PE X (.Call (.Name x p) (e::es) [] pos) (Kf C sp dvs E t):=by
 intro pins s σ H Q I h;refine bR (uI I hg hm ?_ hdb);refine PySem.W.callWith_K (h₀:=X.base) I.ok.mod.kin M.kp (thn (ha pos pins s σ H _ I h) fun us s1 ⟨vs,H1,I1,r,q⟩=>⟨I1.kIn,?_⟩) he hpl
 exact Fg M F hr hb hd hx I1 r q
theorem MG (M:Mk X.K C f) (F:oC X.prog X.w X.K X.mg X.base CX k f fd ps sp) (hr:iI (k+1) X.A) (hg:Gl X x) (hm:X.mg x=some (.ref C)) (hb:Binds X.K fd ps ds) (hd:Vals dvs ds) (hx:Passes CX X E)
  (hdb:(x==("__debug__":Str))=false:=by decide):PE X (.Call (.Name x p) [] [] pos) (Kf C sp dvs E Hy):=by
 intro pins s σ H Q I h;refine bR (uI I hg hm ?_ hdb);exact PySem.W.callWith_K0 I.kIn M.kp (Fg (us:=[]) M F hr hb hd hx I .nil h)
end
section
variable {X:Cx} {CX:CXT} {k:Nat} {f C:Addr} {fd:FuncData} {ps ks:List Str} {sp:Sp} {E:XK} {x m:Str} {p pos apos kpos:Pos} {e o:Expr} {es:List Expr} {kws:List Keyword} {te ta:TE} {t tk:TA} {nm:Option Str}
variable {g:List Value->List Value->List Value} {gV:List V->List V->List V}
end
structure cW (N P:List Str) (sc:Scope):Prop where
 kind:sc.kind= .function
 co:sc.isCoroutine=false
 gen:sc.isGenerator=false
 nd:N.Nodup
 pre:N.take P.length=P
 par:∀x∈P,sc.names.lookup x=some .local\/sc.names.lookup x=some .cell
 Ss:∀y∈sc.names,y.2≠ .free
theorem Cy {kindOf:Str->Option NameKind}:∀{binds:List (Str×Value)} {m:Str->Option Value},(∀v,(x,v)∉binds)->bindL kindOf binds m x=m x
 | [],_,_=>rfl
 |(n,v)::r,m,h=>by
  unfold bindL;rw[Cy fun w hw=>h w (ak _ hw)]
  split
  .have:x≠n:=by rintro rfl;exact h v aC
   simp[this]
  .rfl
theorem Cz {kindOf:Str->Option NameKind}:∀{binds:List (Str×Value)} {m:Str->Option Value},(∀v,(x,v)∉binds)->bindC kindOf binds m x=m x
 | [],_,_=>rfl
 |(n,v)::r,m,h=>by
  unfold bindC;rw[Cz fun w hw=>h w (ak _ hw)]
  split
  .rfl
  .have:x≠n:=by rintro rfl;exact h v aC
   simp[this]
theorem CA {kindOf:Str->Option NameKind}:∀{P:List Str} {vs:List Value} {i:Nat} {m:Str->Option Value},P.Nodup->P[i]?=some x->vs[i]?=some v->kindOf x=some .local->
  bindL kindOf (P.zip vs) m x=some v
 | [],_,_,_,_,h,_,_=>by simp at h
 |_::_,[],_,_,_,_,h,_=>by simp at h
 |p::P,w::vs,0,m,nd,h1,h2,hk=>by
  simp at h1 h2;subst h1;subst h2;show bindL kindOf ((p,w)::P.zip vs) m p=_;unfold bindL;rw[Cy fun v hv=>(cg.mp nd).1 (XW hv).1,aq hk]
  simp
 |p::P,w::vs,i+1,m,nd,h1,h2,hk=>by
  show bindL kindOf ((p,w)::P.zip vs) m x=_;unfold bindL;exact CA (i:=i) (cg.mp nd).2 (by simpa using h1) (by simpa using h2) hk
theorem CB {kindOf:Str->Option NameKind}:∀{P:List Str} {vs:List Value} {i:Nat} {m:Str->Option Value},P.Nodup->P[i]?=some x->vs[i]?=some v->kindOf x≠some .local->
  bindC kindOf (P.zip vs) m x=some v
 | [],_,_,_,_,h,_,_=>by simp at h
 |_::_,[],_,_,_,_,h,_=>by simp at h
 |p::P,w::vs,0,m,nd,h1,h2,hk=>by
  simp at h1 h2;subst h1;subst h2;show bindC kindOf ((p,w)::P.zip vs) m p=_;unfold bindC;rw[Cz fun v hv=>(cg.mp nd).1 (XW hv).1,aj hk]
  simp
 |p::P,w::vs,i+1,m,nd,h1,h2,hk=>by
  show bindC kindOf ((p,w)::P.zip vs) m x=_;unfold bindC;exact CB (i:=i) (cg.mp nd).2 (by simpa using h1) (by simpa using h2) hk
def start (N:List Str) (vs:List V):St:=vs.map some++List.replicate (N.length-vs.length) none
def Lc (CX:CXT) (P:Program) (w:World) (K:PySem.W.Frag) (mg:Str->Option Value) (base:Heap) (N:List Str) (qual:Str) (scope:Scope) (f:Addr) (cd:Value) (A:Around) (outer:List Env) (s:Shared) (H:Hp) (E:XK):Cx where
 prog:=P
 w:=w
 K:=K
 mg:=mg
 base:=base
 A:=A.deeper (envOfC qual scope s.heap.objs.size f cd)
 N:=N
 s_0:=s
 H_0:=H
 env:=envOfC qual scope s.heap.objs.size f cd
 outer:=outer
 stack:=envOfC qual scope s.heap.objs.size f cd::outer
 ex:=[]
 calm:=true
 fn:=fun _=>true
 pn:=[]
 xe:=fun e s'=>wpAny (model P w) (A.deeper (envOfC qual scope s.heap.objs.size f cd)) (leaving (envOfC qual scope s.heap.objs.size f cd) e) (fun _ s''=>CX outer H s E e s'') (fun e' s''=>CX outer H s E e' s'') s'
theorem Fh {sc:Scope} {n:Nat} {x:Str} (h:sc.names.lookup x=some .cell):∃c,(cellsFrom n sc.names []).lookup x=some c:=by
 have q:=PySem.W.cellsFrom_some sc.names n [] (.inl h);exact Xx.mp q
theorem Ld {CX:CXT} {P:Program} {w:World} {K:PySem.W.Frag} {mg:Str->Option Value} {base:Heap} {N ps:List Str} {qual:Str} {scope:Scope} {f:Addr} {cd:Value} {A:Around} {outer:List Env} {s s1:Shared} {H:Hp} {E:XK} {us:List Value} {vs:List V}
  (S:cW N ps scope) (hd:A.handled=none) (e0:Hz P w K mg base A outer s H) (hl:vs.length=ps.length) (r:Vals vs us)
  (x:InCallC s s.heap.objs.size (bindL (envOfC qual scope s.heap.objs.size f cd).kindOf (ps.zip us) fun _=>none) (cellsFrom (s.heap.objs.size+1) scope.names []) (bindC (envOfC qual scope s.heap.objs.size f cd).kindOf (ps.zip us) fun _=>none) s1):
  Inv (Lc CX P w K mg base N qual scope f cd A outer s H E) [] (start N vs) H s1:=by
 have hpl:ps.length<=N.length:=by have:=congrArg List.length S.pre;rw[aV]at this;omega
 obtain⟨h1,tk,rfl,hk⟩:=x.done;have noA:∀b:Addr,b∉(Lc CX P w K mg base N qual scope f cd A outer s H E).ex:=fun b z=>absurd (show b∈([]:List Addr)from z) (by simp)
 refine⟨⟨e0.mod,S.kind,rfl,rfl,au _,fun y z c h1 h2=>?_,fun y hy=>?_,fun y c _ h=>?_,fun _=>hd,Around.frames_deeper e0.frames,.inr ⟨rfl,rfl⟩,fun b z=>absurd z (noA b),e0.bs,e0.bsz,fun b _ _=>noA b,fun b z=>absurd z (noA b),e0.yj,e0.frf⟩,
  rfl,e0.bare,Un.kept hk,⟨_,x.toInCall.ns,fun i y v h1 h2 h3=>?_⟩,fun y c h=>⟨_,x.cell y c h⟩,e0.hok.fresh (au _),fun y c h=>?_,fun p hp=>absurd (show p∈([]:List (Addr×Obj))from hp) (by simp),e0.hok.kept hk,?_⟩
 .exact name_of_addr x.apart (PySem.mem_of_lookup h1) (PySem.mem_of_lookup h2)
 .have hy:scope.names.lookup y=some .cell\/scope.names.lookup y=some .free:=hy;rcases hy with hy|hy
  .exact Fh hy
  .exact absurd rfl (S.Ss _ (PySem.mem_of_lookup hy))
 .exact bg (x.above y c (PySem.mem_of_lookup h))
 .have hi:i<vs.length:=by
   unfold start at h2;by_cases hi:i<vs.length
   .exact hi
   .rw[cG (by simpa using hi)]at h2
    rw[List.getElem?_replicate]at h2;split at h2<;>cases h2
  have ha:vs[i]?=some v:=by
   unfold start at h2;rw[aT (by simpa using hi),aF]at h2
   cases e:vs[i]? with
   |none=>rw[e]at h2;cases h2
   |some a=>rw[e]at h2;cases h2;rfl
  obtain⟨u,hu,rv⟩:=r.get ha;have hp:ps[i]?=some y:=by
   rw[<-S.pre,Xy (by omega)];exact h1
  have ndP:ps.Nodup:=by rw[<-S.pre];exact S.nd.sublist (List.take_sublist _ _)
  refine⟨u,rv,?_⟩;rcases S.par y (aP hp)with k|k
  .exact .inl ⟨k,CA ndP hp hu k⟩
  .obtain⟨c,e⟩:=Fh (n:=s.heap.objs.size+1) k;refine .inr ⟨.inl k,c,e,?_⟩;have q:=x.cell y c e;rw[CB ndP hp hu (by show scope.names.lookup y≠_;rw[k];decide)]at q
   exact q
 .exact e0.hok.fresh (bg (x.above y c (PySem.mem_of_lookup h)))
 .unfold start;show _=N.length;rw[List.length_append,List.length_map,WT];omega
theorem UR {CX:CXT} {P:Program} {w:World} {K:PySem.W.Frag} {mg:Str->Option Value} {base:Heap} {k:Nat} {f:Addr} {name qual:Str} {params:Arguments} {body:List Stmt} {scope:Scope} {dV kV doc pm qI ct oc:Value} {an od:Option Addr}
  {osl:Array (Option Value)} {N ps:List Str} {sp:Sp} (lk:K.lookup f=some ⟨oc,od,.func (PySem.W.fnOf name qual params body scope dV kV doc pm an qI ct),osl⟩) (hcd:PySem.W.codeIn K qI qual=true) (S:cW N ps scope)
  (len:∀vs H Q E,sp vs H Q E->vs.length=ps.length)
  (rT:∀(A:Around) (outer:List Env) (s:Shared) (H:Hp) (vs:List V) (Q:VK) (E:XK),iI k (A.deeper (envOfC qual scope s.heap.objs.size f qI))->sp vs H Q E->
   ∃t,PSs (Lc CX P w K mg base N qual scope f qI A outer s H E) body t/\t {nx:=fun _ H'=>Q .non H',rt:=Q} (start N vs) H):
  oC P w K mg base CX (k+1) f (PySem.W.fnOf name qual params body scope dV kV doc pm an qI ct) ps sp:=by
 refine⟨len,fun A outer s H args us vs Q E hr e0 hb r hsp=>?_⟩
 have hl:=len _ _ _ _ hsp;have KX:K.In s.heap:=e0.mod.kin.keeps fun b o e=>(e0.bs b o e).1
 have lim:s.heap.NoLimit:=e0.mod.nolimit.keeps fun b o e=>(e0.bs b o e).1
 have hkind:∀y∈ps.zip us,scope.names.lookup y.1=some .local\/(scope.names.lookup y.1=some .cell/\((cellsFrom (s.heap.objs.size+1) scope.names []).lookup y.1).isSome=true):=fun ⟨n,v⟩ hy=>by
  rcases S.par n (XW hy).1 with q|q
  .exact .inl q
  .exact .inr ⟨q,PySem.W.cellsFrom_some _ _ _ (.inl q)⟩
 refine codeAny_call_function hr.depth (KX _ _ lk) rfl S.co S.gen rfl (PySem.W.codeRec_of KX hcd) (hb _ _ _ _ ?_);refine wpAny_newFunctionEnv_cells S.kind hkind fun env he s1 x=>?_
 subst he;refine⟨lim.keeps x.toInCall.keep,codeAny_func ?_⟩;obtain⟨t,ht,hq⟩:=rT A outer s H vs Q E (hr.deeper _) hsp;have I:Inv (Lc CX P w K mg base N qual scope f qI A outer s H E) [] (start N vs) H s1:=Ld S hr.hd e0 hl r x;refine bW (ht [] s1 (start N vs) H _ I hq) (fun fl s' hs=>?_) fun e s' hs=>hs
 have fin:∀{σ':St} {H':Hp} {v:V} {u:Value},Inv (Lc CX P w K mg base N qual scope f qI A outer s H E) [] σ' H' s'->RelV v u->Q v H'->CE outer P w H s Q u s':=
  fun {σ' H' v u} J rv q=>⟨v,H',J.os,J.bare,J.base,J.hok,rv,q⟩
 cases fl with
 |ret u=>
  obtain⟨v,σ',H',J,rv,q⟩:=hs;exact fin J rv q
 |next=>
  obtain⟨σ',H',J,q⟩:=hs;exact fin (v:=V.non) (u:=Value.none) J rfl q
 |brk=>
  obtain⟨_,_,_,q⟩:=hs;exact False.elim q
 |cont=>
  obtain⟨_,_,_,q⟩:=hs;exact False.elim q
section
variable {X:Cx} {x:Str} {p pos:Pos} {e:Expr} {es:List Expr} {t:TA} {id T:String} {r:List V->Hp->VK->Prop}
def tCB (r:List V->Hp->VK->Prop) (t:TA):TE:=fun σ H Q=>t σ H fun vs H1=>r vs H1 Q
theorem dv (hc:nN X (.builtin id) r) (hg:Gl X x) (hm:X.mg x=none) (hv:bootBuiltins x=some (.builtin id)) (ha:PA X (e::es) t) (hn:x≠"__name__":=by decide) (hdb:(x==("__debug__":Str))=false:=by decide)
  (he:starEach (e::es) X.env=(false,eval e X.env)::starEach es X.env:=by rfl) (hpl:(backTo pos (starEach es X.env)).any (·.1)=false:=by rfl):PE X (.Call (.Name x p) (e::es) [] pos) (tCB r t):=by
 intro pins s σ H Q I h;refine bR (sZ I hg hm hv ?_ hn hdb);exact PyProof.Rows.callWith_builtin1 (thn (ha pos pins s σ H _ I h) fun us s1 ⟨vs,H1,I1,r1,q1⟩=>hc pins s1 σ H1 vs us Q I1 r1 q1) he hpl
theorem mP (hc:nN X (.type T) r) (hg:Gl X x) (hm:X.mg x=none) (hv:bootBuiltins x=some (.type T)) (ha:PA X (e::es) t) (hn:x≠"__name__":=by decide) (hdb:(x==("__debug__":Str))=false:=by decide)
  (he:starEach (e::es) X.env=(false,eval e X.env)::starEach es X.env:=by rfl) (hpl:(backTo pos (starEach es X.env)).any (·.1)=false:=by rfl):PE X (.Call (.Name x p) (e::es) [] pos) (tCB r t):=by
 intro pins s σ H Q I h;refine bR (sZ I hg hm hv ?_ hn hdb);exact bA (thn (ha pos pins s σ H _ I h) fun us s1 ⟨vs,H1,I1,r1,q1⟩=>hc pins s1 σ H1 vs us Q I1 r1 q1) he hpl
end
end L2
namespace HT
open PySem PyProof.Rows
section
open PySem.SeqAt
open PySem.AutoSeq1 (wpAny_loadPart')
open PySem.MeetsSeq PySem.MeetsSeq2 PySem.MeetsSeq3
end
section
variable {prog:Program} {w:World} {A:Around} {E:Value->Shared->Prop} {s:Shared}
def sIx (n d:Nat):Option Int->Nat
 |none=>d
 |some v=>if v<0 then (v+(n:Int)).toNat else min v.toNat n
theorem MH (n d:Nat):sIx n d none=d:=rfl
theorem rX (n d k:Nat):sIx n d (some (k:Int))=min k n:=by
 show (if (k:Int)<0 then ((k:Int)+(n:Int)).toNat else min (k:Int).toNat n)=min k n
 rw[aj (by omega),bp]
theorem MI (n d:Nat) (hd:d<=n) (o:Option Int):sIx n d o<=n:=by
 cases o with
 |none=>exact hd
 |some v=>
  show (if v<0 then (v+(n:Int)).toNat else min v.toNat n)<=n
  by_cases hv:v<0
  .rw[aq hv];omega
  .rw[aj hv];exact Wy _ _
end
end HT
namespace L2
open PySem PySem.Spec PyProof.Rows
abbrev TO:=St->Hp->(Option Int->Hp->Prop)->Prop
def PO (X:Cx) (e:Option Expr) (t:TO):Prop:=
 ∀(pins:List (Addr×Obj)) (s:Shared) (σ:St) (H:Hp) (Q:Option Int->Hp->Prop),Inv X pins σ H s->t σ H Q->
  wpAny (model X.prog X.w) X.A (evalPart e X.env) (fun u s'=>∃o H',Inv X pins σ H' s'/\IsPart u o/\Q o H') X.xe s
def Pq:TO:=fun _ H Q=>Q none H
def US (t:TE):TO:=fun σ H Q=>t σ H fun x H1=>∃i,x= .int i/\Q (some i) H1
section
variable {X:Cx} {e:Expr} {te:TE} {lo hi:Option Expr} {tl th:TO} {pos p2:Pos}
theorem Dg:PO X none Pq:=by
 intro pins s σ H Q I h;rw[evalPart_none];exact aU ⟨none,H,I,.none,h⟩
theorem oU (h:PE X e te):PO X (some e) (US te):=by
 intro pins s σ H Q I hw;rw[evalPart_some];refine thn (h pins s σ H _ I hw) fun u s1 ⟨x,H1,I1,r1,q1⟩=>?_
 obtain⟨i,rfl,q⟩:=q1;obtain⟨t,rfl⟩:=r1;exact⟨some i,H1,I1,.int i t,q⟩
def SlR (X:Cx) (r:V->Option Int->Option Int->Hp->VK->Prop):Prop:=
 ∀(pins:List (Addr×Obj)) (s:Shared) (σ:St) (H:Hp) (x:V) (v vl vu:Value) (lo hi:Option Int) (sl:Addr) (Q:VK),Inv X pins σ H s->RelV x v->s.heap.IsSliceOf sl vl vu .none->IsPart vl lo->IsPart vu hi->r x lo hi H Q->
  ∃T id,typeLookup (.type T) "__getitem__"=pure (some (.builtin id))/\s.TypeIs v T/\wpAny (model X.prog X.w) X.A (getItem v (.ref sl)) (EP X pins σ Q) X.xe s
def tSl (r:V->Option Int->Option Int->Hp->VK->Prop) (te:TE) (tl th:TO):TE:=fun σ H Q=>te σ H fun x H1=>tl σ H1 fun l H2=>th σ H2 fun u H3=>r x l u H3 Q
theorem qQ {r:V->Option Int->Option Int->Hp->VK->Prop} (hr:SlR X r) (he:PE X e te) (hl:PO X lo tl) (hu:PO X hi th):PE X (.Subscript e (.Slice lo hi none p2) pos) (tSl r te tl th):=by
 intro pins s σ H Q I h;refine Subscript_ (thn (he pins s σ H _ I h) fun v s1 ⟨x,H1,I1,r1,q1⟩=>?_)
 refine wpAny_Slice (thn (hl pins s1 σ H1 _ I1 q1) fun vl s2 ⟨l,H2,I2,pl,q2⟩=>thn (hu pins s2 σ H2 _ I2 q2) fun vu s3 ⟨u,H3,I3,pu,q3⟩=>?_)
 rw[evalPart_none];refine aU ?_;have I4:Inv X pins σ H3 {s3 with heap:=s3.heap.push {cls:=.type "slice",data:=.fields #[vl,vu,.none]}}:=I3.kept (t':=s3.toks) fun b ob q=>aK _ q
 obtain⟨T,id,hT,ht,hg⟩:=hr pins {s3 with heap:=s3.heap.push {cls:=.type "slice",data:=.fields #[vl,vu,.none]}} σ H3 x v vl vu l u s3.heap.objs.size Q I4 r1 (Heap.IsSliceOf.new ..) pl pu q3
 show wpAny (model X.prog X.w) X.A (subscriptTail e (.Slice lo hi none p2) v (.ref s3.heap.objs.size)) (EP X pins σ Q) X.xe {s3 with heap:=s3.heap.push {cls:=.type "slice",data:=.fields #[vl,vu,.none]}}
 exact tail_any (ops:=[.ref s3.heap.objs.size,v]) ht hT hg (by with_unfolding_all rfl)
def uO (xs:List V) (lo hi:Option Int):List V:=(xs.drop (HT.sIx xs.length 0 lo)).take (HT.sIx xs.length xs.length hi-HT.sIx xs.length 0 lo)
theorem Fi (xs:List V) (lo hi:Option Int):(uO xs lo hi).length<=xs.length:=by
 unfold uO;rw[aV,aZ];omega
end
def ixN (n:Nat) (i:Int):Option Nat:=if 0<=i then (if i<n then some i.toNat else none)else if-(n:Int)<=i then some (i+n).toNat else none
def atI {α:Type} (xs:List α) (i:Int):Option α:=(ixN xs.length i).bind fun j=>xs[j]?
theorem Kg (h:ixN n i=some j):seqIndex? i n=some j/\j<n/\-(n:Int)<=i/\i<n:=by
 unfold ixN at h;by_cases h0:0<=i
 .rw[aq h0]at h;by_cases h1:i<n
  .rw[aq h1]at h;have e:i.toNat=j:=a9 h;exact⟨by rw[seqIndex_of h0 h1,e],by omega,by omega,h1⟩
  .rw[aj h1]at h;cases h
 .rw[aj h0]at h;by_cases h1:-(n:Int)<=i
  .rw[aq h1]at h;have e:(i+n).toNat=j:=a9 h;exact⟨by rw[seqIndex_neg (by omega) h1,e],by omega,h1,by omega⟩
  .rw[aj h1]at h;cases h
theorem Dh {α:Type} {xs:List α} {v:α} (h:atI xs i=some v):∃j,seqIndex? i xs.length=some j/\xs[j]?=some v/\j<xs.length/\-(xs.length:Int)<=i/\i<xs.length:=by
 unfold atI at h;cases e:ixN xs.length i with
 |none=>rw[e]at h;cases h
 |some j=>
  rw[e]at h;obtain⟨h1,h2,h3,h4⟩:=Kg e;exact⟨j,h1,h,h2,h3,h4⟩
theorem cX {α:Type} {xs:List α} {j:Nat} {v:α} (h:xs[j]?=some v):atI xs (j:Int)=some v:=by
 have hj:j<xs.length:=(aa.mp h).1;have e:ixN xs.length (j:Int)=some j:=by
  unfold ixN;rw[aq (by omega),aq (by omega)];simp
 unfold atI;rw[e];exact h
theorem Fj {α:Type} (xs:List α) (v:α):atI (xs++ [v]) (-1)=some v:=by
 have hl:(xs++ [v]).length=xs.length+1:=by simp
 have e:ixN (xs++ [v]).length (-1)=some xs.length:=by
  unfold ixN;rw[hl,aj (by decide),aq (by omega)]
  congr 1;omega
 unfold atI;rw[e];show (xs++ [v])[xs.length]?=some v;simp
def Di (b:Expr):Prop:=∀o i,subscripted b false o i=operate [o,i] (getItem o i)
def IxR (X:Cx) (r:R2):Prop:=
 ∀(value slice:Expr) (pins:List (Addr×Obj)) (s:Shared) (σ:St) (H:Hp) (x y:V) (v u:Value) (Q:VK),Inv X pins σ H s->RelV x v->RelV y u->r x y H Q->
  subscripted slice false v u=operate [v,u] (getItem v u)->wpAny (model X.prog X.w) X.A (subscriptTail value slice v u) (EP X pins σ Q) X.xe s
def MtR (X:Cx) (id:String) (r:V->List V->Hp->VK->Prop):Prop:=
 ∀(pins:List (Addr×Obj)) (s:Shared) (σ:St) (H:Hp) (x:V) (xs:List V) (v:Value) (us:List Value) (Q:VK),Inv X pins σ H s->RelV x v->Vals xs us->r x xs H Q->
  wpAny (model X.prog X.w) X.A (call (.builtin id) (v::us)) (EP X pins σ Q) X.xe s
section
variable {X:Cx} {a b:Expr} {ta tb:TE} {pos:Pos}
theorem xU {r:R2} (hr:IxR X r) (ha:PE X a ta) (hb:PE X b tb) (hs:Di b):PE X (.Subscript a b pos) (tOp r ta tb):=by
 intro pins s σ H Q I h;exact Subscript_ (Sm ha hb I h fun v u s2 x y H2 I2 rx ry q=>hr a b pins s2 σ H2 x y v u Q I2 rx ry q (hs _ _))
inductive Su (K:PySem.W.Frag) (x:V) (y:V) (H:Hp) (Q:VK):Prop
 |mk:∀p xs i v,x= .ref p->y= .int i->SqL K H p xs->atI xs i=some v->Q v H->Su K x y H Q
inductive MJ (K:PySem.W.Frag) (x:V) (y:V) (H:Hp) (Q:VK):Prop
 |mk:∀p xs i v,x= .ref p->y= .int i->SqT K H p xs->atI xs i=some v->Q v H->MJ K x y H Q
inductive UT (x:V) (y:V) (H:Hp) (Q:VK):Prop
 |mk:∀z i c,x= .str z->y= .int i->z.length<=sizeLine->atI z.cps.toList i=some c->Q (.str ⟨#[c]⟩) H->UT x y H Q
theorem Pr:IxR X (Su X.K):=by
 intro value slice pins s σ H x y v u Q I rx ry h hs;obtain⟨p,xs,i,z,rfl,rfl,hq,he,q⟩:=h;cases rx;obtain⟨t,rfl⟩:=ry;obtain⟨eE,r,pl,hz⟩:=I.list hq;obtain⟨j,h1,h2,h3,h4,h5⟩:=Dh he;obtain⟨w,ew,rw'⟩:=r.get h2;have hl:=r.length;have hn:=we;have fin:EP X pins σ Q w s:=⟨z,H,I,rw',q⟩;by_cases h0:0<=i
 .have hj:i.toNat=j:=by
   rw[seqIndex_of h0 h5]at h1;exact a9 h1
  exact item_listR pl.isList h0 (by omega) (by rw[hj];simpa using ew) fin hs
 .have hj:(i+(eE.toArray.size:Int)).toNat=j:=by
   rw[seqIndex_neg (by omega) h4]at h1
   rw[aL,<-hl];exact a9 h1
  exact subscriptTail_builtinR (x:=w) pl.isList.typeIs slot_list_getitem.lookup
   (wpAny_getItem_list_neg (Q:=fun r s'=>r=w/\EP X pins σ Q r s') pl.isList (by omega) (by rw[aL]<;>omega) (by omega) (by rw[hj];simpa using ew) ⟨rfl,fin⟩) hs
theorem HA:IxR X (MJ X.K):=by
 intro value slice pins s σ H x y v u Q I rx ry h hs;obtain⟨p,xs,i,z,rfl,rfl,hq,he,q⟩:=h;cases rx;obtain⟨t,rfl⟩:=ry;obtain⟨eE,r,pl,hz⟩:=I.tuple hq;obtain⟨j,h1,h2,h3,h4,h5⟩:=Dh he;obtain⟨w,ew,rw'⟩:=r.get h2;have hl:=r.length;have hn:=we;have fin:EP X pins σ Q w s:=⟨z,H,I,rw',q⟩;exact subscriptTail_builtinR (x:=w) pl.typeIs slot_tuple_getitem.lookup
  (getItem_tuple (j:=j) (Q:=fun r s'=>r=w/\EP X pins σ Q r s') pl (by omega) (by omega) (by rw[aL,<-hl];exact h1) (by simpa using ew) ⟨rfl,fin⟩) hs
theorem Dj:IxR X UT:=by
 intro value slice pins s σ H x y v u Q I rx ry h hs;obtain⟨z,i,c,rfl,rfl,hz,he,q⟩:=h;obtain⟨t,rfl⟩:=rx;obtain⟨t',rfl⟩:=ry;obtain⟨j,h1,h2,h3,h4,h5⟩:=Dh he;have hl:z.cps.toList.length=z.length:=by simp[Str.length]
 rw[hl]at h1 h4 h5;have hn:=we;exact tail_any (XZ s z t) slot_str_getitem.lookup (getItem_str (c:=c) (by
  have e1:decide (i< -(2^63:Int))=false:=ao (by omega)
  have e2:decide (i>=2^63)=false:=ao (by omega)
  rw[e1,e2,Bool.or_false]) (by rw[h1];simpa using h2) ⟨.str ⟨#[c]⟩,H,I.tok _,⟨_,rfl⟩,q⟩) hs
theorem HB (eE:List Value) (n j:Nat) (u:Value):Obj.mapSeq (·.setIfInBounds j u) {cls:=.type "list",data:=.seq eE.toArray n}={cls:=.type "list",data:=.seq (eE.set j u).toArray n}:=by
 simp[Obj.mapSeq]
theorem Inv.lst (I:Inv X pins σ H s) (h:H p=some (.lst xs)):
  ∃(eE:List Value) (n:Nat),Vals xs eE/\s.heap.get? p=some {cls:=.type "list",data:=.seq eE.toArray n}/\xs.length<=sizeLine:=by
 obtain⟨z,eE,n,r,e⟩:=I.hok p _ h;exact⟨eE,n,r,e,z⟩
theorem Inv.Sv {pins:List (Addr×Obj)} {σ:St} {H:Hp} {s:Shared} {p:Addr} {xs ys:List V} {eE its':List Value} {n n':Nat} {f:Obj->Obj} (I:Inv X pins σ H s) (h:H p=some (.lst xs))
  (ho:s.heap.get? p=some {cls:=.type "list",data:=.seq eE.toArray n}) (hf:f {cls:=.type "list",data:=.seq eE.toArray n}={cls:=.type "list",data:=.seq its'.toArray n'}) (r:Vals ys its') (hz:ys.length<=sizeLine) (t:Nat):
  Inv X pins σ (upd H p (.lst ys)) {s with heap:=s.heap.update p f,toks:=t}:=by
 have e:(s.heap.update p f).get? p=some {cls:=.type "list",data:=.seq its'.toArray n'}:=by
  rw[Heap.get?_update_self f ho (by rw[hf]<;>rfl),hf]
 refine I.write (x:=p) (e:=p) (by rw[h];trivial) (.inl rfl) (fun b u hb q=>(Heap.get?_update_other _ _ (cw hb)).trans q) ⟨_,e⟩ ?_
 exact⟨hz,its',n',r,e⟩
inductive RC (o:V) (i:V) (v:V) (H:Hp) (Q:Hp->Prop):Prop
 |mk:∀p xs k j,o= .ref p->i= .int k->H p=some (.lst xs)->ixN xs.length k=some j->Q (upd H p (.lst (xs.set j v)))->RC o i v H Q
theorem set_list:Sd X RC:=by
 intro pins s σ H o i v ov iv u Q I ro ri rv h;obtain⟨p,xs,k,j,rfl,rfl,hp,hj,q⟩:=h;cases ro;obtain⟨t,rfl⟩:=ri;obtain⟨eE,n,r,ho,hz⟩:=I.lst hp;obtain⟨h1,h2,h3,h4⟩:=Kg hj;have hl:=r.length;have hn:=we;have I':Inv X pins σ (upd H p (.lst (xs.set j v))) {s with heap:=s.heap.update p (Obj.mapSeq (·.setIfInBounds j u))}:=
  I.Sv hp ho (HB eE n j u) (r.set rv j) (by rw[bF];exact hz) s.toks
 by_cases h0:0<=k
 .have hk:k.toNat=j:=by
   rw[seqIndex_of h0 h4]at h1;exact a9 h1
  exact PySem.W.ki_setAt ho h0 (by omega) (by rw[aL,<-hl];exact h4) (by rw[hk];exact⟨_,I',q⟩)
 .have hk:(k+(eE.toArray.size:Int)).toNat=j:=by
   rw[seqIndex_neg (by omega) h3]at h1
   rw[aL,<-hl];exact a9 h1
  exact PySem.W.ki_setBack ho (by omega) (by rw[aL,<-hl];exact h3) (by omega) (by rw[hk];exact⟨_,I',q⟩)
theorem Dk (lo hi:Option Int) (n:Nat):(sliceBounds lo hi none n).1=((HT.sIx n 0 lo:Nat):Int)/\(sliceBounds lo hi none n).2.1=((HT.sIx n n hi:Nat):Int)/\(sliceBounds lo hi none n).2.2=1:=by
 refine⟨?_,?_,rfl⟩
 .cases lo with
  |none=>simp[sliceBounds,HT.sIx]
  |some i=>
   simp only[sliceBounds,HT.sIx,Option.getD_none,show (1:Int)>0 by decide,bZ]
   by_cases h:i<0
   .simp only[h,bZ]<;>omega
   .simp only[h,cq]<;>omega
 .cases hi with
  |none=>simp[sliceBounds,HT.sIx]
  |some i=>
   simp only[sliceBounds,HT.sIx,Option.getD_none,show (1:Int)>0 by decide,bZ]
   by_cases h:i<0
   .simp only[h,bZ]<;>omega
   .simp only[h,cq]<;>omega
theorem Bm (eE:List Value) (lo hi:Option Int):slicePick eE.toArray lo hi none=((eE.drop (HT.sIx eE.length 0 lo)).take (HT.sIx eE.length eE.length hi-HT.sIx eE.length 0 lo)).toArray:=by
 obtain⟨h1,h2,h3⟩:=Dk lo hi eE.toArray.size;unfold slicePick;rw[h1,h2,h3];simp only[sliceRange_one,pick_run,aL]<;>rfl
inductive UU (K:PySem.W.Frag) (x:V) (lo:Option Int) (hi:Option Int) (H:Hp) (Q:VK):Prop
 |mk:∀a xs,x= .ref a->SqL K H a xs->(∀p,H p=none->Q (.ref p) (upd H p (.lst (uO xs lo hi))))->UU K x lo hi H Q
theorem y3:SlR X (UU X.K):=by
 intro pins s σ H x v vl vu lo hi sl Q I rx hs pl pu h;obtain⟨a,xs,rfl,hx,q⟩:=h;cases rx;obtain⟨eE,r,ht,hz⟩:=I.list hx;have hlen:=r.length;refine⟨"list",_,slot_list_getitem.lookup,ht.isList.typeIs,?_⟩;refine wpAny_getItem_list_slice ht.isList hs pl pu .none (by simp) ?_ (by rw[aL]<;>omega)
 rw[Bm,<-hlen];refine⟨.ref s.heap.objs.size,_,I.laid (t':=s.toks) (o:=.lst (uO xs lo hi)) (fun b ob q=>aK _ q) (au _) ?_,rfl,q _ (I.hok.fresh (au _))⟩
 exact⟨ai (Fi xs lo hi) hz,_,0,(r.drop (HT.sIx xs.length 0 lo)).take (HT.sIx xs.length xs.length hi-HT.sIx xs.length 0 lo),a8 _ rfl⟩
def uP:V->Bool
 | .non=>true
 | .bl _=>true
 | .int _=>true
 | .str _=>true
 |_=>false
def eqV:V->V->Bool
 | .non,.non=>true
 | .bl a,.bl b=>a==b
 | .bl a,.int b=>(if a then 1 else 0)==b
 | .int a,.bl b=>a==(if b then 1 else 0)
 | .int a,.int b=>a==b
 | .str a,.str b=>a==b
 |_,_=>false
theorem Sw (ry:RelV y u) (rx:RelV x v) (fy:uP y=true) (fx:uP x=true):SeqAt.EqAt A s u v (eqV y x):=by
 cases y with
 |non=>
  cases ry;cases x with
  |non=>cases rx;exact SeqAt.EqAt.same _
  |bl b=>cases rx;exact SeqAt.EqAt.none_bool b
  |int b=>obtain⟨t,rfl⟩:=rx;exact SeqAt.EqAt.none_int b t
  |str b=>obtain⟨t,rfl⟩:=rx;exact SeqAt.EqAt.none_str b t
  |_=>exact absurd (show false=true from fx) aN
 |bl a=>
  cases ry;cases x with
  |non=>cases rx;exact SeqAt.EqAt.bool_none a
  |bl b=>cases rx;exact SeqAt.EqAt.bool_bool a b
  |int b=>obtain⟨t,rfl⟩:=rx;exact SeqAt.EqAt.bool_int a b t
  |str b=>obtain⟨t,rfl⟩:=rx;exact SeqAt.EqAt.bool_str a b t
  |_=>exact absurd (show false=true from fx) aN
 |int a=>
  obtain⟨t',rfl⟩:=ry;cases x with
  |non=>cases rx;exact SeqAt.EqAt.int_none a t'
  |bl b=>cases rx;exact SeqAt.EqAt.int_bool a t' b
  |int b=>obtain⟨t,rfl⟩:=rx;exact SeqAt.EqAt.int_int a t' b t
  |str b=>obtain⟨t,rfl⟩:=rx;exact SeqAt.EqAt.int_str a t' b t
  |_=>exact absurd (show false=true from fx) aN
 |str a=>
  obtain⟨t',rfl⟩:=ry;cases x with
  |non=>cases rx;exact SeqAt.EqAt.str_none a t'
  |bl b=>cases rx;exact SeqAt.EqAt.str_bool a t' b
  |int b=>obtain⟨t,rfl⟩:=rx;exact SeqAt.EqAt.str_int a t' b t
  |str b=>obtain⟨t,rfl⟩:=rx;exact SeqAt.EqAt.str_str a t' b t
  |_=>exact absurd (show false=true from fx) aN
 |_=>exact absurd (show false=true from fy) aN
def eqU (x:V) (u:Value):Bool:=match u with
 | .none=>eqV .non x
 | .bool b=>eqV (.bl b) x
 | .int i _=>eqV (.int i) x
 | .str z _=>eqV (.str z) x
 |_=>false
theorem MK {x y:V} {u:Value} (r:RelV y u) (f:uP y=true):eqU x u=eqV y x:=by
 cases y with
 |non=>cases r;rfl
 |bl b=>cases r;rfl
 |int i=>obtain⟨t,rfl⟩:=r;rfl
 |str z=>obtain⟨t,rfl⟩:=r;rfl
 |_=>exact absurd (show false=true from f) aN
theorem Dl:∀{xs:List V} {us:List Value},Vals xs us->xs.all uP=true->us.any (eqU x)=xs.any fun y=>eqV y x
 |_,_,.nil,_=>rfl
 |y::xs,u::us,.cons r t,f=>by
  rw[cC,aH]at f;rw[cD,cD,MK r f.1,Dl t f.2]
theorem zD {A:Around} {s:Shared} {x:V} {v:Value} (rx:RelV x v) (fx:uP x=true):∀{xs:List V} {us:List Value},Vals xs us->xs.all uP=true->∀u∈us,SeqAt.EqAt A s u v (eqU x u)
 |_,_,.nil,_=>fun u hu=>by cases hu
 |y::xs,u::us,.cons r t,f=>fun u' hu=>by
  rw[cC,aH]at f;rcases ag.mp hu with rfl|hu
  .rw[MK r f.1];exact Sw r rx f.1 fx
  .exact zD rx fx t f.2 u' hu
def inV (x:V) (xs:List V):Bool:=xs.any fun y=>eqV y x
inductive rIn (K:PySem.W.Frag) (neg:Bool) (x:V) (y:V) (H:Hp) (Q:VK):Prop
 |mk:∀p xs,y= .ref p->(SqL K H p xs\/SqT K H p xs)->uP x=true->xs.all uP=true->Q (.bl (if neg then !inV x xs else inV x xs)) H->rIn K neg x y H Q
theorem Le:OpR X (compareOp .In) (rIn X.K false):=by
 intro pins s σ H x y v u Q I rx ry h;obtain⟨p,xs,rfl,hq,fx,fs,q⟩:=h;cases ry;rcases hq with hq|hq
 .obtain⟨eE,r,pl,hz⟩:=I.list hq;refine SeqAt.in_listAt (eqU x) pl.isList (fun w hw=>zD rx fx r fs w (by simpa using hw)) ⟨.bl _,H,I,rfl,?_⟩
  rw[show eE.toArray.any (eqU x)=eE.any (eqU x) by simp,Dl r fs]
  exact q
 .obtain⟨eE,r,pl,hz⟩:=I.tuple hq;refine SeqAt.in_tupleAt (eqU x) pl (fun w hw=>zD rx fx r fs w (by simpa using hw)) ⟨.bl _,H,I,rfl,?_⟩
  rw[show eE.toArray.any (eqU x)=eE.any (eqU x) by simp,Dl r fs]
  exact q
inductive Sx (K:PySem.W.Frag) (xs:List V) (H:Hp) (Q:VK):Prop
 |mk:∀p ys,xs= [.ref p]->(SqL K H p ys\/SqT K H p ys)->Q (.int ys.length) H->Sx K xs H Q
theorem dk:nN X (.builtin "len") (Sx X.K):=by
 intro pins s σ H xs us Q I r h;obtain⟨p,ys,rfl,hq,q⟩:=h;obtain⟨u,rfl,rx⟩:=vals1 r;cases rx;have hn:=we;rcases hq with hq|hq
 .obtain⟨eE,r',pl,hz⟩:=I.list hq;have hlen:=r'.length;exact Calls.call_len_list pl.isList (by simp only[aL]<;>omega) ⟨.int ys.length,H,I.tok _,⟨s.toks+1,by rw[aL,hlen]⟩,q⟩
 .obtain⟨eE,r',pl,hz⟩:=I.tuple hq;have hlen:=r'.length;exact len_tuple pl (by simp only[aL]<;>omega) ⟨.int ys.length,H,I.tok _,⟨s.toks+1,by rw[aL,hlen]⟩,q⟩
theorem mC:nN X (.builtin "len") (fun xs H Q=>∃z,xs= [.str z]/\z.length<=sizeLine/\Q (.int z.length) H):=by
 intro pins s σ H xs us Q I r h;obtain⟨z,rfl,hz,q⟩:=h;obtain⟨u,rfl,t,rfl⟩:=vals1 r;have hn:=we;exact len_str (by omega) ⟨.int z.length,H,I.tok _,⟨_,rfl⟩,q⟩
def tyV (K:PySem.W.Frag) (T:String) (x:V) (H:Hp):Prop:=match x with
 | .str _=>T="str"
 | .int _=>T="int"
 | .ref p=>(T="list"/\∃xs,SqL K H p xs)\/(T="tuple"/\∃o,K.lookup p=some o/\o.cls= .type "tuple"/\o.dict=none)\/
   (T="dict"/\((∃dU,H p=some (.dK dU))\/∃dU,H p=some (.dT dU)))\/(T="set"/\∃S n,H p=some (.set S n))
 |_=>False
theorem ML (I:Inv X pins σ H s) (r:RelV x v) (ty:tyV X.K T x H):
  s.TypeIs v T/\∀a,v= .ref a->∃ob,s.heap.get? a=some ob/\ob.dict=none:=by
 cases x with
 |str z=>
  obtain⟨t,rfl⟩:=r;cases (show T="str" from ty);exact⟨XZ s z t,fun _ e=>nomatch e⟩
 |int i=>
  obtain⟨t,rfl⟩:=r;cases (show T="int" from ty);exact⟨typeIs_int s i t,fun _ e=>nomatch e⟩
 |ref p=>
  cases r;rcases ty with⟨rfl,xs,hq⟩|⟨rfl,o,hk,hc,hd⟩|⟨rfl,hk⟩|⟨rfl,S,n,hk⟩
  .obtain⟨eE,_,pl,_⟩:=I.list hq;refine⟨pl.isList.typeIs,fun a e=>?_⟩
   cases e;obtain⟨o,n,e,c,hd,_⟩:=pl;exact⟨o,e,hd⟩
  .refine⟨⟨o,I.kIn p o hk,hc⟩,fun a e=>?_⟩
   cases e;exact⟨o,I.kIn _ o hk,hd⟩
  .have z:∃o,s.heap.get? p=some o/\o.ExactDict:=by
    rcases hk with⟨dU,hk⟩|⟨dU,hk⟩
    .obtain⟨_,_,_,_,o,_,_,e,ex,_⟩:=I.hok p _ hk;exact⟨o,e,ex⟩
    .obtain⟨_,_,_,_,o,_,_,e,ex,_⟩:=I.hok p _ hk;exact⟨o,e,ex⟩
   obtain⟨o,e,ex⟩:=z;refine⟨⟨o,e,ex.1⟩,fun a e2=>?_⟩
   cases e2;exact⟨o,e,ex.2.1⟩
  .obtain⟨o,_,_,_,e,ex,_⟩:=I.hok p _ hk;refine⟨⟨o,e,ex.1⟩,fun a e2=>?_⟩
   cases e2;exact⟨o,e,ex.2.1⟩
 |_=>exact False.elim ty
def V0 (K:PySem.W.Frag) (T:String) (r:V->List V->Hp->VK->Prop) (to:TE):TE:=fun σ H Q=>to σ H fun x H1=>tyV K T x H1/\r x [] H1 Q
def tBM (K:PySem.W.Frag) (T:String) (r:V->List V->Hp->VK->Prop) (to:TE) (t:TA):TE:=fun σ H Q=>to σ H fun x H1=>tyV K T x H1/\t σ H1 fun xs H2=>r x xs H2 Q
variable {o e:Expr} {es:List Expr} {to:TE} {t:TA} {name:Str} {apos mO:Pos} {T id:String} {r:V->List V->Hp->VK->Prop}
theorem tq (pa:PlainAttrs T) (slot:Slot T name id) (hty:typeOf (.builtin id)=pure (.type "method_descriptor")) (hm:MtR X id r) (ho:PE X o to)
  (wa:attributeBase o name X.env (eval o X.env)=eval o X.env:=by rfl) (v8:(apos.endLine==mO.line)=true:=by rfl):PE X (.Call (.Attribute o name apos) [] [] mO) (V0 X.K T r to):=by
 intro pins s σ H Q I h;refine wpAny_Call_method0_late wa v8 (thn (ho pins s σ H _ I h) fun v s1 ⟨x,H1,I1,r1,ty,q1⟩=>?_)
 obtain⟨h1,h2⟩:=ML I1 r1 ty;exact⟨T,id,pa,slot,hty,h1,h2,bD rfl (PySem.evalArgs_none (hm pins s1 σ H1 x [] v [] Q I1 r1 .nil q1))⟩
theorem jJ (pa:PlainAttrs T) (slot:Slot T name id) (hty:typeOf (.builtin id)=pure (.type "method_descriptor")) (hm:MtR X id r) (ho:PE X o to) (ha:PA X (e::es) t)
  (wa:attributeBase o name X.env (eval o X.env)=eval o X.env:=by rfl)
  (hfew:((backTo mO (starEach (e::es) X.env)).all (fun x=>!x.1)&&(backToKw mO (keywordEach [] X.env)).all (fun x=>x.1.isSome)
   &&decide ((e::es).length+([]:List Keyword).length+(if ([]:List Keyword).isEmpty then 0 else 1)<30))=true:=by rfl)
  (v8:(apos.endLine==mO.line)=true:=by rfl) (hs:starEach (e::es) X.env=(false,eval e X.env)::starEach es X.env:=by rfl) (hplain:(backTo mO (starEach es X.env)).any (·.1)=false:=by rfl):
  PE X (.Call (.Attribute o name apos) (e::es) [] mO) (tBM X.K T r to t):=by
 intro pins s σ H Q I h;refine wpAny_Call_method_late wa hfew v8 rfl (thn (ho pins s σ H _ I h) fun v s1 ⟨x,H1,I1,r1,ty,q1⟩=>?_)
 obtain⟨h1,h2⟩:=ML I1 r1 ty;refine⟨T,id,pa,slot,hty,h1,h2,?_⟩;have hA:=ha mO pins s1 σ H1 _ I1 q1;rw[hs]at hA⊢;refine bD (by show (false||(backTo mO (starEach es X.env)).any (·.1))=false;rw[hplain]<;>rfl) (b9 ?_)
 exact thn hA fun us s2 ⟨vs,H2,I2,r2,q2⟩=>hm pins s2 σ H2 x vs v us Q I2 r1 r2 q2
end
def MtM (X:Cx) (id:String) (r:V->List V->Hp->VK->Prop):Prop:=
 ∀(pins:List (Addr×Obj)) (s:Shared) (σ:St) (H:Hp) (x:V) (xs:List V) (v:Value) (us:List Value) (Q:VK),Inv X pins σ H s->RelV x v->Vals xs us->r x xs H Q->
  wpAny (model X.prog X.w) X.A (call (.builtin id) (v::us)) (EP X pins σ Q) X.xe s
theorem Vals.one:∀{x:V} {us:List Value},Vals [x] us->∃u,us= [u]/\RelV x u
 |_,_,.cons r .nil=>⟨_,rfl,r⟩
theorem Vals.zero:∀{us:List Value},Vals [] us->us= []
 |_,.nil=>rfl
theorem Vals.dropLast (h:Vals xs us):Vals xs.dropLast us.dropLast:=by
 induction h with
 |nil=>exact .nil
 |cons r t ih=>
  cases t with
  |nil=>exact .nil
  |cons q t'=>exact .cons r ih
theorem Vals.reverse {xs:List V} {us:List Value} (h:Vals xs us):Vals xs.reverse us.reverse:=by
 induction h with
 |nil=>exact .nil
 |cons r t ih=>rw[aX,aX];exact Vals.append ih (.cons r .nil)
theorem HC {α:Type} (l:List α):l.eraseIdx (l.length-1)=l.dropLast:=by
 induction l with
 |nil=>rfl
 |cons a r ih=>
  cases r with
  |nil=>rfl
  |cons b r=>
   have e:(a::b::r).length-1=((b::r).length-1)+1:=by
    have h1:(a::b::r).length=r.length+2:=rfl;have h2:(b::r).length=r.length+1:=rfl;omega
   rw[e,List.eraseIdx_cons_succ,ih]
   all_goals rfl
section
variable {X:Cx} {pins:List (Addr×Obj)} {σ:St} {H:Hp} {s:Shared} {l b:Addr} {xs ys zs:List V}
theorem Inv.Pt {eE its':List Value} {n:Nat} {f:Array Value->Array Value} {t':Nat} (I:Inv X pins σ H s) (hH:H l=some (.lst xs))
  (e:s.heap.get? l=some {cls:=.type "list",data:=.seq eE.toArray n}) (hf:f eE.toArray=its'.toArray) (hv:Vals ys its') (hz:ys.length<=sizeLine):
  Inv X pins σ (upd H l (.lst ys)) {s with heap:=s.heap.update l (Obj.mapSeq f),toks:=t'}:=by
 have q:=PySem.IsL.update e f;rw[hf]at q;refine I.write (x:=l) (e:=l) (by rw[hH];exact trivial) (.inl rfl) (fun b' u hb hu=>(Heap.get?_update_other s.heap (Obj.mapSeq f) (cw hb)).trans hu) ⟨_,q⟩ ?_
 exact⟨hz,its',_,hv,q⟩
theorem Inv.V1 (I:Inv X pins σ H s) (hv:Vals ys eE) (hz:ys.length<=sizeLine):
  Inv X pins σ (upd H s.heap.objs.size (.lst ys)) {s with heap:=s.heap.push {cls:=.type "list",data:=.seq eE.toArray},toks:=t'}:=
 I.laid (fun _ _ q=>aK _ q) (au _) ⟨hz,eE,0,hv,a8 _ rfl⟩
theorem Inv.fresh (I:Inv X pins σ H s):H s.heap.objs.size=none:=I.hok.fresh (au _)
theorem Inv.HD (I:Inv X pins σ H s) (hH:H l=some (.lst xs)):xs.length<=sizeLine/\∃(eE:List Value) (n:Nat),Vals xs eE/\xs.length=eE.length/\s.heap.get? l=some {cls:=.type "list",data:=.seq eE.toArray n}:=by
 obtain⟨z,eE,n,r,e⟩:=I.hok l _ hH;exact⟨z,eE,n,r,r.length,e⟩
theorem MM {n:Nat} (h:n<=sizeLine):Builtin.List.listTooLong n=false:=by
 unfold Builtin.List.listTooLong;exact ao (by omega)
end
section
variable {X:Cx}
inductive Kh (x:V) (vs:List V) (H:Hp) (Q:VK):Prop
 |mk:∀l xs y,x= .ref l->vs= [y]->H l=some (.lst xs)->xs.length<sizeLine->Q .non (upd H l (.lst (xs++ [y])))->Kh x vs H Q
theorem fh:MtM X "list.append" Kh:=by
 intro pins s σ H x vs v us Q I rx rv h;obtain⟨l,xs,y,rfl,rfl,hH,hz,q⟩:=h;cases rx;obtain⟨u,rfl,ru⟩:=rv.one;obtain⟨z,eE,n,r,hl,e⟩:=I.HD hH;refine call_meets F.slot_list_append ⟨_,e,rfl⟩ F.entry_list_append (F.args_list_append_2 _ _) (PySem.list_append l eE.toArray n u (by rw[aL];omega)) ⟨e,?_⟩
 refine⟨.non,_,I.Pt (its':=eE++ [u]) hH e (by simp) (r.append (.cons ru .nil)) ?_,rfl,q⟩
 rw[List.length_append,bP];omega
inductive Ki (x:V) (vs:List V) (H:Hp) (Q:VK):Prop
 |mk:∀l b xs zs,x= .ref l->vs= [.ref b]->H l=some (.lst xs)->H b=some (.lst zs)->xs.length+zs.length<=sizeLine->Q .non (upd H l (.lst (xs++zs)))->Ki x vs H Q
theorem oE:MtM X "list.extend" Ki:=by
 intro pins s σ H x vs v us Q I rx rv h;obtain⟨l,b,xs,zs,rfl,rfl,hH,hB,hz,q⟩:=h;cases rx;obtain⟨u,rfl,ru⟩:=rv.one;cases ru;obtain⟨z,eE,n,r,hl,e⟩:=I.HD hH;obtain⟨z2,its2,n2,r2,hl2,e2⟩:=I.HD hB;have hsz:eE.toArray.size+its2.toArray.size<=sizeLine:=by rw[aL,aL];omega
 have hlong:¬(!eE.toArray.isEmpty&&Builtin.List.listTooLong (eE.toArray.size+its2.toArray.size))=true:=by
  rw[MM hsz,Xu];exact aN
 refine call_meets F.slot_list_extend ⟨_,e,rfl⟩ F.entry_list_extend (F.args_list_extend_2 _ _)
  (AutoSeq1.list_extend_list_list_0 l eE.toArray n b its2.toArray n2 hlong (by rw[aL];omega) (by omega)) ⟨e,e2,?_⟩
 refine⟨.non,_,I.Pt (its':=eE++its2) hH e (by simp) (r.append r2) ?_,rfl,q⟩
 rw[List.length_append];omega
inductive UW (x:V) (vs:List V) (H:Hp) (Q:VK):Prop
 |mk:∀l xs y,x= .ref l->vs= []->H l=some (.lst xs)->xs[xs.length-1]?=some y->Q y (upd H l (.lst xs.dropLast))->UW x vs H Q
theorem wj:MtM X "list.pop" UW:=by
 intro pins s σ H x vs v us Q I rx rv h;obtain⟨l,xs,y,rfl,rfl,hH,hy,q⟩:=h;cases rx;have hus:=rv.zero;subst hus;obtain⟨z,eE,n,r,hl,e⟩:=I.HD hH;obtain⟨u,hu,ru⟩:=r.get hy;have hy':eE.toArray[eE.toArray.size-1]?=some u:=by
  show eE.toArray[eE.length-1]?=some u;rw[<-cz,<-hl];exact hu
 refine call_meets F.slot_list_pop ⟨_,e,rfl⟩ F.entry_list_pop (F.args_list_pop_1 _) (MeetsSeq.list_pop_last l eE.toArray n u hy' (by rw[aL];omega)) ⟨e,?_⟩
 refine⟨y,_,I.Pt (its':=eE.dropLast) hH e ?_ r.dropLast ?_,ru,q⟩
 .show eE.toArray.eraseIdxIfInBounds (eE.toArray.size-1)=eE.dropLast.toArray;rw[aL,List.eraseIdxIfInBounds_toArray,HC]
 .rw[List.length_dropLast];omega
def MN:V->List V->Hp->VK->Prop:=fun x vs H Q=>∃l xs,x= .ref l/\vs= []/\H l=some (.lst xs)/\Q .non (upd H l (.lst xs.reverse))
theorem HE:MtM X "list.reverse" MN:=by
 intro pins s σ H x vs v us Q I rx rv h;obtain⟨l,xs,rfl,rfl,hH,q⟩:=h;cases rx;have hus:=rv.zero;subst hus;obtain⟨z,eE,n,r,hl,e⟩:=I.HD hH;refine call_meets F.slot_list_reverse ⟨_,e,rfl⟩ F.entry_list_reverse (F.args_list_reverse_1 _) (AutoSeq1.list_reverse_list_0 l eE.toArray n (by rw[aL];omega)) ⟨e,?_⟩
 refine⟨.non,_,I.Pt (its':=eE.reverse) hH e (by simp) r.reverse ?_,rfl,q⟩
 rw[aB];omega
inductive UX (x:V) (y:V) (H:Hp) (Q:VK):Prop
 |mk:∀l b xs zs,x= .ref l->y= .ref b->H l=some (.lst xs)->H b=some (.lst zs)->xs.length+zs.length<=sizeLine->(∀p,H p=none->Q (.ref p) (upd H p (.lst (xs++zs))))->UX x y H Q
theorem MO:OpR X (binaryOp .Add) UX:=by
 intro pins s σ H x y v u Q I rx ry h;obtain⟨l,b,xs,zs,rfl,rfl,hH,hB,hz,q⟩:=h;cases rx;cases ry;obtain⟨z,eE,n,r,hl,e⟩:=I.HD hH;obtain⟨z2,its2,n2,r2,hl2,e2⟩:=I.HD hB;refine PySem.P.add_list e e2 ?_ (by rw[aL,aL];omega)
 have ea:eE.toArray++its2.toArray=(eE++its2).toArray:=by simp
 rw[ea];exact⟨.ref _,_,I.V1 (t':=s.toks) (r.append r2) (by rw[List.length_append];omega),rfl,q _ I.fresh⟩
end
section
variable {prog:Program} {w:World} {A:Around} {E:Value->Shared->Prop} {s:Shared}
set_option maxRecDepth 100000 in
end
section
variable {X:Cx}
end
theorem Vals.bls:∀{bs:List Bool} {us:List Value},Vals (bs.map V.bl) us->us=bs.map Value.bool
 | [],us,h=>by
  rw[Xk]at h;cases h;rfl
 |b::bs,us,h=>by
  rw[bh]at h;cases h with
  |cons r t=>
   cases r;rw[Vals.bls t,bh]
theorem Vals.UY {a:Addr} {us:List Value} (r:Vals [V.ref a] us):us= [Value.ref a]:=by
 cases r with
 |cons r t=>
  cases t;cases r;rfl
section
variable {prog:Program} {w:World} {A:Around} {E:Value->Shared->Prop} {s:Shared} {l:Addr} {eE:List Value} {ns:List Int} {Q:Value->Shared->Prop}
end
section
variable {X:Cx}
end
section
variable {X:Cx}
end
section
variable {X:Cx}
end
theorem Fm {prog:Program} {w:World} {A:Around} {E:Value->Shared->Prop} {s:Shared} {l:Addr} {items:Array Value} {Q:Value->Shared->Prop} (hl:s.heap.IsList l items)
  (h:∀s₂:Shared,s₂={s with heap:=s.heap.push {cls:=.type "list_iterator",data:=.fields #[.ref l,.int 0 0]}}->
   (s₂.heap.IsListIter s.heap.objs.size l 0/\s₂.heap.IsList l items)->l≠s.heap.objs.size->Q (.ref s.heap.objs.size) s₂):wpAny (model prog w) A (pyIter (.ref l)) Q E s:=by
 have fH:l<s.heap.objs.size:=by obtain⟨_,e,_⟩:=hl;exact aM e
 exact wpAny_pyIter_list hl (h _ rfl ⟨⟨_,a8 _ rfl,rfl,rfl⟩,hl.push _⟩ (bq fH))
theorem xV {prog:Program} {w:World} {A:Around} {bs:List Bool} {eE:List Value} (e:eE=bs.map Value.bool):
  TruthOf prog w A (fun i v=>eE.toArray[i]?=some v) (fun i=>bs.getD i false):=fun i v s Q E hv hq=>by
 have hv':eE[i]?=some v:=by simpa using hv
 rw[e,aF]at hv';obtain⟨b,hb,rfl⟩:=bc.mp hv';have hg:bs.getD i false=b:=by rw[ah,hb]<;>rfl
 have hq':Q (bs.getD i false) s:=hq;rw[hg]at hq';exact bM hq'
theorem any_range:∀bs:List Bool,(List.range bs.length).any (fun i=>bs.getD i false)=bs.any id
 | []=>rfl
 |b::bs=>by
  rw[aG,XM,cD,List.any_map,cD,<-any_range bs]
  all_goals rfl
theorem all_range:∀bs:List Bool,(List.range bs.length).all (fun i=>bs.getD i false)=bs.all id
 | []=>rfl
 |b::bs=>by
  rw[aG,XM,cC,List.all_map,cC,<-all_range bs]
  all_goals rfl
section
variable {X:Cx}
def V2 (K:PySem.W.Frag):List V->Hp->VK->Prop:=fun vs H Q=>∃(a:Addr) (bs:List Bool),vs= [V.ref a]/\SqL K H a (bs.map V.bl)/\Q (.bl (bs.any id)) H
def V3 (K:PySem.W.Frag):List V->Hp->VK->Prop:=fun vs H Q=>∃(a:Addr) (bs:List Bool),vs= [V.ref a]/\SqL K H a (bs.map V.bl)/\Q (.bl (bs.all id)) H
theorem Sy (hc:X.calm=true):nN X (.builtin "any") (V2 X.K):=by
 intro pins s σ H vs us Q I r h;obtain⟨a,bs,rfl,hs,q⟩:=h;obtain⟨eE,rv,hl,_⟩:=I.list hs;rw[Vals.UY r];have hb:=rv.bls;refine call_any_walk (Fm hl.isList fun s₂ e2 st nM=>?_)
 subst e2;refine⟨_,_,_,_,_,_,_,rfl,Walks.list (A:=X.A.in1) (I.ok.hd hc) _ a nM eE.toArray,st,xV hb,fun h' tk hk=>?_⟩
 refine⟨.bl _,H,I.kept fun b o eo=>hk b o (fun hmem=>?_) (aK _ eo),?_,q⟩
 .rcases ag.mp hmem with e1|hmem
  .exact absurd (e1▸aM eo) (bG _)
  .cases hmem
 .show Value.bool _=Value.bool _;rw[<-any_range,hb,aL,List.length_map]
theorem Sz (hc:X.calm=true):nN X (.builtin "all") (V3 X.K):=by
 intro pins s σ H vs us Q I r h;obtain⟨a,bs,rfl,hs,q⟩:=h;obtain⟨eE,rv,hl,_⟩:=I.list hs;rw[Vals.UY r];have hb:=rv.bls;refine call_all_walk (Fm hl.isList fun s₂ e2 st nM=>?_)
 subst e2;refine⟨_,_,_,_,_,_,_,rfl,Walks.list (A:=X.A.in1) (I.ok.hd hc) _ a nM eE.toArray,st,xV hb,fun h' tk hk=>?_⟩
 refine⟨.bl _,H,I.kept fun b o eo=>hk b o (fun hmem=>?_) (aK _ eo),?_,q⟩
 .rcases ag.mp hmem with e1|hmem
  .exact absurd (e1▸aM eo) (bG _)
  .cases hmem
 .show Value.bool _=Value.bool _;rw[<-all_range,hb,aL,List.length_map]
end
mutual
inductive Dp (K:PySem.W.Frag) (H:Hp):V->PyData->Prop
 |non:Dp K H .non .none
 |bl (b:Bool):Dp K H (.bl b) (.bool b)
 |int (i:Int):Dp K H (.int i) (.int i)
 |str (x:Str):Dp K H (.str x) (.str x)
 |lst {a:Addr} {xs:List V} {ds:List PyData}:SqL K H a xs->CC K H xs ds->Dp K H (.ref a) (.list ds)
 |tup {a:Addr} {xs:List V} {ds:List PyData}:SqT K H a xs->CC K H xs ds->Dp K H (.ref a) (.tuple ds)
inductive CC (K:PySem.W.Frag) (H:Hp):List V->List PyData->Prop
 |nil:CC K H [] []
 |cons {v:V} {vs:List V} {d:PyData} {ds:List PyData}:Dp K H v d->CC K H vs ds->CC K H (v::vs) (d::ds)
end
section
variable {X:Cx} {pins:List (Addr×Obj)} {σ:St} {H:Hp} {s:Shared}
mutual
theorem Dp.reads (I:Inv X pins σ H s):∀(d:PyData) (v:V) (u:Value),Dp X.K H v d->RelV v u->∃as,Reads s.heap u d as
 | .none,_,_,h,r=>by
  cases h;cases r;exact⟨_,Reads.none⟩
 | .bool b,_,_,h,r=>by
  cases h;cases r;exact⟨_,Reads.bool b⟩
 | .int i,_,_,h,r=>by
  cases h;obtain⟨t,rfl⟩:=r;exact⟨_,Reads.int i t⟩
 | .str x,_,_,h,r=>by
  cases h;obtain⟨t,rfl⟩:=r;exact⟨_,Reads.str x t⟩
 | .list ds,_,_,h,r=>by
  cases h with
  |lst hs ha=>
   cases r;obtain⟨eE,rv,⟨o,n,ho,hc,_,hd⟩,_⟩:=I.list hs;obtain⟨as,hr⟩:=Dp.readsAll I ds _ eE ha rv;exact⟨_,Reads.list ho hc hd hr⟩
 | .tuple ds,_,_,h,r=>by
  cases h with
  |tup hs ha=>
   cases r;obtain⟨eE,rv,⟨o,ho,hc,n,hd⟩,_⟩:=I.tuple hs;obtain⟨as,hr⟩:=Dp.readsAll I ds _ eE ha rv;exact⟨_,Reads.tuple ho hc hd hr⟩
 | .dict _,_,_,h,_=>by cases h
theorem Dp.readsAll (I:Inv X pins σ H s):∀(ds:List PyData) (vs:List V) (us:List Value),CC X.K H vs ds->Vals vs us->∃as,ReadsAll s.heap us ds as
 | [],_,_,h,r=>by
  cases h;cases r;exact⟨_,ReadsAll.nil⟩
 |d::ds,_,_,h,r=>by
  cases h with
  |cons h1 h2=>
   cases r with
   |cons r1 r2=>
    obtain⟨as,q1⟩:=Dp.reads I d _ _ h1 r1;obtain⟨bs,q2⟩:=Dp.readsAll I ds _ _ h2 r2;exact⟨_,ReadsAll.cons q1 q2⟩
end
end
section
variable {X:Cx}
inductive UZ (K:PySem.W.Frag) (x:V) (y:V) (H:Hp) (Q:VK):Prop
 |mk:∀d e,Dp K H x d->Dp K H y e->SeqAt.shaped d=true->SeqAt.shaped e=true->Q (.bl (PyData.eqv d e)) H->UZ K x y H Q
inductive U0 (K:PySem.W.Frag) (x:V) (y:V) (H:Hp) (Q:VK):Prop
 |mk:∀d e,Dp K H x d->Dp K H y e->SeqAt.shaped d=true->SeqAt.shaped e=true->Q (.bl (!PyData.eqv d e)) H->U0 K x y H Q
theorem Dn (hu:X.A.units+64<cLine):OpR X (compareOp .Eq) (UZ X.K):=by
 intro pins s σ H x y v u Q I rx ry h;obtain⟨d,e,hd,he,sd,se,q⟩:=h;obtain⟨as,r1⟩:=Dp.reads I d x v hd rx;obtain⟨bs,r2⟩:=Dp.reads I e y u he ry;exact SeqAt.compareEq_shaped r1 r2 sd se hu ⟨.bl _,H,I,rfl,q⟩
theorem MP (hu:X.A.units+64<cLine):OpR X (compareOp .NotEq) (U0 X.K):=by
 intro pins s σ H x y v u Q I rx ry h;obtain⟨d,e,hd,he,sd,se,q⟩:=h;obtain⟨as,r1⟩:=Dp.reads I d x v hd rx;obtain⟨bs,r2⟩:=Dp.reads I e y u he ry;exact SeqAt.compareNe_shaped r1 r2 sd se hu ⟨.bl _,H,I,rfl,q⟩
end
abbrev MQ (h:Heap) (c:Addr) (v:Option Value):Prop:=h.IsCell c v
def V4 (scope sc:Scope):Scope:=
 {scope with names:=scope.names.map fun (n,k)=>if (k== .free&&sc.kind== .function&&sc.names.lookup n==some .cell)then (n,.cell)else (n,k)}
def fW (cells:List (Str×Addr)):List (Str×NameKind)->List (Str×Addr)->List (Str×Addr)
 | [],acc=>acc
 |(n,k)::r,acc=>if k== .free then fW cells r ((n,(cells.lookup n).getD 0)::acc)else fW cells r acc
theorem uQ (env:Env) (f:Str×NameKind->List (Str×Addr)->Sem (ForInStep (List (Str×Addr))))
  (hf:∀n k c,f (n,k) c=if k== .free then (do let a<-cellOf env n;pure (.yield ((n,a)::c)))else pure (.yield c)):
  ∀(names:List (Str×NameKind)) (acc:List (Str×Addr)),(∀y∈names,y.2= .free->∃c,env.cells.lookup y.1=some c)->forIn names acc f=pure (fW env.cells names acc)
 | [],acc,_=>by rw[List.forIn_nil];rfl
 |(n,k)::r,acc,h=>by
  rw[List.forIn_cons,hf];have ih:=fun acc=>uQ env f hf r acc fun y hy=>h y (ak _ hy)
  unfold fW;by_cases hk:(k==NameKind.free)=true
  .rw[aq hk,aq hk];obtain⟨c,hc⟩:=h (n,k) aC (by simpa using hk)
   have e:cellOf env n=pure c:=by unfold cellOf;rw[hc]
   rw[e];have e2:(env.cells.lookup n).getD 0=c:=by rw[hc];rfl
   rw[e2];exact ih _
  .rw[aj hk,aj hk];exact ih _
theorem HF (h:∀y∈scope.names,y.2= .free->∃c,env.cells.lookup y.1=some c):closureFor scope env=pure (fW env.cells scope.names []):=by
 simp only[closureFor];rw[uQ env _ (fun n k c=>rfl) scope.names [] h]
 rfl
theorem mem_lookup {α:Type}:∀{l:List (Str×α)} {n:Str} {c:α},(n,c)∈l->∃c',l.lookup n=some c'
 |(k,v)::r,n,c,h=>by
  rw[List.lookup_cons];cases hb:n==k with
  |true=>exact⟨_,rfl⟩
  |false=>
   rcases ag.mp h with e|h
   .cases e;simp at hb
   .exact mem_lookup h
theorem nO {cells:List (Str×Addr)}:∀{names:List (Str×NameKind)} {acc:List (Str×Addr)} {n:Str} {c:Addr},(n,c)∈fW cells names acc->(n,c)∈acc\/((n,.free)∈names/\c=(cells.lookup n).getD 0)
 | [],_,_,_,h=>.inl h
 |(m,k)::r,acc,n,c,h=>by
  unfold fW at h;split at h
  .rename_i hk
   have hk:k= .free:=by simpa using hk
   rcases nO h with h|⟨h1,h2⟩
   .rcases ag.mp h with e|h
    .cases e;exact .inr ⟨hk▸aC,rfl⟩
    .exact .inl h
   .exact .inr ⟨ak _ h1,h2⟩
  .rcases nO h with h|⟨h1,h2⟩
   .exact .inl h
   .exact .inr ⟨ak _ h1,h2⟩
theorem qR {cells:List (Str×Addr)}:∀{names:List (Str×NameKind)} {acc:List (Str×Addr)} {p:Str×Addr},p∈acc->p∈fW cells names acc
 | [],_,_,h=>h
 |(m,k)::r,acc,p,h=>by
  unfold fW;split
  .exact qR (ak _ h)
  .exact qR h
theorem qS {cells:List (Str×Addr)}:∀{names:List (Str×NameKind)} {acc:List (Str×Addr)} {n:Str},(n,.free)∈names->(n,(cells.lookup n).getD 0)∈fW cells names acc
 |(m,k)::r,acc,n,h=>by
  unfold fW;rcases ag.mp h with e|h
  .cases e;exact qR aC
  .split
   .exact qS h
   .exact qS h
theorem oF:∀{names:List (Str×NameKind)} {h:Heap} {acc:List (Str×Addr)} {x:Str} {c:Addr},(x,c)∈cellsFrom h.objs.size names acc->
  (x,c)∈acc\/((x,.cell)∈names/\h.objs.size<=c/\MQ (pushCells h names) c none)
 | [],_,_,_,_,h=>.inl h
 |(n,k)::r,h,acc,x,c,hm=>by
  unfold cellsFrom at hm;unfold pushCells;split at hm
  .rename_i hk
   rw[aq hk];have hk:k= .cell:=by simpa using hk
   rw[<-bE h {cls:=.type "cell",data:=.cell none}]at hm;rcases oF hm with hm|⟨h1,h2,h3⟩
   .rcases ag.mp hm with e|hm
    .cases e;exact .inr ⟨hk▸aC,au _,_,Xb r _ _ _ (a8 _ rfl),rfl⟩
    .exact .inl hm
   .rw[bE]at h2;exact .inr ⟨ak _ h1,bu h2,h3⟩
  .rename_i hk
   rw[aj hk];rcases oF hm with hm|⟨h1,h2,h3⟩
   .exact .inl hm
   .exact .inr ⟨ak _ h1,h2,h3⟩
theorem rY:∀{names:List (Str×NameKind)} {n:Nat} {acc:List (Str×Addr)} {p:Str×Addr},p∈acc->p∈cellsFrom n names acc
 | [],_,_,_,h=>h
 |(m,k)::r,n,acc,p,h=>by
  unfold cellsFrom;split
  .exact rY (ak _ h)
  .exact rY h
theorem wk:∀{names:List (Str×NameKind)} {n:Nat} {acc:List (Str×Addr)} {x:Str},(x,.cell)∈names->∃c,(x,c)∈cellsFrom n names acc
 |(m,k)::r,n,acc,x,h=>by
  unfold cellsFrom;rcases ag.mp h with e|h
  .cases e;exact⟨n,rY aC⟩
  .split
   .exact wk h
   .exact wk h
theorem wm:∀{names:List (Str×NameKind)} {h:Heap} {acc:List (Str×Addr)} {x y:Str} {c:Addr},(∀p∈acc,p.2<h.objs.size)->(∀x y c,(x,c)∈acc->(y,c)∈acc->x=y)->
  (x,c)∈cellsFrom h.objs.size names acc->(y,c)∈cellsFrom h.objs.size names acc->x=y
 | [],_,_,_,_,_,_,hi,h1,h2=>hi _ _ _ h1 h2
 |(n,k)::r,h,acc,x,y,c,hl,hi,h1,h2=>by
  unfold cellsFrom at h1 h2;split at h1
  .rename_i hk
   rw[aq hk]at h2;rw[<-bE h {cls:=.type "cell",data:=.cell none}]at h1 h2;refine wm (h:=h.push _) (fun p hp=>?_) (fun x y c a b=>?_) h1 h2
   .rw[bE];rcases ag.mp hp with rfl|hp
    .exact bt _
    .exact Xz (hl p hp)
   .rcases ag.mp a with e|a<;>rcases ag.mp b with e'|b
    .cases e;cases e';rfl
    .cases e;exact absurd (hl _ b) (bG _)
    .cases e';exact absurd (hl _ a) (bG _)
    .exact hi _ _ _ a b
  .rename_i hk
   rw[aj hk]at h2;exact wm hl hi h1 h2
theorem Fn {M:Model} {A:Around} {E:Value->Shared->Prop} {s:Shared} {scope:Scope} {globals:Addr} {closure:List (Str×Addr)} {qual:Str} {func:Option Addr} {code:Value} {around:Env} {builtins:Addr} {Q:Env->Shared->Prop}
  (h:Q (newEnv scope s.heap.objs.size globals (cellsFrom (s.heap.objs.size+1) scope.names closure) qual func code (some around) builtins)
   {s with heap:=pushCells (s.heap.push {cls:=.type "dict",data:=.dict #[]}) scope.names}):
  wpAny M A (newFunctionEnv scope globals closure [] qual func code (some around) builtins) Q E s:=by
 simp only[newFunctionEnv,Option.isSome_some,bZ];refine aD (wpAny_alloc ?_);refine aD (wpAny_layCells _ (fun n k c=>rfl) scope.names closure _ _ ?_)
 rw[show ({s with heap:=s.heap.push {cls:=.type "dict",data:=.dict #[]}}:Shared).heap.objs.size=s.heap.objs.size+1 from bE ..]
 rw[List.forIn_nil];exact aD (aU (aU h))
theorem qT {sc:Scope}:∀{names:List (Str×NameKind)} {x:Str} {k:NameKind},
  (names.map fun (n,k)=>if (k==NameKind.free&&sc.kind== .function&&sc.names.lookup n==some .cell)then (n,NameKind.cell)else (n,k)).lookup x=some k->
  ∃k',names.lookup x=some k'/\(k=k'\/(k'= .free/\k= .cell))
 | [],_,_,h=>by simp at h
 |(n,k₀)::r,x,k,h=>by
  have ih:=@qT sc r x k;have h':List.lookup x ((if (k₀==NameKind.free&&sc.kind== .function&&sc.names.lookup n==some .cell)=true then (n,NameKind.cell)else (n,k₀))::(r.map _))=some k:=h
  cases hx:x==n with
  |true=>
   simp only[List.lookup_cons,hx];by_cases hc:(k₀==NameKind.free&&sc.kind== .function&&sc.names.lookup n==some .cell)=true
   .rw[aq hc]at h';simp only[List.lookup_cons,hx]at h';cases h';simp only[aH,cA]at hc;exact⟨k₀,rfl,.inr ⟨hc.1.1,rfl⟩⟩
   .rw[aj hc]at h';simp only[List.lookup_cons,hx]at h';cases h';exact⟨_,rfl,.inl rfl⟩
  |false=>
   simp only[List.lookup_cons,hx];by_cases hc:(k₀==NameKind.free&&sc.kind== .function&&sc.names.lookup n==some .cell)=true
   .rw[aq hc]at h';simp only[List.lookup_cons,hx]at h';exact ih h'
   .rw[aj hc]at h';simp only[List.lookup_cons,hx]at h';exact ih h'
theorem oG {sc:Scope}:∀{names:List (Str×NameKind)} {x:Str} {k:NameKind},k≠ .free->names.lookup x=some k->
  (names.map fun (n,k)=>if (k==NameKind.free&&sc.kind== .function&&sc.names.lookup n==some .cell)then (n,NameKind.cell)else (n,k)).lookup x=some k
 | [],_,_,_,h=>by simp at h
 |(n,k₀)::r,x,k,hk,h=>by
  have ih:=@oG sc r x k hk;show List.lookup x ((if (k₀==NameKind.free&&sc.kind== .function&&sc.names.lookup n==some .cell)=true then (n,NameKind.cell)else (n,k₀))::(r.map _))=some k
  cases hx:x==n with
  |true=>
   simp only[List.lookup_cons,hx]at h;cases h;have:¬(k₀==NameKind.free&&sc.kind== .function&&sc.names.lookup n==some .cell)=true:=by simp[hk]
   rw[aj this];simp only[List.lookup_cons,hx]
  |false=>
   simp only[List.lookup_cons,hx]at h;by_cases hc:(k₀==NameKind.free&&sc.kind== .function&&sc.names.lookup n==some .cell)=true
   .rw[aq hc];simp only[List.lookup_cons,hx];exact ih h
   .rw[aj hc];simp only[List.lookup_cons,hx];exact ih h
structure Kj (N:List Str) (sc scope:Scope) (own:List (Str×Nat)):Prop where
 kind:scope.kind= .function
 uniq:∀y∈scope.names,scope.names.lookup y.1=some y.2
 ix:∀p∈own,N[p.2]?=some p.1
 free:∀y∈scope.names,y.2= .free->sc.names.lookup y.1=some .cell\/sc.names.lookup y.1=some .free
 own:∀y∈scope.names,y.2= .local\/y.2= .cell->y.1∈own.map (·.1)\/y.1∉N
def wipe (σ:St):List Nat->St
 | []=>σ
 |v::vs=>(wipe σ vs).set v none
theorem qU (σ:St):∀vs:List Nat,(wipe σ vs).length=σ.length
 | []=>rfl
 |v::vs=>by unfold wipe;rw[bF,qU σ vs]
theorem wo:∀{vs:List Nat},(wipe σ vs)[i]?=some (some x)->σ[i]?=some (some x)/\i∉vs
 | [],h=>⟨h,by simp⟩
 |v::vs,h=>by
  unfold wipe at h;by_cases hi:v=i
  .subst hi;by_cases hv:v<(wipe σ vs).length
   .rw[bL hv]at h;cases h
   .rw[bH (by simpa using hv)]at h;cases h
  .rw[cI hi]at h;obtain⟨h1,h2⟩:=wo h;exact⟨h1,by simp only[ag,X3];exact⟨fun e=>hi e.symm,h2⟩⟩
abbrev Cx.blk (X:Cx) (s:Shared) (H:Hp) (scope:Scope) (kE:Env) (fp:List Addr):Cx:={X with s_0:=s,H_0:=H,env:=kE,outer:=X.stack,ex:=fp,fn:=fun x=>scope.names.lookup x==some .cell,pn:=[],xe:=fun _ _=>False}
section
variable {X:Cx} {pins:List (Addr×Obj)} {σ:St} {H:Hp} {s:Shared}
theorem Fo {scope:Scope} {own:List (Str×Nat)} {fp:List Addr} (I:Inv X pins σ H s) (ok:Kj X.N X.env.scope scope own) (hN:X.N.Nodup) (hfp:∀b∈fp,yk X pins H b/\b<s.heap.objs.size):
  Inv (X.blk s H scope (compEnvC scope (cellsFrom (s.heap.objs.size+1) scope.names (fW X.env.cells scope.names [])) s.heap.objs.size X.env) fp) [] (wipe σ (own.map (·.2))) H {s with heap:=pushCells (s.heap.push {cls:=.type "dict",data:=.dict #[]}) scope.names}:=by
 have hfree:∀y∈scope.names,y.2= .free->∃c,X.env.cells.lookup y.1=some c:=fun y hy e=>by
  rcases ok.free y hy e with k|k
  .exact I.ok.has _ (.inl k)
  .exact I.ok.has _ (.inr k)
 generalize hcenv:compEnvC scope (cellsFrom (s.heap.objs.size+1) scope.names (fW X.env.cells scope.names [])) s.heap.objs.size X.env=kE;have kp:∀b o,s.heap.get? b=some o->(pushCells (s.heap.push {cls:=.type "dict",data:=.dict #[]}) scope.names).get? b=some o:=fun b o e=>Xb _ _ _ _ (aK _ e)
 have hL:kE.locals=s.heap.objs.size:=by rw[<-hcenv];rfl
 have hcl:kE.cells=cellsFrom (s.heap.objs.size+1) scope.names (fW X.env.cells scope.names []):=by rw[<-hcenv];rfl
 have hsc:kE.scope=V4 scope X.env.scope:=by rw[<-hcenv];rfl
 rw[<-bE s.heap {cls:=.type "dict",data:=.dict #[]}]at hcl;have cm:∀{y c},(y,c)∈fW X.env.cells scope.names []->X.env.cells.lookup y=some c/\c<s.heap.objs.size:=fun {y c} hm=>by
  rcases nO hm with hm|⟨h1,rfl⟩
  .cases hm
  .obtain⟨c,hc⟩:=hfree _ h1 rfl;rw[hc];obtain⟨w,z⟩:=I.cell _ _ hc;exact⟨rfl,z.lt⟩
 have mem:∀{y c},kE.cells.lookup y=some c->(X.env.cells.lookup y=some c/\c<s.heap.objs.size)\/(s.heap.objs.size+1<=c/\MQ (pushCells (s.heap.push {cls:=.type "dict",data:=.dict #[]}) scope.names) c none):=fun {y c} e=>by
  rw[hcl]at e;rcases oF (PySem.mem_of_lookup e)with hm|⟨_,h2,h3⟩
  .exact .inl (cm hm)
  .rw[bE]at h2;exact .inr ⟨h2,h3⟩
 have look:∀{y},scope.names.lookup y=some .free->∃c,kE.cells.lookup y=some c/\X.env.cells.lookup y=some c:=fun {y} hl=>by
  have hy:(y,NameKind.free)∈scope.names:=PySem.mem_of_lookup hl;obtain⟨c',e'⟩:=mem_lookup (rY (names:=scope.names) (n:=(s.heap.push {cls:=.type "dict",data:=.dict #[]}).objs.size) (qS (cells:=X.env.cells) (acc:=[]) hy));rw[<-hcl]at e';refine⟨c',e',?_⟩;rw[hcl]at e';rcases oF (PySem.mem_of_lookup e')with hm|⟨h1,_,_⟩
  .exact(cm hm).1
  .have:=ok.uniq _ h1
   rw[hl]at this;cases this
 have okB:(X.blk s H scope kE fp).Ok:=by
  refine⟨I.ok.mod,by show kE.scope.kind=_;rw[hsc];exact ok.kind,by show kE.globals=_;rw[<-hcenv];exact I.ok.glob,by show kE.builtins=_;rw[<-hcenv];exact I.ok.blt,by show s.heap.objs.size<=kE.locals;rw[hL];exact au _,
   fun y z c e1 e2=>?_,fun y hy=>?_,fun y c z e=>?_,I.ok.hd,I.ok.frames,.inl rfl,fun b hb=>⟨?_,fun y c e z=>?_⟩,I.bs,ai I.ok.bsz I.sz,fun b o e hb=>?_,fun b hb z=>?_,I.stack,I.J5⟩
  .have e1:kE.cells.lookup y=some c:=e1;have e2:kE.cells.lookup z=some c:=e2;rw[hcl]at e1 e2;refine wm (fun p hp=>?_) (fun y z c a b=>I.ok.inj y z c (cm a).1 (cm b).1) (PySem.mem_of_lookup e1) (PySem.mem_of_lookup e2)
   rw[bE];exact Xz (cm (y:=p.1) (c:=p.2) hp).2
  .show∃c,kE.cells.lookup y=some c
   have key:∀k,kE.kindOf y=some k->(k= .cell\/k= .free)->∃c,kE.cells.lookup y=some c:=fun k hk hk'=>by
    unfold Env.kindOf at hk;rw[hsc]at hk;obtain⟨k',e,r⟩:=qT hk;have:k'= .cell\/k'= .free:=by
     rcases r with rfl|⟨rfl,_⟩
     .exact hk'
     .exact .inr rfl
    rcases this with rfl|rfl
    .obtain⟨c,hm⟩:=wk (n:=(s.heap.push {cls:=.type "dict",data:=.dict #[]}).objs.size) (acc:=fW X.env.cells scope.names []) (PySem.mem_of_lookup e);obtain⟨c',e'⟩:=mem_lookup hm;exact⟨c',by rw[hcl];exact e'⟩
    .obtain⟨c,h1,_⟩:=look e;exact⟨c,h1⟩
   rcases hy with hy|hy
   .exact key _ hy (.inl rfl)
   .exact key _ hy (.inr rfl)
  .have z:(scope.names.lookup y==some NameKind.cell)=true:=z;have z:scope.names.lookup y=some .cell:=by simpa using z
   have e:kE.cells.lookup y=some c:=e;rw[hcl]at e;rcases oF (PySem.mem_of_lookup e)with hm|⟨_,h2,_⟩
   .rcases nO hm with hm|⟨h1,_⟩
    .cases hm
    .have q:=ok.uniq _ h1;rw[z]at q;cases q
   .rw[bE]at h2;exact bu h2
  .show b≠kE.locals;rw[hL];exact bq (hfp b hb).2
  .have e:kE.cells.lookup y=some c:=e;rcases mem e with⟨h1,_⟩|⟨h1,_⟩
   .exact(hfp b hb).1.2.2.2.2.1 y c h1 z
   .have h2:s.heap.objs.size+1<=b:=by rw[<-z];exact h1
    exact absurd (aR (hfp b hb).2 (bu h2)) (bG _)
  .rcases(hfp b hb).1.2.2.2.1 with z|z
   .exact I.ok.Mq b o e z
   .exact absurd (aR (aM e) (ai I.ok.bsz z)) (bG _)
  .rcases ag.mp (I.Hk b z)with z|z
   .exact(hfp b hb).1.2.1 z
   .exact(hfp b hb).1.2.2.1 z
 refine⟨okB,rfl,I.bare,Un.kept kp,⟨fun _=>none,?_,fun i y av e1 e2 e3=>?_⟩,fun y c e=>?_,?_,fun y c e=>?_,fun p hp=>?_,I.hok.kept kp,by rw[qU];exact I.len⟩
 .show Heap.Ns _ kE.locals _;rw[hL];exact Heap.Ns.keeps (Heap.Ns.new ..) fun b o e=>Xb _ _ _ _ e
 .obtain⟨e2,nM⟩:=wo e2;have hfr:scope.names.lookup y=some .free/\(kE.kindOf y=some .cell\/kE.kindOf y=some .free):=by
   have key:∀k,kE.scope.names.lookup y=some k->k= .local\/k= .cell\/k= .free->scope.names.lookup y=some .free/\(kE.kindOf y=some .cell\/kE.kindOf y=some .free):=fun k hk hk'=>by
    have hk0:=hk;rw[hsc]at hk;obtain⟨k',e,r⟩:=qT hk;have no:¬(k'= .local\/k'= .cell):=fun hh=>by
     rcases ok.own _ (PySem.mem_of_lookup e) hh with e'|e'
     .obtain⟨p,hp,hpy⟩:=bx.mp e';have e3:=ok.ix p hp;have:p.1=y:=hpy;rw[this]at e3;exact nM (bx.mpr ⟨p,hp,zt hN e3 e1⟩)
     .exact e' (aP e1)
    rcases r with rfl|⟨rfl,rfl⟩
    .rcases hk' with rfl|rfl|rfl
     .exact absurd (.inl rfl) no
     .exact absurd (.inr rfl) no
     .exact⟨e,.inr hk0⟩
    .exact⟨e,.inl hk0⟩
   have e3:Vis kE.scope y:=e3;rcases e3 with e3|e3|e3
   .exact key _ e3 (.inl rfl)
   .exact key _ e3 (.inr (.inl rfl))
   .exact key _ e3 (.inr (.inr rfl))
  obtain⟨m,hn,hl⟩:=I.loc;have hvis:Vis X.env.scope y:=(ok.free _ (PySem.mem_of_lookup hfr.1) rfl).elim (fun k=>.inr (.inl k)) (fun k=>.inr (.inr k))
  obtain⟨w,r,q⟩:=hl i y av e1 e2 hvis;refine⟨w,r,.inr ⟨hfr.2,?_⟩⟩;obtain⟨c,h1,h2⟩:=look hfr.1;rcases q with⟨k,_⟩|⟨_,c',e',z⟩
  .have k:X.env.scope.names.lookup y=some .local:=k;rcases ok.free _ (PySem.mem_of_lookup hfr.1) rfl with k'|k'<;>rw[show X.env.scope.names.lookup y=_ from k']at k<;>cases k
  .rw[h2]at e';cases e';exact⟨c,h1,z.keeps kp⟩
 .have e:kE.cells.lookup y=some c:=e;rcases mem e with⟨h1,_⟩|⟨_,z⟩
  .obtain⟨w,z⟩:=I.cell y c h1;exact⟨w,z.keeps kp⟩
  .exact⟨_,z⟩
 .show H kE.locals=none;rw[hL];exact I.hok.fresh (au _)
 .have e:kE.cells.lookup y=some c:=e;rcases mem e with⟨h1,_⟩|⟨h1,_⟩
  .exact I.qJ y c h1
  .exact I.hok.fresh (bu h1)
 .exact absurd (show p∈([]:List (Addr×Obj))++ []from hp) (by simp)
theorem SA {E:Value->Shared->Prop} {Q:Value->Shared->Prop} (I:Inv X pins σ H s) (hD:H D=some (.lst xs)) (hz:xs.length<sizeLine) (r:RelV y v)
  (h:∀s',Inv X pins σ (upd H D (.lst (xs++ [y]))) s'->Q .none s'):wpAny (model X.prog X.w) X.A (call (.builtin "list.append") [.ref D,v]) Q E s:=by
 obtain⟨hz',eE,n,ri,e⟩:=I.hok D _ hD;have hl:=ri.length;refine append_at (hsz:=by rw[aL];omega) e fun h' sb ho'=>?_
 refine h {s with heap:=h'} (I.write (t':=s.toks) (by rw[hD];trivial) (.inl rfl) (fun b u hb q=>(sb.2 b hb).trans q) ⟨_,ho'⟩ ⟨by rw[List.length_append];exact hz,eE++ [v],n+1,ri.append (.cons r .nil),?_⟩)
 rw[ho'];simp
def PTs (X:Cx) (ifs:List Expr) (t:TT):Prop:=
 ∀(pins:List (Addr×Obj)) (s:Shared) (σ:St) (H:Hp) (Q:Bool->Hp->Prop),Inv X pins σ H s->t σ H Q->
  wpAny (model X.prog X.w) X.A (forIn ifs true fun c r=>if r=true then do let ok<-isTrue c X.env (eval c X.env);pure (ForInStep.yield ok)else pure (ForInStep.yield r)) (TP X pins σ Q) X.xe s
def Pu:TT:=fun _ H Q=>Q true H
theorem Pw:PTs X [] Pu:=fun _ _ _ H _ I h=>wpAny_tests_nil ⟨H,I,h⟩
end
theorem Lf {α:Type} {t:Sem α} {Q Q':α->Shared->Prop} {E:Value->Shared->Prop} (h:wpAny M A t Q (fun _ _=>False) s) (hQ:∀a s,Q a s->Q' a s):wpAny M A t Q' E s:=bW h hQ fun _ _ z=>False.elim z
theorem Dq {R:Result->Shared->Prop} {elt iter:Expr} {ifs:List Expr} {scope:Scope} {pos:Pos} {acc:Value} (I:Nat->Shared->Prop)
  (turn:∀n s,I n s->wpAny (model prog w) A (pyNext it) (fun r s₁=>match r with
   |none=>R (.ok .next) s₁
   |some v=>wpAny (model prog w) A (letOwnedTupleGo target it v) (fun _ s₁'=>wpAny (model prog w) A (assign target env v) (fun _ s₂=>
     wpAny (model prog w) A (forIn ifs true fun c r=>if r=true then do let ok<-isTrue c env (eval c env);pure (ForInStep.yield ok)else pure (ForInStep.yield r)) (fun ok s₃=>
      if ok=true then wpAny (model prog w) A (eval elt env) (fun x s₄=>
       wpAny (model prog w) A (call (.builtin "list.append") [acc,x]) (fun _ s₅=>∃m,m<n/\I m s₅) (notedBy (model prog w) A env fun e s'=>R (.error e) s') s₄) (notedBy (model prog w) A env fun e s'=>R (.error e) s') s₃
      else∃m,m<n/\I m s₃) (notedBy (model prog w) A env fun e s'=>R (.error e) s') s₂) (notedBy (model prog w) A env fun e s'=>R (.error e) s') s₁') (notedBy (model prog w) A env fun e s'=>R (.error e) s') s₁) (notedBy (model prog w) A env fun e s'=>R (.error e) s') s)
  (n:Nat) (h:I n s):
  codeAny (model prog w) A (.compLoop (.ListComp elt [⟨target,iter,ifs,0⟩] scope pos) 0 it acc env) R s:=by
 refine codeAny_loop rfl I (fun n s hI=>?_) n h
 show wpAny _ A ((compTurn (.ListComp elt [⟨target,iter,ifs,0⟩] scope pos) 0 it acc env).onRaise (fun x=>do noteFrame x env;theTreesLotGoes x)) _ _ s
 refine wpAny_noted ?_;rw[compTurn_list];refine aD (wpAny_standAt (aD (bW (turn n s hI) (fun r s₁ h₁=>?_) fun _ _ h'=>h')))
 cases r with
 |none=>exact aU h₁
 |some v=>
  refine aD (bW h₁ (fun _ s₁' h₁'=>?_) fun _ _ h'=>h')
  refine aD (bW h₁' (fun _ s₂ h₂=>aD (bW h₂ (fun ok s₃ h₃=>?_) fun _ _ h'=>h')) fun _ _ h'=>h')
  cases ok with
  |false=>exact aU ⟨rfl,h₃⟩
  |true=>
   exact aD (aD (bW h₃ (fun x s₄ h₄=>aD (bW h₄ (fun _ s₅ h₅=>aU (aU ⟨rfl,h₅⟩)) fun _ _ h'=>h')) fun _ _ h'=>h'))
section
variable {X:Cx}
def tLc (wi:TI) (g:TG) (tt:TT) (te:TE) (vs:List Nat):TE:=fun σ H Q=>wi σ H fun J H1=>∀D,H1 D=none->∃W:Nat->Nat->Hp->Prop,(∃m,W 0 m (upd H1 D (.lst [])))/\∀i m H,W i m H->
 (J.stop i H/\Q (.ref D) H)\/(J.go i H/\∃Nx:Hp->Prop,(∀H',Nx H'->∃m',m'<m/\W (i+1) m' H')/\∀x H',J.yld i H x H'->g x (wipe σ vs) H' fun σ2 H2=>wipe σ2 vs=wipe σ vs/\tt σ2 H2 fun b H3=>
  if b=true then te σ2 H3 fun y H4=>∃acc,H4 D=some (.lst acc)/\acc.length<sizeLine/\Nx (upd H4 D (.lst (acc++ [y])))else Nx H3)
theorem Px {pins:List (Addr×Obj)} {s:Shared} {σ:St} {H:Hp} {Q:VK} {elt tg iter:Expr} {ifs:List Expr} {scope:Scope} {own:List (Str×Nat)} {pos pos':Pos} {wi:TI} {g:TG} {tt:TT} {te:TE} {use:Option (Value->Sem Unit)} {Qf:Value->Shared->Prop}
  (hc:X.calm=true) (hN:X.N.Nodup) (I:Inv X pins σ H s) (hi:PI X tg iter wi) (ok:Kj X.N X.env.scope scope own)
  (hg:∀(s:Shared) (H:Hp) (C:Addr) (cl:List (Str×Addr)) (fp:List Addr),PG (X.blk s H scope (compEnvC scope cl C X.env) fp) tg g) (ht:∀(s:Shared) (H:Hp) (C:Addr) (cl:List (Str×Addr)) (fp:List Addr),PTs (X.blk s H scope (compEnvC scope cl C X.env) fp) ifs tt)
  (he:∀(s:Shared) (H:Hp) (C:Addr) (cl:List (Str×Addr)) (fp:List Addr),PE (X.blk s H scope (compEnvC scope cl C X.env) fp) elt te) (hs:∀x,foldedSetIterable iter X.env x=pure x)
  (h:tLc wi g tt te (own.map (·.2)) σ H Q)
  (hRR:∀D C s' m H',Inv X pins σ H' s'->Q (.ref D) H'->s'.heap.Ns C m->yk X pins H' C->compPost (model X.prog X.w) X.A X.xe use Qf (.ref D) C (.ok .next) s'):
  wpAny (model X.prog X.w) X.A (comprehension (.ListComp elt [⟨tg,iter,ifs,0⟩] scope pos) scope X.env pos' (newList []) false (eval iter X.env) use) Qf X.xe s:=by
 have hfree:∀y∈scope.names,y.2= .free->∃c,X.env.cells.lookup y.1=some c:=fun y hy e=>by
  rcases ok.free y hy e with k|k
  .exact I.ok.has _ (.inl k)
  .exact I.ok.has _ (.inr k)
 refine wpAny_comprehension_free (use:=use) rfl hs (HF hfree) ok.kind (fun y hy e=>by rw[ok.uniq y hy,e])
  (thn (hi pins s σ H _ I h) fun xv s1 hx=>thn hx fun itv s2 h2=>?_)
 obtain⟨it,fp,tn,J,H2,e,I2,T,st2,f2,q⟩:=h2;subst e;refine wpAny_newObj_type (Fn ?_) (by show 0<=sizeLine;decide)
 generalize hD:s2.heap.objs.size=D;have hDn:H2 D=none:=I2.hok.fresh (XT hD);obtain⟨W,⟨m0,w0⟩,turn⟩:=q D hDn;generalize hs3:({s2 with heap:=s2.heap.push {cls:=.type "list",data:=.seq ([]:List Value).toArray}}:Shared)=s3
 have I3:Inv X pins σ (upd H2 D (.lst [])) s3:=by
  rw[<-hs3];refine I2.laid (t':=s2.toks) (fun b o e=>aK _ e) (XT hD) ⟨aO _,[],0,.nil,?_⟩
  rw[<-hD];exact a8 _ rfl
 have h3:s3.heap=s2.heap.push {cls:=.type "list",data:=.seq ([]:List Value).toArray}:=by rw[<-hs3]
 have sz:∀b∈fp,b<s2.heap.objs.size:=fun b hb=>by
  obtain⟨o,e,_⟩:=T.obj _ _ st2 b hb;exact aM e
 have f3:∀b∈fp,yk X pins (upd H2 D (.lst [])) b/\b<s3.heap.objs.size:=fun b hb=>by
  have fH:=sz b hb;refine⟨⟨?_,(f2 b hb).2⟩,by rw[h3,bE];exact Xz fH⟩
  rw[cR (by rw[<-hD];exact bq fH)]
  exact(f2 b hb).1
 have st3:tn 0 s3.heap:=T.keep _ _ _ st2 fun b _ o e=>by rw[h3];exact aK _ e
 have I4:=Fo I3 ok hN f3;have pg:=hg s3 (upd H2 D (.lst [])) s3.heap.objs.size (cellsFrom (s3.heap.objs.size+1) scope.names (fW X.env.cells scope.names [])) fp;have pt:=ht s3 (upd H2 D (.lst [])) s3.heap.objs.size (cellsFrom (s3.heap.objs.size+1) scope.names (fW X.env.cells scope.names [])) fp;have pe:=he s3 (upd H2 D (.lst [])) s3.heap.objs.size (cellsFrom (s3.heap.objs.size+1) scope.names (fW X.env.cells scope.names [])) fp;show codeAny _ _ (.compStart (.ListComp elt [⟨tg,iter,ifs,0⟩] scope pos) 0 (.ref it) (.ref D) (compEnvC scope (cellsFrom (s3.heap.objs.size+1) scope.names (fW X.env.cells scope.names [])) s3.heap.objs.size X.env)) (compPost (model X.prog X.w) X.A X.xe use Qf (.ref D) s3.heap.objs.size) {s3 with heap:=pushCells (s3.heap.push {cls:=.type "dict",data:=.dict #[]}) scope.names}
 have nfp:∀b∈fp,(upd H2 D (.lst [])) b=none:=fun b hb=>(f3 b hb).1.1
 generalize hce:compEnvC scope (cellsFrom (s3.heap.objs.size+1) scope.names (fW X.env.cells scope.names [])) s3.heap.objs.size X.env=ce at I4 pg pt pe⊢;have cL:ce.locals=s3.heap.objs.size:=by subst hce;rfl
 generalize hH3:upd H2 D (.lst [])=H3 at I3 I4 pg pt pe w0 nfp f3;generalize hs4:({s3 with heap:=pushCells (s3.heap.push {cls:=.type "dict",data:=.dict #[]}) scope.names}:Shared)=s4 at I4⊢
 have st4:tn 0 s4.heap:=T.keep _ _ _ st3 fun b _ o e=>by rw[<-hs4];exact Xb _ _ _ _ (aK _ e)
 have stat:∀{σ':St} {H':Hp} {s':Shared},Inv (X.blk s3 H3 scope ce fp) [] σ' H' s'->(∀b∈fp,H' b=none)->∀b∈fp,yk (X.blk s3 H3 scope ce fp) [] H' b:=fun {σ' H' s'} I' hn b hb=>
  ⟨hn b hb,(I'.ok.exf b hb).1,I'.ok.Mr b hb,.inl hb,fun x c e=>(I'.ok.exf b hb).2 x c e,fun p hp=>absurd (show p∈([]:List (Addr×Obj))++ []from hp) (by simp)⟩
 have loop:codeAny (model X.prog X.w) X.A (.compLoop (.ListComp elt [⟨tg,iter,ifs,0⟩] scope pos) 0 (.ref it) (.ref D) ce) (compPost (model X.prog X.w) X.A X.xe use Qf (.ref D) s3.heap.objs.size) s4:=by
  refine Dq (fun n s'=>∃i H',Inv (X.blk s3 H3 scope ce fp) [] (wipe σ (own.map (·.2))) H' s'/\tn i s'.heap/\(∀b∈fp,H' b=none)/\W i n H') ?_ m0 ⟨0,H3,I4,st4,nfp,w0⟩
  rintro n s5 ⟨i,H5,I5,st5,n5,w5⟩;rcases turn i n H5 w5 with⟨stop,qq⟩|⟨go,Nx,hNx,step⟩
  .have td:=T.done (X.blk s3 H3 scope ce fp) rfl rfl rfl hc i [] s5 _ H5 (fun _ _=>False) I5 (stat I5 n5) st5 stop
   refine Lf td fun r s6 ⟨hr,I6⟩=>?_
   subst hr;have I7:Inv X pins σ H5 s6:=I3.UA (ch:=fp) I6.os I6.base I6.hok I6.bare fun b hb=>⟨(f3 b hb).1.2.2.2.1,(f3 b hb).1.2.1,(f3 b hb).1.2.2.2.2.1,(f3 b hb).1.2.2.2.2.2⟩
   have nC:H5 s3.heap.objs.size=none:=by
    have z:H5 ce.locals=none:=I6.free;rw[cL]at z;exact z
   obtain⟨m,hn,_⟩:=I6.loc;have hn:s6.heap.Ns ce.locals m:=hn;rw[cL]at hn;exact hRR D s3.heap.objs.size s6 m H5 I7 qq hn (I3.Fc (au _) nC)
  .have ti:=T.item (X.blk s3 H3 scope ce fp) rfl rfl rfl hc i [] s5 _ H5 (fun _ _=>False) I5 (stat I5 n5) st5 go
   refine Lf ti fun r s6 ⟨u,hr,h6⟩=>?_
   subst hr;refine Lf h6 fun _ s7 ⟨x,H7,I7,r7,y7,st7,n7⟩=>?_
   have I7':=I7.pinned (stat I7 n7) (T.obj _ _ st7);refine Lf (pg _ s7 _ H7 x u _ I7' r7 (step x H7 y7)) fun _ s8 ⟨σ8,H8,I8,hw8,q8⟩=>?_
   refine Lf (pt _ s8 σ8 H8 _ I8 q8) fun b s9 ⟨H9,I9,q9⟩=>?_
   have fin:∀{s':Shared} {H':Hp},Inv (X.blk s3 H3 scope ce fp) ([]++zw fp s7.heap) σ8 H' s'->Nx H'->∃m,m<n/\∃i H',Inv (X.blk s3 H3 scope ce fp) [] (wipe σ (own.map (·.2))) H' s'/\tn i s'.heap/\(∀b∈fp,H' b=none)/\W i m H':=fun {s' H'} I' nx=>by
    obtain⟨m',hm,w'⟩:=hNx H' nx;have pin':∀b∈fp,∀o,s7.heap.get? b=some o->s'.heap.get? b=some o/\H' b=none:=fun b hb o e=>
     let z:=I'.pin (b,o) (ba _ (ba _ (tm hb e)))
     ⟨z.1,z.2.1⟩
    have hl:(wipe σ (own.map (·.2))).length=σ8.length:=by rw[<-hw8,qU]
    refine⟨m',hm,i+1,H',(I'.uL (pins:=[])).weak hl (fun j v e=>?_),T.keep _ _ _ st7 fun b hb o e=>(pin' b hb o e).1,fun b hb=>?_,w'⟩
    .rw[<-hw8]at e;exact(wo e).1
    .obtain⟨o,e,_⟩:=T.obj _ _ st7 b hb;exact(pin' b hb o e).2
   cases b with
   |false=>
    simp only[bS,cq]at q9⊢;exact fin I9 q9
   |true=>
    simp only[bZ]at q9⊢;refine Lf (pe _ s9 σ8 H9 _ I9 q9) fun z s10 ⟨yv,H10,I10,r10,acc,hD10,hz10,nx⟩=>?_
    exact SA (X:=X.blk s3 H3 scope ce fp) I10 hD10 hz10 r10 fun s11 I11=>fin I11 nx
 exact codeAny_compStart_list loop (T.self X.A 0 _ _ _ st4 loop)
theorem U1 {own:List (Str×Nat)} (hc:X.calm=true) (hN:X.N.Nodup) (hi:PI X tg iter wi) (ok:Kj X.N X.env.scope scope own)
  (hg:∀(s:Shared) (H:Hp) (C:Addr) (cl:List (Str×Addr)) (fp:List Addr),PG (X.blk s H scope (compEnvC scope cl C X.env) fp) tg g) (ht:∀(s:Shared) (H:Hp) (C:Addr) (cl:List (Str×Addr)) (fp:List Addr),PTs (X.blk s H scope (compEnvC scope cl C X.env) fp) ifs tt)
  (he:∀(s:Shared) (H:Hp) (C:Addr) (cl:List (Str×Addr)) (fp:List Addr),PE (X.blk s H scope (compEnvC scope cl C X.env) fp) elt te) (hs:∀x,foldedSetIterable iter X.env x=pure x:=by intro _;rfl):
  PE X (.ListComp elt [⟨tg,iter,ifs,0⟩] scope pos) (tLc wi g tt te (own.map (·.2))):=by
 intro pins s σ H Q I h;rw[eval_ListComp];refine Px hc hN I hi ok hg ht he hs h fun D C s' m H' I' q hn f=>⟨m,hn,fun h'' sb=>?_⟩
 obtain⟨f0,f1,f2,f3,f4,f5⟩:=f;exact⟨.ref D,H',I'.turned (t':=s'.toks) (fun b o hb e=>(sb.2 b hb).trans e) f0 f1 f3 f4 f5,rfl,q⟩
end
theorem MR {lo:Int} {n:Nat} {g:TG} {tt:TT} {te:TE} {vs:List Nat} {σ:St} {H1:Hp} {D:Addr} {Qd:Hp->Prop} (Pv:Nat->Hp->Prop) (h0:Pv 0 (upd H1 D (.lst [])))
  (hs:∀i H,i<n->Pv i H->g (.int (lo+i)) (wipe σ vs) H fun σ2 H2=>wipe σ2 vs=wipe σ vs/\tt σ2 H2 fun b H3=>
   if b=true then te σ2 H3 fun y H4=>∃acc,H4 D=some (.lst acc)/\acc.length<sizeLine/\Pv (i+1) (upd H4 D (.lst (acc++ [y])))else Pv (i+1) H3) (hd:∀H,Pv n H->Qd H):
  ∃W:Nat->Nat->Hp->Prop,(∃m,W 0 m (upd H1 D (.lst [])))/\∀i m H,W i m H->
   ((Itr lo n).stop i H/\Qd H)\/((Itr lo n).go i H/\∃Nx:Hp->Prop,(∀H',Nx H'->∃m',m'<m/\W (i+1) m' H')/\∀x H',(Itr lo n).yld i H x H'->g x (wipe σ vs) H' fun σ2 H2=>wipe σ2 vs=wipe σ vs/\tt σ2 H2 fun b H3=>
    if b=true then te σ2 H3 fun y H4=>∃acc,H4 D=some (.lst acc)/\acc.length<sizeLine/\Nx (upd H4 D (.lst (acc++ [y])))else Nx H3):=by
 refine⟨fun i m H=>m=n-i/\i<=n/\Pv i H,⟨n,by simp,aO _,h0⟩,?_⟩
 rintro i m H ⟨rfl,hi,p⟩;by_cases fH:i<n
 .refine .inr ⟨fH,Pv (i+1),fun H' p'=>⟨n-(i+1),by omega,rfl,fH,p'⟩,fun x H' y=>?_⟩
  obtain⟨e,y⟩:=y;subst e y;exact hs i _ fH p
 .have e:i=n:=by omega
  subst e;exact .inl ⟨au _,hd H p⟩
theorem y4 {K:PySem.W.Frag} {a:Addr} {xs:List V} {g:TG} {tt:TT} {te:TE} {vs:List Nat} {σ:St} {H1:Hp} {D:Addr} {Qd:Hp->Prop} (Pv:Nat->Hp->Prop) (h0:Pv 0 (upd H1 D (.lst []))) (hl:∀i H,i<=xs.length->Pv i H->SqL K H a xs)
  (hs:∀i x H,xs[i]?=some x->Pv i H->g x (wipe σ vs) H fun σ2 H2=>wipe σ2 vs=wipe σ vs/\tt σ2 H2 fun b H3=>
   if b=true then te σ2 H3 fun y H4=>∃acc,H4 D=some (.lst acc)/\acc.length<sizeLine/\Pv (i+1) (upd H4 D (.lst (acc++ [y])))else Pv (i+1) H3) (hd:∀H,Pv xs.length H->Qd H):
  ∃W:Nat->Nat->Hp->Prop,(∃m,W 0 m (upd H1 D (.lst [])))/\∀i m H,W i m H->
   ((Itl K a).stop i H/\Qd H)\/((Itl K a).go i H/\∃Nx:Hp->Prop,(∀H',Nx H'->∃m',m'<m/\W (i+1) m' H')/\∀x H',(Itl K a).yld i H x H'->g x (wipe σ vs) H' fun σ2 H2=>wipe σ2 vs=wipe σ vs/\tt σ2 H2 fun b H3=>
    if b=true then te σ2 H3 fun y H4=>∃acc,H4 D=some (.lst acc)/\acc.length<sizeLine/\Nx (upd H4 D (.lst (acc++ [y])))else Nx H3):=by
 refine⟨fun i m H=>m=xs.length-i/\i<=xs.length/\Pv i H,⟨xs.length,by simp,aO _,h0⟩,?_⟩
 rintro i m H ⟨rfl,hi,p⟩;have q:=hl i H hi p;by_cases fH:i<xs.length
 .refine .inr ⟨⟨xs,xs[i],q,by simp[fH]⟩,Pv (i+1),fun H' p'=>⟨xs.length-(i+1),by omega,rfl,fH,p'⟩,fun x H' y=>?_⟩
  obtain⟨e,y⟩:=y;subst e;exact hs i x _ (y xs q) p
 .have e:i=xs.length:=by omega
  subst e;exact .inl ⟨⟨xs,q,au _⟩,hd H p⟩
def SD (N:List Str) (sc scope:Scope) (own:List (Str×Nat)):Bool:=
 (match scope.kind with| .function=>true|_=>false)&&(scope.names.all fun y=>decide (scope.names.lookup y.1=some y.2))&&(own.all fun p=>decide (N[p.2]?=some p.1))&&
  (scope.names.all fun y=>match y.2 with
   | .free=>(match sc.names.lookup y.1 with|some .cell=>true|some .free=>true|_=>false)
   | .local=>decide (y.1∈own.map (·.1))||decide (y.1∉N)
   | .cell=>decide (y.1∈own.map (·.1))||decide (y.1∉N)
   |_=>true)
theorem MS {own:List (Str×Nat)} (h:SD N sc scope own=true):Kj N sc scope own:=by
 unfold SD at h;simp only[aH,bJ,aY]at h;obtain⟨⟨⟨h1,h2⟩,h3⟩,h4⟩:=h;refine⟨?_,h2,h3,fun y hy e=>?_,fun y hy e=>?_⟩
 .split at h1
  .assumption
  .cases h1
 .have q:=h4 y hy;simp only[e]at q;split at q<;>first|exact .inl (by assumption)|exact .inr (by assumption)|cases q
 .have q:=h4 y hy;rcases e with e|e<;>(simp only[e,Xc,aY]at q;exact q)
section
variable {prog:Program} {w:World} {A:Around} {R:Result->Shared->Prop} {s:Shared} {elt t0 i0 t1 i1:Expr} {ifs0 ifs1:List Expr} {scope:Scope} {pos:Pos} {it acc:Value} {env:Env}
end
section
variable {X:Cx}
end
section
variable {κ:Type} [DecidableEq κ]
def fC (dU:List (κ×V)) (k:κ):Option V:=(dU.find? fun kv=>decide (kv.1=k)).map (·.2)
def putK (dU:List (κ×V)) (k:κ) (v:V):List (κ×V):=
 if (dU.any fun kv=>decide (kv.1=k))=true then dU.map (fun kv=>if kv.1=k then (kv.1,v)else kv)else dU++ [(k,v)]
theorem jK {p:κ×V} {r:List (κ×V)} {k:κ} (e:p.1=k):fC (p::r) k=some p.2:=by simp[fC,cj,e]
theorem jL {p:κ×V} {r:List (κ×V)} {k:κ} (e:¬p.1=k):fC (p::r) k=fC r k:=by simp[fC,cj,e]
theorem mW (k:κ):∀dU:List (κ×V),(dU.any fun kv=>decide (kv.1=k))=(fC dU k).isSome
 | []=>rfl
 |p::r=>by
  rw[cD];by_cases e:p.1=k
  .simp only[jK e,aI e,XX,Option.isSome_some]
  .rw[jL e,ao e,XD];exact mW k r
theorem Fp (k j:κ) (y:V):∀dU:List (κ×V),fC (dU.map fun kv=>if kv.1=k then (kv.1,y)else kv) j=(fC dU j).map fun x=>if j=k then y else x
 | []=>rfl
 |p::r=>by
  have ih:=Fp k j y r;rw[bh];by_cases h:p.1=k
  .rw[aq h];by_cases e:p.1=j
   .rw[jK (p:=(p.1,y)) e,jK e,Xd,aq (e.symm.trans h)]
   .rw[jL (p:=(p.1,y)) e,jL e,ih]
  .rw[aj h];by_cases e:p.1=j
   .rw[jK (p:=p) e,jK e,Xd,aj (fun z=>h (e.trans z))]
   .rw[jL (p:=p) e,jL e,ih]
theorem wq (k j:κ) (y:V):∀dU:List (κ×V),fC dU k=none->fC (dU++ [(k,y)]) j=if j=k then some y else fC dU j
 | [],_=>by
  by_cases e:k=j
  .rw[aq e.symm];exact jK (p:=(k,y)) e
  .rw[aj (fun z=>e z.symm)];exact jL (p:=(k,y)) e
 |p::r,hn=>by
  rw[XH];have hk:¬p.1=k:=fun z=>by rw[jK z]at hn;cases hn
  rw[jL hk]at hn;have ih:=wq k j y r hn;by_cases e:p.1=j
  .rw[jK e,jK e,aj (fun z=>hk (e.trans z))]
  .rw[jL e,jL e,ih]
theorem MT (dU:List (κ×V)) (k j:κ) (y:V):fC (putK dU k y) j=if j=k then some y else fC dU j:=by
 unfold putK;by_cases a:(dU.any fun kv=>decide (kv.1=k))=true
 .rw[aq a,Fp];rw[mW]at a;by_cases e:j=k
  .obtain⟨x,hx⟩:=Xx.mp a;rw[aq e,e,hx,Xd,aq rfl]
  .rw[aj e];cases fC dU j with
   |none=>rfl
   |some x=>rw[Xd,aj e]
 .rw[aj a];refine wq k j y dU ?_;rw[mW]at a;cases q:fC dU k with
  |none=>rfl
  |some x=>rw[q]at a;exact(a rfl).elim
theorem qV (dU:List (κ×V)) (k:κ) (v:V):(putK dU k v).length<=dU.length+1:=by
 unfold putK;split
 .rw[List.length_map];omega
 .rw[List.length_append,aG,WD];omega
theorem Fq {dU:List (κ×V)} {k:κ} (v:V) (h:fC dU k=none):putK dU k v=dU++ [(k,v)]:=by
 unfold putK;rw[mW,h];exact aj (by decide)
theorem oT.lu (r:oT o u):o.isSome=u.isSome:=by
 cases o with
 |none=>cases u with
  |none=>rfl
  |some _=>exact(show False from r).elim
 |some _=>cases u with
  |none=>exact(show False from r).elim
  |some _=>rfl
theorem oT.getD (r:oT o u) (rd:RelV d d'):RelV (o.getD d) (u.getD d'):=by
 cases o with
 |none=>cases u with
  |none=>exact rd
  |some _=>exact(show False from r).elim
 |some _=>cases u with
  |none=>exact(show False from r).elim
  |some _=>exact r
theorem KV.val {dU:List (κ×V)} {vs:List (κ×Value)} (r:KV dU vs) (k:κ):oT (fC dU k) (valueAt vs k):=by
 unfold KV at r
 induction r with
 |nil=>exact True.intro
 |@cons p q ps qs h t ih=>
  obtain⟨h1,h2⟩:=h;by_cases e:p.1=k
  .have e':q.1=k:=h1.symm.trans e;have b:valueAt (q::qs) k=some q.2:=by simp[valueAt,cj,e']
   rw[jK e,b];exact h2
  .have e':¬q.1=k:=fun z=>e (h1.trans z)
   have b:valueAt (q::qs) k=valueAt qs k:=by simp[valueAt,cj,e']
   rw[jL e,b];exact ih
theorem KV.any {dU:List (κ×V)} {vs:List (κ×Value)} (r:KV dU vs) (k:κ):(dU.any fun kv=>decide (kv.1=k))=vs.any fun kv=>decide (kv.1=k):=by
 unfold KV at r
 induction r with
 |nil=>rfl
 |cons h t ih=>rw[cD,cD,ih,h.1]
theorem KV.SE {dU:List (κ×V)} {vs:List (κ×Value)} (r:KV dU vs) (k:κ) (ry:RelV y u):
  KV (dU.map fun kv=>if kv.1=k then (kv.1,y)else kv) (vs.map fun kv=>if kv.1=k then (kv.1,u)else kv):=by
 unfold KV at r⊢
 induction r with
 |nil=>exact .nil
 |@cons p q ps qs h t ih=>
  rw[bh,bh];refine .cons ?_ ih;obtain⟨h1,h2⟩:=h;by_cases e:p.1=k
  .rw[aq e,aq (h1.symm.trans e)];exact⟨h1,ry⟩
  .rw[aj e,aj (fun z=>e (h1.trans z))];exact⟨h1,h2⟩
theorem KV.put {dU:List (κ×V)} {vs:List (κ×Value)} (r:KV dU vs) (k:κ) (ry:RelV y u):KV (putK dU k y) (stored vs k u):=by
 unfold putK stored;rw[r.any k];by_cases e:(vs.any fun kv=>decide (kv.1=k))=true
 .rw[aq e,aq e];exact r.SE k ry
 .rw[aj e,aj e];exact Paired.snoc r ⟨rfl,ry⟩
theorem KV.length {dU:List (κ×V)} {vs:List (κ×Value)} (r:KV dU vs):dU.length=vs.length:=Paired.length r
end
theorem sT (r:RelV (kV k) u):(fk P w).is k u=true:=by
 cases k with
 |inl i=>obtain⟨t,e⟩:=(show∃t,u=Value.int i t from r);subst e;exact E4 P w i t
 |inr x=>obtain⟨t,e⟩:=(show∃t,u=Value.str x t from r);subst e;exact E5 P w x t
theorem wu:∀{ks:List Key} {us:List Value},Vals (ks.map kV) us->ItemsAre (fk P w) ks us
 | [],_,r=>by rw[Xk]at r;cases r;exact .nil
 |k::ks,_,r=>by
  rw[bh]at r;cases r with
  |cons h t=>exact .cons (sT h) (wu t)
abbrev KT (H:Hp):List (List Key×V)->List (List Key×Addr×Value)->Prop:=Paired fun p q=>p.1=q.1/\H q.2.1=some (.tup (p.1.map kV))/\RelV p.2 q.2.2
theorem KT.val {dU:List (List Key×V)} {xs:List (List Key×Addr×Value)} (r:KT H dU xs) (k:List Key):oT (fC dU k) ((atKey xs k).map (·.2)):=by
 induction r with
 |nil=>exact True.intro
 |@cons p q ps qs h t ih=>
  obtain⟨h1,_,h2⟩:=h;by_cases e:p.1=k
  .have e':q.1=k:=h1.symm.trans e;have b:atKey (q::qs) k=some q.2:=by simp[atKey,cj,e']
   rw[jK e,b];exact h2
  .have e':¬q.1=k:=fun z=>e (h1.trans z)
   have b:atKey (q::qs) k=atKey qs k:=by simp[atKey,cj,e']
   rw[jL e,b];exact ih
theorem KT.SE {dU:List (List Key×V)} {xs:List (List Key×Addr×Value)} (r:KT H dU xs) (k:List Key) (ry:RelV y u):
  KT H (dU.map fun kv=>if kv.1=k then (kv.1,y)else kv) (xs.map (putAt k u)):=by
 induction r with
 |nil=>exact .nil
 |@cons p q ps qs h t ih=>
  rw[bh,bh];refine .cons ?_ ih;obtain⟨h1,h2,h3⟩:=h;unfold putAt;by_cases e:p.1=k
  .rw[aq e,aq (h1.symm.trans e)];exact⟨h1,h2,ry⟩
  .rw[aj e,aj (fun z=>e (h1.trans z))];exact⟨h1,h2,h3⟩
theorem KT.put {dU:List (List Key×V)} {xs:List (List Key×Addr×Value)} (r:KT H dU xs) (k:List Key) (hb:H b=some (.tup (k.map kV))) (ry:RelV y u):
  KT H (putK dU k y) (storedH xs k b u):=by
 have e:(dU.any fun kv=>decide (kv.1=k))=(atKey xs k).isSome:=by
  rw[mW,(r.val k).lu,XA]
 unfold putK storedH;rw[e];by_cases q:(atKey xs k).isSome=true
 .rw[aq q,aq q];exact r.SE k ry
 .rw[aj q,aj q];exact Paired.snoc r ⟨rfl,hb,ry⟩
theorem KT.keeps {dU:List (List Key×V)} {xs:List (List Key×Addr×Value)} (r:KT H dU xs) (ht:∀b ys,H b=some (.tup ys)->H' b=some (.tup ys)):KT H' dU xs:=
 Paired.jw r fun _ _ z=>⟨z.1,ht _ _ z.2.1,z.2.2⟩
section
variable {P:Program} {w:World} {H:Hp} {h:Heap} {a:Addr}
theorem RD (ok:HOk P w H h) (e:Rd H a u):h8 P w H h a u:=e.ok ok
theorem zE (ok:HOk P w H h) (e:Rd H a (.dK dU)):dU.length<=sizeLine/\(a==sysModules)=false/\∃vs,KV dU vs/\h.DictOf (fk P w) a vs:=
 show h8 P w H h a (.dK dU)from RD ok e
theorem RE (ok:HOk P w H h) (e:H a=some (.dK dU)):dU.length<=sizeLine/\(a==sysModules)=false/\∃vs,KV dU vs/\h.DictOf (fk P w) a vs:=zE ok (.inl e)
theorem wx (ok:HOk P w H h) (e:H a=some (.tup (ks.map kV))):(tupleKind (fk P w)).is h ks a:=by
 obtain⟨_,eE,r,o,h1,h2,n,h3⟩:=(show h8 P w H h a (.tup (ks.map kV))from ok a _ e);exact⟨o,eE.toArray,n,h1,h2,h3,by simpa using wu r⟩
theorem zF {dU:List (List Key×V)} (ok:HOk P w H h) (e:Rd H a (.dT dU)):dU.length<=sizeLine/\(a==sysModules)=false/\
  ∃xs,KT H dU xs/\h.DictOfH (tupleKind (fk P w)) a xs:=by
 obtain⟨z,y,xs,r,o,es,ep,h1,h2,h3,h4,h5⟩:=(show h8 P w H h a (.dT dU)from RD ok e);refine⟨z,y,xs,r,o,es,ep,h1,h2,h3,h4,fun x hx=>?_,h5⟩
 have all:∀{l:List (List Key×V)} {m:List (List Key×Addr×Value)},KT H l m->∀x∈m,(tupleKind (fk P w)).is h x.1 x.2.1:=by
  intro l m q
  induction q with
  |nil=>intro x hx;exact nomatch hx
  |@cons p q ps qs hq t ih=>
   intro x hx;rcases ag.mp hx with e|hx
   .subst e;exact wx ok (by rw[<-hq.1];exact hq.2.1)
   .exact ih x hx
 exact all r x hx
theorem U2 {dU:List (List Key×V)} (ok:HOk P w H h) (e:H a=some (.dT dU)):dU.length<=sizeLine/\(a==sysModules)=false/\
  ∃xs,KT H dU xs/\h.DictOfH (tupleKind (fk P w)) a xs:=zF ok (.inl e)
end
def sF (H:Hp) (a:Addr) (y:V) (r:Option V):Prop:=
 (∃dU k,Rd H a (.dK dU)/\y=kV k/\r=fC dU k)\/∃dU k b,Rd H a (.dT dU)/\y= .ref b/\H b=some (.tup (k.map kV))/\r=fC dU k
def Lg (H:Hp) (a:Addr) (y v:V) (H':Hp):Prop:=
 (∃dU k,H a=some (.dK dU)/\y=kV k/\dU.length<sizeLine/\H'=upd H a (.dK (putK dU k v)))\/
 ∃dU k b,H a=some (.dT dU)/\y= .ref b/\H b=some (.tup (k.map kV))/\dU.length<sizeLine/\H'=upd H a (.dT (putK dU k v))
theorem sF.k {H:Hp} {a:Addr} {dU:List (Key×V)} {k:Key} (e:H a=some (.dK dU)):sF H a (kV k) (fC dU k):=.inl ⟨dU,k,.inl e,rfl,rfl⟩
theorem Lg.k {H:Hp} {a:Addr} {dU:List (Key×V)} {k:Key} {v:V} (e:H a=some (.dK dU)) (hl:dU.length<sizeLine):Lg H a (kV k) v (upd H a (.dK (putK dU k v))):=.inl ⟨dU,k,e,rfl,hl,rfl⟩
section
variable {X:Cx} {pins:List (Addr×Obj)} {σ:St} {H:Hp} {s:Shared} {a:Addr} {y v:V} {u r:Value} {o:Option V} {A:Around} {E:Value->Shared->Prop}
theorem Inv.big (I:Inv X pins σ H s):sysModules<s.heap.objs.size:=by
 have h:mainGlobals<s.heap.objs.size:=(I.mod.glob.keeps I.bk).lt;exact Nat.lt_trans (by decide) h
theorem Lh {Q:Value->Shared->Prop} (hu:A.units+1<cLine) (I:Inv X pins σ H s) (g:sF H a y (some v)) (ry:RelV y u) (h:∀w' s',Inv X pins σ H s'->RelV v w'->Q w' s'):
  wpAny (model X.prog X.w) A (getItem (.ref a) u) Q E s:=by
 rcases g with⟨dU,k,e,ey,l⟩|⟨dU,k,b,e,ey,eb,l⟩
 .subst ey;obtain⟨z,hd,vs,rel,dd⟩:=zE I.hok e;obtain⟨w',hw,rw'⟩:=oT.some_of (v:=v) (o:=valueAt vs k) (by rw[l];exact rel.val k)
  exact wpAny_getItem_of (sT ry) dd.mapOf hw (h w' _ (I.tok _) rw')
 .subst ey;cases (show u=Value.ref b from ry);obtain⟨z,hd,xs,rel,dd⟩:=zF I.hok e;obtain⟨w',hw,rw'⟩:=oT.some_of (v:=v) (o:=(atKey xs k).map (·.2)) (by rw[l];exact rel.val k)
  obtain⟨p,hp,qh⟩:=bc.mp hw;refine wpAny_getItem_heap (cy hu) (wx I.hok eb) dd hp ?_;rw[qh];exact h w' _ (I.tok _) rw'
theorem V5 {Q:Value->Shared->Prop} (hu:A.units+1<cLine) (I:Inv X pins σ H s) (g:sF H a y o) (ry:RelV y u) (h:∀s',Inv X pins σ H s'->Q (.bool o.isSome) s'):
  wpAny (model X.prog X.w) A (compareOp .In u (.ref a)) Q E s:=by
 rcases g with⟨dU,k,e,ey,l⟩|⟨dU,k,b,e,ey,eb,l⟩
 .subst ey;obtain⟨z,hd,vs,rel,dd⟩:=zE I.hok e;refine wpAny_in_of (sT ry) hd dd.mapOf ?_;rw[<-(rel.val k).lu,<-l];exact h _ (I.tok _)
 .subst ey;cases (show u=Value.ref b from ry);obtain⟨z,hd,xs,rel,dd⟩:=zF I.hok e;refine wpAny_in_heap (cy hu) (wx I.hok eb) hd dd ?_;have q:=(rel.val k).lu;rw[XA]at q;rw[<-q,<-l];exact h _ (I.tok _)
theorem Py {Q:Value->Shared->Prop} (hu:A.units+1<cLine) (I:Inv X pins σ H s) (g:sF H a y o) (ry:RelV y u) (h:∀s',Inv X pins σ H s'->Q (.bool (!o.isSome)) s'):
  wpAny (model X.prog X.w) A (compareOp .NotIn u (.ref a)) Q E s:=by
 rcases g with⟨dU,k,e,ey,l⟩|⟨dU,k,b,e,ey,eb,l⟩
 .subst ey;obtain⟨z,hd,vs,rel,dd⟩:=zE I.hok e;refine wpAny_notIn_of (sT ry) hd dd.mapOf ?_;rw[<-(rel.val k).lu,<-l];exact h _ (I.tok _)
 .subst ey;cases (show u=Value.ref b from ry);obtain⟨z,hd,xs,rel,dd⟩:=zF I.hok e;refine wpAny_notIn_heap (cy hu) (wx I.hok eb) hd dd ?_;have q:=(rel.val k).lu;rw[XA]at q;rw[<-q,<-l];exact h _ (I.tok _)
theorem y6 (I:Inv X pins σ H s) (mu:Mut (H a)) (hs:Heap.SameBut a s.heap h') (he:∃q,h'.get? a=some q) (new:h8 X.prog X.w (upd H a ob) h' a ob):
  Inv X pins σ (upd H a ob) {s with heap:=h',toks:=t'}:=
 I.write (x:=a) (e:=a) mu (.inl rfl) (fun b q hb z=>(hs.2 b hb).trans z) he new
theorem MU {vs:List (Key×Value)} (z:dU.length<=sizeLine) (hd:(a==sysModules)=false) (rel:KV dU vs) (dd:h'.DictOf (fk P w) a vs):
  h8 P w H' h' a (.dK dU):=⟨z,hd,vs,rel,dd⟩
theorem Li {H':Hp} {Q:Unit->Shared->Prop} (hu:A.units+1<cLine) (I:Inv X pins σ H s) (g:Lg H a y v H') (ry:RelV y u) (rv:RelV v r) (h:∀s',Inv X pins σ H' s'->Q () s'):
  wpAny (model X.prog X.w) A (setItem (.ref a) u r) Q E s:=by
 rcases g with⟨dU,k,e,ey,l,eH⟩|⟨dU,k,b,e,ey,eb,l,eH⟩
 .subst ey eH;obtain⟨z,hd,vs,rel,dd⟩:=RE I.hok e;have hz:vs.length<=sizeLine:=by rw[<-rel.length];exact z
  have hl:(putK dU k v).length<=sizeLine:=by have:=qV dU k v;omega
  refine wpAny_setItem_pairs (hsz:=hz) (sT ry) dd fun h' dd' hs=>h _ ?_
  have he:∃q,h'.get? a=some q:=let ⟨q,_,_,hq,_⟩:=dd';⟨q,hq⟩
  exact y6 I (by rw[e];exact True.intro) hs he (MU hl hd (rel.put k rv) dd')
 .subst ey eH;cases (show u=Value.ref b from ry);obtain⟨z,hd,xs,rel,dd⟩:=U2 I.hok e;have hz:xs.length<=sizeLine:=by rw[<-Paired.length rel];exact z
  have hl:(putK dU k v).length<=sizeLine:=by have:=qV dU k v;omega
  refine wpAny_setItem_heap (hsz:=hz) (cy hu) (wx I.hok eb) dd fun h' dd' hs=>h _ ?_
  obtain⟨q,es,ep,hq,h2,h3,h4,_,h5⟩:=dd';refine y6 I (by rw[e];exact True.intro) hs ⟨q,hq⟩ ⟨hl,hd,_,(rel.put k eb rv).keeps fun c ys ec=>?_,q,es,ep,hq,h2,h3,h4,h5⟩
  rw[cR (sS ec e (fun z=>nomatch z))]
  exact ec
end
section
variable {X:Cx} {pins:List (Addr×Obj)} {σ:St} {H:Hp} {s:Shared} {a:Addr} {dU:List (Key×V)} {k:Key} {u:Value} {A:Around} {E:Value->Shared->Prop}
end
def SF (i:Expr):Prop:=∀ov iv,subscripted i false ov iv=operate [ov,iv] (getItem ov iv)
theorem Kk {prog:Program} {w:World} {A:Around} {E:Value->Shared->Prop} {s:Shared} {env:Env} {value slice:Expr} {pos:Pos} {T id:String} {Q:Value->Shared->Prop}
  (hl:typeLookup (.type T) "__getitem__"=pure (some (.builtin id))) (hs:SF slice)
  (h:wpAny (model prog w) A (eval value env) (fun o s₁=>wpAny (model prog w) A (eval slice env) (fun i s₂=>s₂.TypeIs o T/\wpAny (model prog w) A (getItem o i) Q E s₂) E s₁) E s):
  wpAny (model prog w) A (eval (.Subscript value slice pos) env) Q E s:=by
 refine Subscript_ (bW h (fun o s₁ h₁=>bW h₁ (fun i s₂ h₂=>?_) fun _ _ x=>x) fun _ _ x=>x)
 obtain⟨hT,h₂⟩:=h₂;unfold subscriptTail;refine aD ?_;rw[getitemInPython_of_ne hT.not_modules];refine aD (WE hT hl ?_);have fin:wpAny (model prog w) A (subscripted slice false o i) (fun r s₃=>wpAny (model prog w) A (letTemporaryGo value o r>>=fun _=>pure r) Q E s₃) E s₂:=by
  rw[hs o i];exact wpAny_operating (bW h₂ (fun r s₃ h₃=>aD (wpAny_letTemporaryGo (aU h₃))) fun _ _ x=>x)
 first
  |exact aU (aD fin)
  |exact aD (aU (aD fin))
  |exact aD fin
theorem Fs (I:Inv X pins σ H s) (g:sF H a y o):s.TypeIs (.ref a) "dict":=by
 rcases g with⟨dU,k,e,_,_⟩|⟨dU,k,b,e,_,_,_⟩
 .obtain⟨_,_,vs,_,dd⟩:=zE I.hok e;exact dd.typeIs
 .obtain⟨_,_,xs,_,dd⟩:=zF I.hok e;exact dd.typeIs
def U3 (td ty:TE):TE:=fun σ H Q=>td σ H fun x H1=>ty σ H1 fun y H2=>∃a v,x= .ref a/\sF H2 a y (some v)/\Q v H2
def V6 (ty td:TE):TE:=fun σ H Q=>ty σ H fun y H1=>td σ H1 fun x H2=>∃a o,x= .ref a/\sF H2 a y o/\Q (.bl o.isSome) H2
def PB (ty td:TE):TE:=fun σ H Q=>ty σ H fun y H1=>td σ H1 fun x H2=>∃a o,x= .ref a/\sF H2 a y o/\Q (.bl (!o.isSome)) H2
def U4 (td ty tv:TE):TS:=fun D σ H=>tv σ H fun v H1=>td σ H1 fun x H2=>ty σ H2 fun y H3=>∃a H4,x= .ref a/\Lg H3 a y v H4/\D.nx σ H4
section
variable {X:Cx} {o i e value:Expr} {pos pos' uG:Pos} {td ty tv:TE}
theorem PD (hu:X.A.units+1<cLine) (ho:PE X o td) (hi:PE X i ty) (hs:SF i):PE X (.Subscript o i pos) (U3 td ty):=by
 intro pins s σ H Q I h;refine Kk PySem.F.slot_dict_getitem.lookup hs (thn (ho pins s σ H _ I h) fun u s1 ⟨x,H1,I1,rx,q1⟩=>thn (hi pins s1 σ H1 _ I1 q1) fun iv s2 ⟨y,H2,I2,ry,a,v,ex,g,q2⟩=>?_)
 subst ex;obtain rfl:u=Value.ref a:=rx;exact⟨Fs I2 g,Lh hu I2 g ry fun w' s3 I3 rw'=>⟨v,H2,I3,rw',q2⟩⟩
theorem SH (hu:X.A.units+1<cLine) (hi:PE X i ty) (ho:PE X o td):PC X .In i o (V6 ty td):=by
 intro pins s σ H Q I h;refine thn (hi pins s σ H _ I h) fun iv s1 ⟨y,H1,I1,ry,q1⟩=>thn (ho pins s1 σ H1 _ I1 q1) fun u s2 ⟨x,H2,I2,rx,a,ov,ex,g,q2⟩=>?_
 subst ex;obtain rfl:u=Value.ref a:=rx;exact V5 hu I2 g ry fun s3 I3=>⟨.bl ov.isSome,H2,I3,rfl,q2⟩
theorem Lj (hu:X.A.units+1<cLine) (hi:PE X i ty) (ho:PE X o td):PC X .NotIn i o (PB ty td):=by
 intro pins s σ H Q I h;refine thn (hi pins s σ H _ I h) fun iv s1 ⟨y,H1,I1,ry,q1⟩=>thn (ho pins s1 σ H1 _ I1 q1) fun u s2 ⟨x,H2,I2,rx,a,ov,ex,g,q2⟩=>?_
 subst ex;obtain rfl:u=Value.ref a:=rx;exact Py hu I2 g ry fun s3 I3=>⟨.bl (!ov.isSome),H2,I3,rfl,q2⟩
theorem Kl (hu:X.A.units+1<cLine) (ho:PE X o td) (hi:PE X i ty) (hv:PE X value tv) (hs:swapsWith value (some (.Subscript o i pos')) pos.line X.env=pure false):
  PS X (.Assign [.Subscript o i pos'] value pos) (U4 td ty tv):=by
 intro pins s σ H D I h;refine wpAny_Assign_Subscript (thn (hv pins s σ H _ I h) fun r s1 ⟨v,H1,I1,rv,q1⟩=>thn (ho pins s1 σ H1 _ I1 q1) fun u s2 ⟨x,H2,I2,rx,q2⟩=>thn (hi pins s2 σ H2 _ I2 q2) fun iv s3 ⟨y,H3,I3,ry,a,H4,ex,g,q3⟩=>?_) hs
 subst ex;obtain rfl:u=Value.ref a:=rx;exact Li hu I3 g ry rv fun s4 I4=>⟨σ,H4,I4,q3⟩
end
theorem MV (h:Heap) (hb:sysModules<h.objs.size):h8 P w H (h.push {cls:=.type "dict",data:=.dict #[]}) h.objs.size (.dK []):=
 ⟨aO _,aW.mpr (cw (bq hb)),[],.nil,Heap.DictOf.new h⟩
def SI:TE:=fun _ H Q=>∀p,H p=none->Q (.ref p) (upd H p (.dK []))
section
variable {X:Cx} {pos:Pos}
theorem zG:PE X (.Dict [] [] pos) SI:=fun pins s σ H Q I h=>
 wpAny_Dict_empty ⟨.ref s.heap.objs.size,_,I.laid (a:=s.heap.objs.size) (o:=.dK []) (t':=s.toks) (fun _ _ q=>aK _ q) (au _) (MV s.heap I.big),rfl,h _ (I.hok.fresh (au _))⟩
end
structure M2 (X:Cx) (o:Expr) (m:Str) (apos:Pos) (e f:Expr) (mO:Pos):Prop where
 base:attributeBase o m X.env (eval o X.env)=eval o X.env
 few:((backTo mO (starEach [e,f] X.env)).all (fun x=>!x.1)&&(backToKw mO (keywordEach [] X.env)).all (fun x=>x.1.isSome)
  &&decide (([e,f]:List Expr).length+([]:List Keyword).length+(if ([]:List Keyword).isEmpty then 0 else 1)<30))=true
 line:(apos.endLine==mO.line)=true
 trees:backTo mO (starEach [e,f] X.env)= [(false,eval e X.env),(false,eval f X.env)]
def IsD (H:Hp) (a:Addr):Prop:=(∃dU,Rd H a (.dK dU))\/∃dU,Rd H a (.dT dU)
theorem MW (I:Inv X pins σ H s) (d:IsD H a):
  s.TypeIs (.ref a) "dict"/\(∀b,Value.ref a= .ref b->∃ob,s.heap.get? b=some ob/\ob.dict=none)/\(a==sysModules)=false:=by
 rcases d with⟨dU,e⟩|⟨dU,e⟩
 .obtain⟨_,hd,vs,_,dd⟩:=zE I.hok e;refine⟨dd.typeIs,fun b q=>?_,hd⟩
  cases q;obtain⟨ob,_,_,h1,h2,_⟩:=dd;exact⟨ob,h1,h2.2.1⟩
 .obtain⟨_,hd,xs,_,dd⟩:=zF I.hok e;refine⟨dd.typeIs,fun b q=>?_,hd⟩
  cases q;obtain⟨ob,_,_,h1,h2,_⟩:=dd;exact⟨ob,h1,h2.2.1⟩
section
variable {X:Cx} {pins:List (Addr×Obj)} {σ:St} {H:Hp} {s:Shared} {a:Addr} {y d:V} {u r:Value} {o:Option V} {A:Around} {E:Value->Shared->Prop}
theorem SJ {Q:Value->Shared->Prop} (hu:A.units+1<cLine) (I:Inv X pins σ H s) (g:sF H a y o) (ry:RelV y u) (rd:RelV d r) (h:∀w' s',Inv X pins σ H s'->RelV (o.getD d) w'->Q w' s'):
  wpAny (model X.prog X.w) A (call (.builtin "dict.get") [.ref a,u,r]) Q E s:=by
 rcases g with⟨dU,k,e,ey,l⟩|⟨dU,k,b,e,ey,eb,l⟩
 .subst ey;obtain⟨z,hd,vs,rel,dd⟩:=zE I.hok e;refine Xl PySem.F.slot_dict_get dd.typeIs PySem.F.entry_dict_get (PySem.F.args_dict_get_3 _ _ _) (meets_dict_get_default (fk X.prog X.w) a (sT ry) hd r) ⟨_,dd.mapOf,h _ _ (I.tok _) ?_⟩;rw[l];exact(rel.val k).getD rd
 .subst ey;cases (show u=Value.ref b from ry);obtain⟨z,hd,xs,rel,dd⟩:=zF I.hok e;refine Xl PySem.F.slot_dict_get dd.typeIs PySem.F.entry_dict_get (PySem.F.args_dict_get_3 _ _ _) (meetsH_dict_get_default (tupleKind (fk X.prog X.w)) a b hd r) ⟨cy hu,k,xs,wx I.hok eb,dd,h _ _ (I.tok _) ?_⟩;rw[l];exact(rel.val k).getD rd
end
def SM (td ty tx:TE):TE:=fun σ H Q=>td σ H fun x H1=>∃a,x= .ref a/\IsD H1 a/\ty σ H1 fun y H2=>tx σ H2 fun z H3=>∃o,sF H3 a y o/\Q (o.getD z) H3
section
variable {X:Cx} {o e f:Expr} {apos mO:Pos} {td ty tx:TE}
theorem MX (hu:X.A.units+1<cLine) (ho:PE X o td) (he:PE X e ty) (hf:PE X f tx) (m:M2 X o "get" apos e f mO):PE X (.Call (.Attribute o "get" apos) [e,f] [] mO) (SM td ty tx):=by
 intro pins s σ H Q I h;refine XB m.base m.few m.line PySem.F.plainAttrs_dict PySem.F.slot_dict_get PySem.F.type_dict_get (thn (ho pins s σ H _ I h) fun u s1 ⟨x,H1,I1,rx,a,ex,d,q1⟩=>?_)
 subst ex;obtain rfl:u=Value.ref a:=rx;obtain⟨t1,t2,_⟩:=MW I1 d;refine⟨t1,t2,?_⟩;rw[m.trees];refine bD rfl (b9 (bI (thn (he pins s1 σ H1 _ I1 q1) fun iv s2 ⟨y,H2,I2,ry,q2⟩=>
  bI (thn (hf pins s2 σ H2 _ I2 q2) fun fv s3 ⟨z,H3,I3,rz,ov,g,q3⟩=>cB ?_))))
 exact SJ hu I3 g ry rz fun w' s4 I4 rw'=>⟨_,H3,I4,rw',q3⟩
end
section
variable {X:Cx} {pins:List (Addr×Obj)} {σ:St} {H:Hp} {s:Shared} {a:Addr} {dU:List (Key×V)} {A:Around} {E:Value->Shared->Prop}
end
section
variable {X:Cx} {pins:List (Addr×Obj)} {σ:St} {H:Hp} {s:Shared} {a:Addr} {y:V} {u:Value} {A:Around} {E:Value->Shared->Prop}
end
section
variable {prog:Program} {w:World} {A:Around} {E:Value->Shared->Prop}
end
section
variable {X:Cx}
end
section
variable {X:Cx} {pins:List (Addr×Obj)} {σ:St} {H:Hp} {s:Shared} {h':Heap}
theorem Inv.PF {t':Nat} {ch:List Addr} (I:Inv X pins σ H s) (k:∀b o,b∉ch->s.heap.get? b=some o->h'.get? b=some o) (hf:∀b∈ch,yk X pins H b):Inv X pins σ H {s with heap:=h',toks:=t'}:=by
 have nit:∀b u,H b=some u->b∉ch:=fun b u e z=>by
  have q:=(hf b z).1;rw[q]at e;cases e
 refine I.step (g':=s.gens) (d':=s.drawn) (ch:=ch) (fun b hb=>⟨(hf b hb).2.2.2.1,(hf b hb).2.1,(hf b hb).2.2.2.2.1,(hf b hb).2.2.2.2.2⟩) (fun b o _ _ hc e _=>k b o hc e) (fun b o _ _ hc e _=>⟨o.slots,k b o hc e⟩)
  (fun _ _ _ _ n=>n) (fun b o hc e=>⟨o,k b o hc e⟩) (fun _ _ e=>e) (fun _ _ _ e=>e) (fun b ps e=>⟨#[],by rw[e];simp⟩) (fun m hm=>?_) (fun b u e=>?_) I.bare
 .obtain⟨o,es,ep,ho,r⟩:=hm;exact⟨o,es,ep,k _ o (fun z=>(hf _ z).2.1 rfl) ho,r⟩
 .refine(I.hok b u e).yi (fun c v hc q=>k c v ?_ q) (fun _ q=>q) fun _ _ q=>q
  rcases hc with z|z
  .rw[z];exact nit b u e
  .exact nit c _ z
theorem Inv.wy {t':Nat} {ch:List Addr} {T:Addr} {ob:HO} (I:Inv X pins σ H s) (k:∀b o,b∉ch->s.heap.get? b=some o->h'.get? b=some o) (hf:∀b∈ch,yk X pins H b) (hT:s.heap.objs.size<=T)
  (new:h8 X.prog X.w (upd H T ob) h' T ob):Inv X pins σ (upd H T ob) {s with heap:=h',toks:=t'}:=by
 have hn:H T=none:=I.hok.fresh hT;have nit:∀b u,H b=some u->b∉ch:=fun b u e z=>by
  have q:=(hf b z).1;rw[q]at e;cases e
 refine I.step (g':=s.gens) (d':=s.drawn) (ch:=ch) (fun b hb=>⟨(hf b hb).2.2.2.1,(hf b hb).2.1,(hf b hb).2.2.2.2.1,(hf b hb).2.2.2.2.2⟩) (fun b o _ _ hc e _=>k b o hc e) (fun b o _ _ hc e _=>⟨o.slots,k b o hc e⟩)
  (fun b o _ e n=>?_) (fun b o hc e=>⟨o,k b o hc e⟩) (fun b xs e=>?_) (fun b o u e=>?_) (fun b ps e=>⟨#[],?_⟩) (fun m hm=>?_) (fun b u e=>?_) I.bare
 .rw[cR (bq (aR (aM e) hT))];exact n
 .rw[cR (cM e hn)];exact e
 .rw[cR (cM e hn)];exact e
 .rw[cR (cM e hn),e];simp
 .obtain⟨o,es,ep,ho,r⟩:=hm;exact⟨o,es,ep,k _ o (fun z=>(hf _ z).2.1 rfl) ho,r⟩
 .by_cases hb:b=T
  .subst hb;rw[cP]at e;cases e;exact new
  .rw[cR hb]at e;refine(I.hok b u e).yi (fun c v hc q=>k c v ?_ q) (fun c q=>by rw[cR (cM q hn)];exact q) fun c xs q=>by rw[cR (cM q hn)];exact q
   rcases hc with z|z
   .rw[z];exact nit b u e
   .exact nit c _ z
end
section
variable {X:Cx}
theorem MY {R:It->Hp->Prop} {tn:Nat->Heap->Prop} (I:Inv X pins σ H s) (o:Obj)
  (T:Turn X.prog X.w X.K tg J [s.heap.objs.size] s.heap.objs.size tn) (st:tn 0 (s.heap.push o)) (q:R J H):PIE X pins σ tg R (.ref s.heap.objs.size) {s with heap:=s.heap.push o,toks:=tk}:=by
 refine⟨s.heap.objs.size,[s.heap.objs.size],tn,J,H,rfl,I.kept fun b ob e=>aK _ e,T,st,fun b hb=>?_,q⟩
 have e:b=s.heap.objs.size:=by simpa using hb
 subst e;exact I.Fc (au _) (I.hok.fresh (au _))
end
section
variable {X:Cx} {tg:Expr}
end
section
variable {X:Cx} {tg:Expr}
end
def Its (x:Str):It:=⟨fun i _=>i<x.cps.size,fun i H v H'=>H'=H/\∃c,x.cps[i]?=some c/\v= .str ⟨#[c]⟩,fun i _=>x.cps.size<=i⟩
theorem Ft {P:Program} {w:World} {K:PySem.W.Frag} {tg:Expr} (it:Addr) (x:Str) (t:Tok) (ty:String) (hty:ty="str_ascii_iterator"\/ty="str_iterator"):
  Turn P w K tg (Its x) [it] it (fun i h=>h.IsStrIter it ty x t i) where
 mem:=by simp
 obj:=fun i h st b hb=>by
  have e:b=it:=by simpa using hb
  subst e;obtain⟨o,e,c,d⟩:=st;exact⟨o,e,fun v z=>by rw[d]at z;cases z⟩
 keep:=fun i h h' st k=>let ⟨o,ho,r⟩:=st;⟨o,k it (by simp) o ho,r⟩
 item:=by
  intro X hP hw hK hc i pins s σ H E I hf st hg;subst hP hw hK;obtain⟨f0,f1,f2,f3,f4,f5⟩:=hf it (by simp)
  have W:Walks X.prog X.w X.A it [it] [it] x.cps.size (SignAt x) (fun i h=>h.IsStrIter it ty x t i):=by
   rcases hty with e|e
   .rw[e];exact Walks.strAscii (I.ok.hd hc) it x t
   .rw[e];exact Walks.strWide (I.ok.hd hc) it x t
  have hno: ["enumerate","zip","dict_itemiterator","dict_reverseitemiterator","odict_iterator","itertools.zip_longest","itertools.pairwise"].contains ty=false:=by
   rcases hty with e|e
   .rw[e];decide
   .rw[e];decide
  refine W.item i s _ _ hg st fun v h' tk hv gg kk=>?_
  obtain⟨c,u,hcx,rfl⟩:=hv;have I1:Inv X pins σ H {s with heap:=h',toks:=tk}:=I.turned (fun b o hb e=>kk b o (by simpa using hb) e) f0 f1 f3 f4 f5
  obtain⟨oi,e,cc,dd⟩:=id gg;exact⟨_,rfl,Ka (s:={s with heap:=h',toks:=tk}) e cc dd hno ⟨.str ⟨#[c]⟩,H,I1,⟨u,rfl⟩,⟨rfl,c,hcx,rfl⟩,gg,fun b hb=>(hf b hb).1⟩⟩
 done:=by
  intro X hP hw hK hc i pins s σ H E I hf st hg;subst hP hw hK;obtain⟨f0,f1,f2,f3,f4,f5⟩:=hf it (by simp)
  have hx:x.cps[i]?=none:=Array.getElem?_eq_none hg;rcases hty with e|e
  .rw[e]at st;exact wpAny_pyNext_ascii_end (I.ok.hd hc) st hx fun h' eb=>⟨rfl,I.turned (t':=s.toks) (fun b o hb e=>eb b o hb e) f0 f1 f3 f4 f5⟩
  .rw[e]at st;exact wpAny_pyNext_wide_end (I.ok.hd hc) st hx fun h' eb=>⟨rfl,I.turned (t':=s.toks) (fun b o hb e=>eb b o hb e) f0 f1 f3 f4 f5⟩
 self:=fun A i s Q E st h=>by
  rcases hty with e|e
  .rw[e]at st;exact wpAny_pyIter_striter_ascii st h
  .rw[e]at st;exact wpAny_pyIter_striter_wide st h
def V7 (te:TE):TI:=fun σ H R=>te σ H fun v H1=>∃x,v= .str x/\R (Its x) H1
theorem MZ {X:Cx} {tg e:Expr} {te:TE} (he:PE X e te):PI X tg e (V7 te):=by
 intro pins s σ H R I h;refine thn (he pins s σ H _ I h) fun v s1 ⟨y,H1,I1,r1,x,ex,q⟩=>?_
 subst ex;obtain⟨t,rfl⟩:=r1;cases ha:x.cps.all (·<128)
 .exact wpAny_pyIter_wide ha (MY (tk:=s1.toks) I1 _ (Ft _ x t "str_iterator" (.inr rfl)) ⟨_,a8 _ rfl,rfl,rfl⟩ q)
 .exact wpAny_pyIter_ascii ha (MY (tk:=s1.toks) I1 _ (Ft _ x t "str_ascii_iterator" (.inl rfl)) ⟨_,a8 _ rfl,rfl,rfl⟩ q)
section
variable {prog:Program} {w:World} {A:Around} {E:Value->Shared->Prop} {s:Shared}
end
section
variable {X:Cx} {pins:List (Addr×Obj)} {σ:St} {H:Hp} {s:Shared} {d:Addr} {o:Obj}
end
section
variable {P:Program} {w:World} {K:PySem.W.Frag} {tg:Expr} {d:Addr} {o:Obj} {es:Array DictEntry} {ep:Nat}
end
section
variable {X:Cx} {tg e:Expr} {td:TE} {apos mO:Pos}
end
def Ite (K:PySem.W.Frag) (a:Addr):It:=
 ⟨fun i H=>∃(xs:List V) (x:V),SqL K H a xs/\xs[i]?=some x,fun i H v H'=>∃T x,v= .ref T/\H T=none/\H'=upd H T (.tup [.int (i:Nat),x])/\∀xs,SqL K H a xs->xs[i]?=some x,fun i H=>∃xs:List V,SqL K H a xs/\xs.length<=i⟩
theorem Lk {P:Program} {w:World} {K:PySem.W.Frag} {elts:List Expr} {kk:Nat} {uG:Pos} (a e it:Addr):
  Turn P w K (.Tuple elts kk uG) (Ite K a) [e,it] e (fun i h=>(∃old,IsEnum h e it ((i:Nat):Int) old)/\h.IsListIter it a i/\e≠it) where
 mem:=by simp
 obj:=fun i h st b hb=>by
  obtain⟨⟨old,he⟩,⟨o,ho,hc,hd⟩,_⟩:=st;have e':b=e\/b=it:=by simpa using hb
  rcases e' with z|z
  .rw[z];exact⟨_,he,fun v q=>nomatch q⟩
  .rw[z];exact⟨o,ho,fun v q=>by rw[hd]at q;cases q⟩
 keep:=fun i h h' st k=>let ⟨⟨old,he⟩,hi,nM⟩:=st;⟨⟨old,k e (by simp) _ he⟩,hi.at fun o q=>k it (by simp) o q,nM⟩
 item:=by
  intro X hP hw hK hc i pins s σ H E I hf st hg;subst hP hw hK;obtain⟨⟨old,he⟩,hit,nM⟩:=st;obtain⟨xs,x,hq,hx⟩:=hg;obtain⟨eE,rv,p,hz⟩:=I.list hq;obtain⟨u,hu,ru⟩:=rv.get hx;have hel:e<s.heap.objs.size:=aM he;have hil:it<s.heap.objs.size:=by obtain⟨_,q,_⟩:=hit;exact aM q
  refine wpAny_pyNext_enum_item he hit p.isList (x:=u) (by simpa using hu) nM fun h' ho hit' hT hsz hk=>?_
  refine⟨_,rfl,wpAny_letOwnedTupleGo_enum (s:={s with heap:=h',toks:=s.toks+1}) ho fun h'' he' sb=>?_⟩
  have hT2:h''.get? s.heap.objs.size=some {cls:=.type "tuple",data:=.seq #[.int i s.toks,u]}:=(sb.2 _ (XS hel)).trans hT;have new:h8 X.prog X.w (upd H s.heap.objs.size (.tup [.int (i:Nat),x])) h'' s.heap.objs.size (.tup [.int (i:Nat),x]):=
   ⟨by show 2<=sizeLine;decide,[.int i s.toks,u],.cons ⟨_,rfl⟩ (.cons ru .nil),⟨_,hT2,rfl,_,rfl⟩⟩
  have I1:Inv X pins σ (upd H s.heap.objs.size (.tup [.int (i:Nat),x])) {s with heap:=h'',toks:=s.toks+1}:=
   I.wy (ch:=[e,it]) (fun b ob hb q=>(sb.2 b (fun z=>hb (by simp[z]))).trans (hk b ob (fun z=>hb (by simp[z])) (fun z=>hb (by simp[z])) q)) hf (au _) new
  refine⟨.ref s.heap.objs.size,_,I1,rfl,⟨_,x,rfl,I.hok.fresh (au _),rfl,fun ys hy=>by rw[I.uJ hy hq];exact hx⟩,⟨⟨u,?_⟩,hit'.at fun o q=>(sb.2 it (cw nM)).trans q,nM⟩,fun b hb=>?_⟩
  .have e1:((i+1:Nat):Int)=(i:Int)+1:=by omega
   rw[e1];exact he'
  .have hb':b<s.heap.objs.size:=by
    have e':b=e\/b=it:=by simpa using hb
    rcases e' with z|z
    .rw[z];exact hel
    .rw[z];exact hil
   rw[cR (bq hb')];exact(hf b hb).1
 done:=by
  intro X hP hw hK hc i pins s σ H E I hf st hg;subst hP hw hK;obtain⟨⟨old,he⟩,hit,nM⟩:=st;obtain⟨xs,hq,hx⟩:=hg;obtain⟨eE,rv,p,hz⟩:=I.list hq;obtain⟨f0,f1,f2,f3,f4,f5⟩:=hf it (by simp)
  have hl:=rv.length;exact wpAny_pyNext_enum_end (I.ok.hd hc) he hit p.isList (by simp;omega) fun h' eb=>⟨rfl,I.turned (t':=s.toks) (fun b o hb q=>eb b o hb q) f0 f1 f3 f4 f5⟩
 self:=fun A i s Q E st h=>let ⟨⟨_,he⟩,_⟩:=st;WQ he h
def U5 (K:PySem.W.Frag) (ta:TA):TI:=fun σ H R=>ta σ H fun vs H1=>∃a xs,vs= [.ref a]/\SqL K H1 a xs/\R (Ite K a) H1
theorem PH {X:Cx} {e:Expr} {ta:TA} {p pos uG:Pos} {elts:List Expr} {kk:Nat} (hg:Gl X "enumerate") (hm:X.mg "enumerate"=none) (ha:PA X [e] ta) (hs:starEach [e] X.env= [(false,eval e X.env)]:=by rfl):
  PI X (.Tuple elts kk uG) (.Call (.Name "enumerate" p) [e] [] pos) (U5 X.K ta):=by
 intro pins s σ H R I h;refine Call_ (sZ I hg hm boot_enumerate (bA (thn (ha pos pins s σ H _ I h) fun us s1 ⟨vs,H1,I1,r1,q1⟩=>?_) hs rfl))
 obtain⟨a,xs,ex,hq,q⟩:=q1;subst ex;cases r1 with
 |cons r rr=>
  cases rr;cases r;obtain⟨eE,rv,p',hz⟩:=I1.list hq;refine call_enumerate_list p'.isList fun h' he hit hsz hk=>WQ he ?_
  have I2:Inv X pins σ H1 {s1 with heap:=h'}:=I1.kept (t':=s1.toks) hk
  refine⟨s1.heap.objs.size+1,[s1.heap.objs.size+1,s1.heap.objs.size],_,_,H1,rfl,I2,Lk a (s1.heap.objs.size+1) s1.heap.objs.size,⟨⟨.none,he⟩,hit,Nat.succ_ne_self _⟩,fun b hb=>?_,q⟩
  have e':b=s1.heap.objs.size+1\/b=s1.heap.objs.size:=by simpa using hb
  have hle:s1.heap.objs.size<=b:=by
   rcases e' with z|z
   .rw[z];exact bX _ _
   .rw[z];exact au _
  exact I1.Fc hle (I1.hok.fresh hle)
theorem Ll:bootBuiltins "zip"=some (.type "zip"):=by decide+kernel
def Itz (K:PySem.W.Frag) (a b:Addr):It:=
 ⟨fun i H=>∃(xs ys:List V) (x y:V),SqL K H a xs/\SqL K H b ys/\xs[i]?=some x/\ys[i]?=some y,
  fun i H v H'=>∃T x y,v= .ref T/\H T=none/\H'=upd H T (.tup [x,y])/\(∀xs,SqL K H a xs->xs[i]?=some x)/\∀ys,SqL K H b ys->ys[i]?=some y,
  fun i H=>∃xs ys:List V,SqL K H a xs/\SqL K H b ys/\(xs.length<=i\/ys.length<=i)⟩
theorem M0 {P:Program} {w:World} {K:PySem.W.Frag} {elts:List Expr} {kk:Nat} {uG:Pos} {a b z TI TO i1 i2:Addr} (D:ZipApart z TI TO i1 i2 a b):
  Turn P w K (.Tuple elts kk uG) (Itz K a b) [z,TI,TO,i1,i2] z (fun i h=>IsZip h z TI TO .none/\IsPair h TI (.ref i1) (.ref i2)/\(∃x y,IsPair h TO x y)/\h.IsListIter i1 a i/\h.IsListIter i2 b i) where
 mem:=by simp
 obj:=fun i h st c hc=>by
  obtain⟨hz,hTI,⟨x,y,hTO⟩,⟨o1,e1,_,d1⟩,⟨o2,e2,_,d2⟩⟩:=st;have e':c=z\/c=TI\/c=TO\/c=i1\/c=i2:=by simpa using hc
  rcases e' with q|q|q|q|q
  .rw[q];exact⟨_,hz,fun v q=>nomatch q⟩
  .rw[q];exact⟨_,hTI,fun v q=>nomatch q⟩
  .rw[q];exact⟨_,hTO,fun v q=>nomatch q⟩
  .rw[q];exact⟨o1,e1,fun v q=>by rw[d1]at q;cases q⟩
  .rw[q];exact⟨o2,e2,fun v q=>by rw[d2]at q;cases q⟩
 keep:=fun i h h' st k=>by
  obtain⟨hz,hTI,⟨x,y,hTO⟩,h1,h2⟩:=st;exact⟨k z (by simp) _ hz,k TI (by simp) _ hTI,⟨x,y,k TO (by simp) _ hTO⟩,h1.at fun o q=>k i1 (by simp) o q,h2.at fun o q=>k i2 (by simp) o q⟩
 item:=by
  intro X hP hw hK hc i pins s σ H E I hf st hg;subst hP hw hK;obtain⟨hz,hTI,⟨x0,y0,hTO⟩,h1,h2⟩:=st;obtain⟨xs,ys,x,y,hqx,hqy,hx,hy⟩:=hg;obtain⟨eE,rv,p,_⟩:=I.list hqx;obtain⟨its2,rv2,p2,_⟩:=I.list hqy;obtain⟨u,hu,ru⟩:=rv.get hx;obtain⟨u2,hu2,ru2⟩:=rv2.get hy;have hzl:z<s.heap.objs.size:=aM hz;refine wpAny_pyNext_zip_item D hz hTI hTO h1 h2 p.isList p2.isList (x:=u) (y:=u2) (by simpa using hu) (by simpa using hu2) fun h' z' TO' h1' h2' hT hsz hk=>?_
  refine⟨_,rfl,wpAny_letOwnedTupleGo_zip (s:={s with heap:=h'}) z' fun h'' z'' sb=>?_⟩
  have hT2:h''.get? s.heap.objs.size=some {cls:=.type "tuple",data:=.seq #[u,u2]}:=(sb.2 _ (XS hzl)).trans hT;have new:h8 X.prog X.w (upd H s.heap.objs.size (.tup [x,y])) h'' s.heap.objs.size (.tup [x,y]):=
   ⟨by show 2<=sizeLine;decide,[u,u2],.cons ru (.cons ru2 .nil),⟨_,hT2,rfl,_,rfl⟩⟩
  have I1:Inv X pins σ (upd H s.heap.objs.size (.tup [x,y])) {s with heap:=h''}:=
   I.wy (t':=s.toks) (ch:=[z,TI,TO,i1,i2]) (fun c o hb q=>(sb.2 c (fun q'=>hb (by simp[q']))).trans (hk c o (fun q'=>hb (by simp[q'])) (fun q'=>hb (by simp[q'])) (fun q'=>hb (by simp[q'])) (fun q'=>hb (by simp[q'])) q)) hf (au _) new
  refine⟨.ref s.heap.objs.size,_,I1,rfl,⟨_,x,y,rfl,I.hok.fresh (au _),rfl,fun l hl=>by rw[I.uJ hl hqx];exact hx,fun l hl=>by rw[I.uJ hl hqy];exact hy⟩,⟨z'',?_,⟨u,u2,?_⟩,?_,?_⟩,fun c hcm=>?_⟩
  .exact(sb.2 _ D.TIz).trans (hk _ _ D.TIz D.TITO D.TIi1 D.TIi2 hTI)
  .exact(sb.2 _ D.TOz).trans TO'
  .exact h1'.at fun o q=>(sb.2 _ D.i1z).trans q
  .exact h2'.at fun o q=>(sb.2 _ D.i2z).trans q
  .have fH:c<s.heap.objs.size:=by
    have e':c=z\/c=TI\/c=TO\/c=i1\/c=i2:=by simpa using hcm
    rcases e' with q|q|q|q|q
    .rw[q];exact hzl
    .rw[q];exact aM hTI
    .rw[q];exact aM hTO
    .rw[q];obtain⟨_,e1,_⟩:=h1;exact aM e1
    .rw[q];obtain⟨_,e2,_⟩:=h2;exact aM e2
   rw[cR (bq fH)];exact(hf c hcm).1
 done:=by
  intro X hP hw hK hc i pins s σ H E I hf st hg;subst hP hw hK;obtain⟨hz,hTI,⟨x0,y0,hTO⟩,h1,h2⟩:=st;obtain⟨xs,ys,hqx,hqy,hend⟩:=hg;obtain⟨eE,rv,p,_⟩:=I.list hqx;obtain⟨its2,rv2,p2,_⟩:=I.list hqy;have l1:=rv.length;have l2:=rv2.length;have he:eE.toArray[i]?=none\/its2.toArray[i]?=none:=by
   rcases hend with q|q
   .exact .inl (by simp;omega)
   .exact .inr (by simp;omega)
  exact wpAny_pyNext_zip_end (I.ok.hd hc) D hz hTI hTO h1 h2 p.isList p2.isList he fun h' hk=>⟨rfl,I.PF (t':=s.toks) (ch:=[z,TI,TO,i1,i2]) (fun c o hb q=>
   hk c o (fun q'=>hb (by simp[q'])) (fun q'=>hb (by simp[q'])) (fun q'=>hb (by simp[q'])) (fun q'=>hb (by simp[q'])) q) hf⟩
 self:=fun A i s Q E st h=>wpAny_pyIter_zip st.1 h
def V8 (K:PySem.W.Frag) (ta:TA):TI:=fun σ H R=>ta σ H fun vs H1=>∃a b xs ys,vs= [.ref a,.ref b]/\SqL K H1 a xs/\SqL K H1 b ys/\R (Itz K a b) H1
theorem SN {X:Cx} {e e2:Expr} {ta:TA} {p pos uG:Pos} {elts:List Expr} {kk:Nat} (hg:Gl X "zip") (hm:X.mg "zip"=none) (ha:PA X [e,e2] ta)
  (hs:starEach [e,e2] X.env=(false,eval e X.env)::starEach [e2] X.env:=by rfl) (hpl:(backTo pos (starEach [e2] X.env)).any (·.1)=false:=by rfl):
  PI X (.Tuple elts kk uG) (.Call (.Name "zip" p) [e,e2] [] pos) (V8 X.K ta):=by
 intro pins s σ H R I h;refine Call_ (sZ I hg hm Ll (bA (thn (ha pos pins s σ H _ I h) fun us s1 ⟨vs,H1,I1,r1,q1⟩=>?_) hs hpl))
 obtain⟨a,b,xs,ys,ex,hqx,hqy,q⟩:=q1;subst ex;cases r1 with
 |cons r rr=>
  cases rr with
  |cons r' rr=>
   cases rr;cases r;cases r';obtain⟨eE,rv,p1,_⟩:=I1.list hqx;obtain⟨its2,rv2,p2,_⟩:=I1.list hqy;have la:a<s1.heap.objs.size:=p1.lt;have lb:b<s1.heap.objs.size:=p2.lt;refine call_zip_2 p1.isList p2.isList fun h' hz hTI hTO h1 h2 hsz hk=>wpAny_pyIter_zip hz ?_
   have I2:Inv X pins σ H1 {s1 with heap:=h'}:=I1.kept (t':=s1.toks) hk
   refine⟨s1.heap.objs.size+4,[s1.heap.objs.size+4,s1.heap.objs.size+2,s1.heap.objs.size+3,s1.heap.objs.size,s1.heap.objs.size+1],_,_,H1,rfl,I2,M0 (PySem.W.ktu_apart s1.heap.objs.size a b la lb),⟨hz,hTI,⟨_,_,hTO⟩,h1,h2⟩,fun c hcm=>?_,q⟩
   have e':c=s1.heap.objs.size+4\/c=s1.heap.objs.size+2\/c=s1.heap.objs.size+3\/c=s1.heap.objs.size\/c=s1.heap.objs.size+1:=by simpa using hcm
   have hle:s1.heap.objs.size<=c:=by
    rcases e' with z|z|z|z|z
    .rw[z];exact bX _ _
    .rw[z];exact bX _ _
    .rw[z];exact bX _ _
    .rw[z];exact au _
    .rw[z];exact bX _ _
   exact I1.Fc hle (I1.hok.fresh hle)
end L2
section
namespace V9
open PySem PyProof.Rows
end V9
end
section
namespace TL
open PySem PySem.Builtin PySem.Builtin.Str PySem.StrLaws
abbrev tl (x:Str):List Nat:=x.cps.toList
theorem j8 (x:Str):x.length=(tl x).length:=by simp[tl,Str.length]
theorem Dr (h:tl x=tl y):x=y:=Str.ext' (Array.toList_inj.mp h)
theorem oH (x y:Str):tl (x++y)=tl x++tl y:=by
 show (x++y).cps.toList=_;rw[Str.cps_append,Array.toList_append]
theorem xW (s:String):tl (Str.ofString s)=s.toList.map Char.toNat:=PyProof.Rows.signs_ofString s
def CD (S:List Nat):List (List Nat)->List Nat
 | []=>[]
 | [p]=>p
 |p::q::r=>p++(S++CD S (q::r))
theorem Kn (y:Str):∀parts:List Str,tl (Str.join y parts)=CD (tl y) (parts.map tl)
 | []=>rfl
 | [_]=>rfl
 |x::z::r=>by
  show tl (x++y++Str.join y (z::r))=tl x++(tl y++CD (tl y) ((z::r).map tl));rw[oH,oH,Kn y (z::r),cE]
theorem join_eq (y:Str) (parts:List Str):Txt.join y parts=Str.join y parts:=glued_eq_join y parts
def wz (n:Nat):List Nat:=(Nat.toDigits 10 n).map Char.toNat
theorem HG (n:Nat):tl (Str.ofString (toString ((n:Nat):Int)))=wz n:=PySem.W.KIN.signs_num n
theorem sU:∀d:Nat,d<10->(Nat.digitChar d).toNat=48+d:=by decide
theorem Ko (h:n<10):wz n= [48+n]:=by
 unfold wz;rw[XE h];show [(Nat.digitChar n).toNat]=_;rw[sU n h]
theorem CF (h:10<=n):wz n=wz (n/10)++ [48+n%10]:=by
 have hm:n%10<10:=Nat.mod_lt n (by decide)
 have t:Nat.toDigits 10 (n/10)++Nat.toDigits 10 (n%10)=Nat.toDigits 10 (10*(n/10)+n%10):=Nat.toDigits_append_toDigits (by decide) (by omega) hm
 rw[Nat.div_add_mod]at t;show (Nat.toDigits 10 n).map Char.toNat=_;rw[<-t,aA,XE hm];show (Nat.toDigits 10 (n/10)).map Char.toNat++ [(Nat.digitChar (n%10)).toNat]=_;rw[sU _ hm]<;>rfl
theorem Fu (n:Nat):NumText.AllDigits (wz n):=by
 induction n using Nat.strongRecOn with
 |_ n ih=>
  by_cases h:n<10
  .rw[Ko h];intro c hc;rw[bz.mp hc];omega
  .rw[CF (by omega)]
   intro c hc;rcases bO.mp hc with hc|hc
   .exact ih (n/10) (by omega) c hc
   .have hm:n%10<10:=Nat.mod_lt n (by decide)
    rw[bz.mp hc];omega
theorem PJ (n:Nat):wz n≠ []:=by
 by_cases h:n<10
 .rw[Ko h];simp
 .rw[CF (by omega)]
  simp
theorem M3 (hk:0<k) (h:n<10^k):(wz n).length<=k:=by
 have z:=PyProof.Rows.toString_length_le (v:=(n:Int)) (by omega) hk (by
  have e:((10:Int)^k)=((10^k:Nat):Int):=by
   first
    |exact(Int.natCast_pow 10 k).symm
    |simp
  rw[e]
  first|exact Int.ofNat_lt.mpr h|omega)
 rw[j8,HG]at z;exact z
end TL
end
namespace L2
open PySem PySem.Spec PyProof.Rows
theorem oV:∀{ys:List Str} {us:List Value},Vals (ys.map V.str) us->StrsAre us ys
 | [],_,.nil=>.nil
 |y::ys,_,.cons r t=>by
  obtain⟨k,rfl⟩:=r;exact .cons y k (oV t)
section
variable {X:Cx} {pins:List (Addr×Obj)} {σ:St} {H:Hp} {s:Shared} {Q:VK}
end
section
variable {X:Cx}
theorem PL:MtR X "str.join" (fun x xs H Q=>∃a p,∃ys:List Str,x= .str a/\xs= [.ref p]/\(SqL X.K H p (ys.map V.str)\/SqT X.K H p (ys.map V.str))/\
  (ys.map (·.length)).sum+ys.length*a.length<=16777216/\Q (.str (Txt.join a ys)) H):=by
 intro pins s σ H x xs v us Q I rx rs h;obtain⟨a,p,ys,rfl,rfl,hp,hz,h⟩:=h;obtain⟨t,rfl⟩:=rx;cases rs with
 |cons r1 rs=>
  cases rs;cases r1;rcases hp with hp|hp
  .obtain⟨eE,r,⟨o,n,ho,hc,_,hd⟩,_⟩:=I.list hp;exact PyProof.Rows.join_list (items:=eE.toArray) ⟨o,ho,hc,n,hd⟩ (by rw[List.toList_toArray];exact oV r) hz fun t' k=>⟨.str _,H,I.tok k,⟨t',rfl⟩,h⟩
  .obtain⟨eE,r,ht,_⟩:=I.tuple hp;exact PyProof.Rows.join_tuple (items:=eE.toArray) ht (by rw[List.toList_toArray];exact oV r) hz fun t' k=>⟨.str _,H,I.tok k,⟨t',rfl⟩,h⟩
theorem mt0 {id:String} {C:Str->Prop} {g:Str->V} (rule:∀(a:Str) (t:Tok) (s:Shared) (Q:Value->Shared->Prop),C a->(∀(u:Value) (k:Nat),RelV (g a) u->Q u {s with toks:=k})->
  wpAny (model X.prog X.w) X.A (call (.builtin id) [.str a t]) Q X.xe s):MtR X id (fun x xs H Q=>∃a,x= .str a/\xs= []/\C a/\Q (g a) H):=by
 intro pins s σ H x xs v us Q I rx rs h;obtain⟨a,rfl,rfl,hc,h⟩:=h;obtain⟨t,rfl⟩:=rx;cases rs;exact rule a t s _ hc fun u k r=>⟨g a,H,I.tok k,r,h⟩
theorem HH:MtR X "str.isdigit" (fun x xs H Q=>∃a,x= .str a/\xs= []/\True/\Q (.bl (Txt.isdigit a)) H):=
 mt0 (C:=fun _=>True) (g:=fun a=>.bl (Txt.isdigit a)) fun _ _ s _ _ h=>PySem.SC.isdigit (h _ s.toks rfl)
theorem zH:MtR X "str.isalpha" (fun x xs H Q=>∃a,x= .str a/\xs= []/\True/\Q (.bl (Txt.isalpha a)) H):=
 mt0 (C:=fun _=>True) (g:=fun a=>.bl (Txt.isalpha a)) fun _ _ s _ _ h=>PySem.SC.isalpha (h _ s.toks rfl)
theorem mt1 {id:String} {g:Str->Str->V} (rule:∀(a b:Str) (t u:Tok) (s:Shared) (Q:Value->Shared->Prop),(∀(v:Value) (k:Nat),RelV (g a b) v->Q v {s with toks:=k})->
  wpAny (model X.prog X.w) X.A (call (.builtin id) [.str a t,.str b u]) Q X.xe s):MtR X id (fun x xs H Q=>∃a b,x= .str a/\xs= [.str b]/\Q (g a b) H):=by
 intro pins s σ H x xs v us Q I rx rs h;obtain⟨a,b,rfl,rfl,h⟩:=h;obtain⟨t,rfl⟩:=rx;cases rs with
 |cons r1 rs=>
  cases rs;obtain⟨u,rfl⟩:=r1;exact rule a b t u s _ fun v k r=>⟨g a b,H,I.tok k,r,h⟩
theorem Bn:MtR X "str.startswith" (fun x xs H Q=>∃a b,x= .str a/\xs= [.str b]/\Q (.bl (Txt.startswith a b)) H):=
 mt1 (g:=fun a b=>.bl (Txt.startswith a b)) fun _ _ _ _ s _ h=>PySem.SC.startswith (h _ s.toks rfl)
theorem uR:nN X (.type "int") (fun xs H Q=>∃a n,xs= [.str a]/\PySem.intText? a=some n/\a.length<=640/\Q (.int n) H):=by
 intro pins s σ H xs us Q I rs h;obtain⟨a,n,rfl,hn,hl,h⟩:=h;cases rs with
 |cons r1 rs=>
  cases rs;obtain⟨t,rfl⟩:=r1;exact PySem.W.KIN.call_text hn hl ⟨.int n,H,I.tok _,⟨_,rfl⟩,h⟩
end
section
variable {X:Cx} {o e:Expr} {to te:TE}
def tM0 (r:V->List V->Hp->VK->Prop) (to:TE):TE:=fun σ H Q=>to σ H fun x H1=>(∃a,x= .str a)/\r x [] H1 Q
def tM1 (r:V->List V->Hp->VK->Prop) (to te:TE):TE:=fun σ H Q=>to σ H fun x H1=>(∃a,x= .str a)/\te σ H1 fun y H2=>r x [y] H2 Q
theorem M4 {id:String} {name:Str} {apos pos:Pos} {r:V->List V->Hp->VK->Prop} (slot:Slot "str" name id) (ty:typeOf (.builtin id)=pure (.type "method_descriptor")) (rule:MtR X id r) (ho:PE X o to)
  (wa:attributeBase o name X.env (eval o X.env)=eval o X.env:=by rfl) (v8:(apos.endLine==pos.line)=true:=by rfl):PE X (.Call (.Attribute o name apos) [] [] pos) (tM0 r to):=by
 intro pins s σ H Q I h;refine PySem.Call_method0 wa v8 (thn (ho pins s σ H _ I h) fun v s1 ⟨x,H1,I1,r1,q1⟩=>?_)
 obtain⟨⟨a,rfl⟩,q1⟩:=q1;obtain⟨t,rfl⟩:=_root_.id r1;exact⟨"str",_,F.plainAttrs_str,slot,ty,XZ _ _ _,(fun _ e=>nomatch e),bD rfl (PySem.evalArgs_none (rule pins s1 σ H1 _ [] _ [] Q I1 r1 .nil q1))⟩
theorem RG {id:String} {name:Str} {apos pos:Pos} {r:V->List V->Hp->VK->Prop} (slot:Slot "str" name id) (ty:typeOf (.builtin id)=pure (.type "method_descriptor")) (rule:MtR X id r) (ho:PE X o to) (he:PE X e te)
  (hs:starEach [e] X.env= [(false,eval e X.env)]:=by rfl) (wa:attributeBase o name X.env (eval o X.env)=eval o X.env:=by rfl) (v8:(apos.endLine==pos.line)=true:=by rfl):
  PE X (.Call (.Attribute o name apos) [e] [] pos) (tM1 r to te):=by
 intro pins s σ H Q I h;refine PySem.Call_method1 wa hs v8 (thn (ho pins s σ H _ I h) fun v s1 ⟨x,H1,I1,r1,q1⟩=>?_)
 obtain⟨⟨a,rfl⟩,q1⟩:=q1;obtain⟨t,rfl⟩:=_root_.id r1;refine⟨"str",_,F.plainAttrs_str,slot,ty,XZ _ _ _,(fun _ e=>nomatch e),bD rfl (b9 (bI ?_))⟩
 exact thn (he pins s1 σ H1 _ I1 q1) fun u s2 ⟨y,H2,I2,r2,q2⟩=>cB (rule pins s2 σ H2 _ [y] _ [u] Q I2 r1 (.cons r2 .nil) q2)
theorem PM (ho:PE X o to) (he:PE X e te) (hs:starEach [e] X.env= [(false,eval e X.env)]:=by rfl) (wa:attributeBase o "join" X.env (eval o X.env)=eval o X.env:=by rfl) (v8:(apos.endLine==pos.line)=true:=by rfl):
  PE X (.Call (.Attribute o "join" apos) [e] [] pos) (tM1 (fun x xs H Q=>∃a p,∃ys:List Str,x= .str a/\xs= [.ref p]/\(SqL X.K H p (ys.map V.str)\/SqT X.K H p (ys.map V.str))/\
   (ys.map (·.length)).sum+ys.length*a.length<=16777216/\Q (.str (Txt.join a ys)) H) to te):=
 RG F.slot_str_join F.type_str_join PL ho he hs wa v8
end
section
variable {X:Cx}
theorem HI:OpR X (compareOp .In) (fun x y H Q=>∃(c:Nat) (z:Str),x= .str ⟨#[c]⟩/\y= .str z/\Q (.bl (decide (c∈z.cps.toList))) H):=by
 intro pins s σ H x y v u Q I rx ry h;obtain⟨c,z,rfl,rfl,q⟩:=h;obtain⟨t,rfl⟩:=rx;obtain⟨t',rfl⟩:=ry;exact PyProof.Rows.in_str (fw I q (PySem.StrLaws.found_one z c).symm)
end
theorem IsPart.raw (p:IsPart v o):∃l:Option (Int×Tok),v=partValue l/\l.map (·.1)=o:=by
 cases p with
 |none=>exact⟨none,rfl,rfl⟩
 |int i t=>exact⟨some (i,t),rfl,rfl⟩
def Fv (n d:Nat):Option Int->Int
 |none=>(d:Int)
 |some i=>max 0 (min (if i<0 then i+(n:Int)else i) (n:Int))
theorem Fw (n d:Nat) (o:Option Int):Fv n d o=((HT.sIx n d o:Nat):Int):=by
 cases o with
 |none=>rfl
 |some v=>
  show max (0:Int) (min (if v<0 then v+(n:Int)else v) (n:Int))=(((if v<0 then (v+(n:Int)).toNat else min v.toNat n):Nat):Int)
  by_cases hv:v<0
  .simp only[aq hv];omega
  .simp only[aj hv];omega
theorem Lm (a b:Option Int) (n:Nat):Builtin.Str.strSliceIndices a b 1 n=sliceRange (Fv n 0 a) (Fv n n b) 1:=by
 have h1:((1:Int)>0)=True:=by simp
 cases a<;>cases b<;>first
  |rfl
  |(simp only[Builtin.Str.strSliceIndices,Fv,h1,bZ];rfl)
  |simp[Builtin.Str.strSliceIndices,Fv]
theorem Wa (a b:Option Int) (n:Nat):Builtin.Str.strSliceIndices a b 1 n=(List.range (HT.sIx n n b-HT.sIx n 0 a)).map (fun k=>HT.sIx n 0 a+k):=by
 rw[Lm,Fw,Fw];generalize HT.sIx n 0 a=p;generalize HT.sIx n n b=q;simp only[sliceRange,show ((1:Int)>0)=True from by simp,bZ]
 by_cases fH:(p:Int)<q
 .have e3:(((q:Int)-p+1-1)/1).toNat=q-p:=by first|omega|(simp;done)|(simp;omega)
  simp only[fH,bZ,e3];refine Wz fun k _=>?_
  omega
 .have:q-p=0:=by omega
  simp[fH,this]
def M5 (z:Str) (lo hi:Option Int):Str:=
 ⟨((z.cps.toList.drop (HT.sIx z.length 0 lo)).take (HT.sIx z.length z.length hi-HT.sIx z.length 0 lo)).toArray⟩
theorem sV (z:Str) (lo hi:Option Int):PySem.StrLaws.sliceText z lo hi=M5 z lo hi:=by
 have h1:HT.sIx z.length 0 lo<=z.length:=HT.MI _ _ (aO _) _;have h2:HT.sIx z.length z.length hi<=z.length:=HT.MI _ _ (au _) _;have hp:HT.sIx z.length 0 lo<=max (HT.sIx z.length 0 lo) (HT.sIx z.length z.length hi):=Nat.le_max_left _ _;have hq:max (HT.sIx z.length 0 lo) (HT.sIx z.length z.length hi)<=z.length:=Nat.max_le.mpr ⟨h1,h2⟩;have hd:max (HT.sIx z.length 0 lo) (HT.sIx z.length z.length hi)-HT.sIx z.length 0 lo=HT.sIx z.length z.length hi-HT.sIx z.length 0 lo:=by omega
 have e:Builtin.Str.strSliceIndices lo hi 1 z.length=
   Builtin.Str.strSliceIndices (some ((HT.sIx z.length 0 lo:Nat):Int)) (some ((max (HT.sIx z.length 0 lo) (HT.sIx z.length z.length hi):Nat):Int)) 1 z.length:=by
  rw[PySem.StrLaws.strSliceIndices_plain hp hq,hd,Wa]
 have e2:PySem.StrLaws.sliceText z lo hi=
   PySem.StrLaws.sliceText z (some ((HT.sIx z.length 0 lo:Nat):Int)) (some ((max (HT.sIx z.length 0 lo) (HT.sIx z.length z.length hi):Nat):Int)):=by
  unfold PySem.StrLaws.sliceText;rw[e]
 rw[e2,PySem.StrLaws.sliceText_nat z hp hq,hd];rfl
theorem qW (z:Str) (lo hi:Option Int):(M5 z lo hi).length<=z.length:=by
 show (((z.cps.toList.drop (HT.sIx z.length 0 lo)).take (HT.sIx z.length z.length hi-HT.sIx z.length 0 lo)).toArray).size<=z.cps.size;rw[aL,aV,aZ,bV];omega
def Wb:V->Option Int->Option Int->Hp->VK->Prop:=fun x lo hi H Q=>∃z,x= .str z/\z.length<=sizeLine/\Q (.str (M5 z lo hi)) H
theorem SO:SlR X Wb:=by
 intro pins s σ H x v vl vu lo hi sl Q I rx hs pl pu h;obtain⟨z,rfl,hz,q⟩:=h;obtain⟨t,rfl⟩:=rx;obtain⟨os,hos,hcs,hds⟩:=hs;obtain⟨l,rfl,rfl⟩:=IsPart.raw pl;obtain⟨u,rfl,rfl⟩:=IsPart.raw pu;refine⟨"str",_,F.slot_str_getitem.lookup,XZ _ _ _,?_⟩;refine wpAny_getItem_str_slice (l:=l) (u:=u) (st:=none) ⟨os,hos,hcs,hds⟩ rfl ?_;have hl:(PySem.StrLaws.sliceText z (l.map (·.1)) (u.map (·.1))).length<=sizeLine:=by
  rw[sV];exact ai (qW z _ _) hz
 rw[<-sV]at q;unfold PySem.StrLaws.sliceText at q hl;show Made.post (if ((1:Int)==1&&(Builtin.Str.strSliceIndices (l.map (·.1)) (u.map (·.1)) 1 z.length).length==z.length)=true then Made.val (.str z t)
  else Made.str ⟨((Builtin.Str.strSliceIndices (l.map (·.1)) (u.map (·.1)) 1 z.length).filterMap (z.cps[·]?)).toArray⟩) (EP X pins σ Q) s
 by_cases c:((1:Int)==1&&(Builtin.Str.strSliceIndices (l.map (·.1)) (u.map (·.1)) 1 z.length).length==z.length)=true
 .rw[aq c]at q⊢;exact⟨.str z,H,I,⟨t,rfl⟩,q⟩
 .rw[aj c]at q hl⊢;exact⟨hl,.str _,H,I.tok _,⟨_,rfl⟩,q⟩
end L2
namespace Att
open PySem PySem.W PySem.Calls PyProof.Rows
section
variable {prog:Program} {w:World} {A:Around} {E:Value->Shared->Prop} {s:Shared} {K:Frag}
end
end Att
namespace L2
open PySem PySem.Spec PyProof.Rows
def inClass (s:Stmt) (j:Nat):Stmt:=match s with
 | .ClassDef _ _ _ body _ _ _ _ _ _ _=>body.getD j (.Pass ⟨0,0,0,0⟩)
 |_=>.Pass ⟨0,0,0,0⟩
def lR (s:Stmt):Arguments:=match s with
 | .FunctionDef _ a _ _ _ _ _ _ _ _=>a
 |_=>{posonlyargs:=[],args:=[],vararg:=none,kwonlyargs:=[],kw_defaults:=[],kwarg:=none,defaults:=[]}
def jT (s:Stmt):List Stmt:=match s with
 | .FunctionDef _ _ b _ _ _ _ _ _ _=>b
 |_=>[]
def cS (s:Stmt):Scope:=match s with
 | .FunctionDef _ _ _ _ _ _ sc _ _ _=>sc
 |_=>{kind:=.function,names:=[],isGenerator:=false,isCoroutine:=false}
abbrev CX0:CXT:=fun _ _ _ _ _ _=>False
abbrev E0:XK:=fun _ _ _=>False
theorem zI:Passes CX0 X E0:=fun _ _ _ _ _ _ _ h=>h.elim
structure Fun (K:PySem.W.Frag) (x qual:Str) (st:Stmt) (f:Addr) (fd:FuncData):Prop where
 ex:∃(oc:Value) (od:Option Addr) (kV doc pm:Value) (an:Option Addr) (qI ct:Value) (osl:Array (Option Value)),
  fd=PySem.W.fnOf x qual (lR st) (jT st) (cS st) .none kV doc pm an qI ct/\K.lookup f=some ⟨oc,od,.func fd,osl⟩/\PySem.W.codeIn K qI qual=true
 kp:PySem.W.keepIn K (.ref f)=true
section
variable {P:Program} {w:World} {K:PySem.W.Frag} {mg:Str->Option Value} {base:Heap}
theorem Fun.ok {x qual:Str} {st:Stmt} {f:Addr} {fd:FuncData} {N ps:List Str} {k:Nat} {sp:Sp} (F:Fun K x qual st f fd) (S:cW N ps (cS st)) (len:∀vs H Q E,sp vs H Q E->vs.length=ps.length)
  (rT:∀(qI:Value) (A:Around) (outer:List Env) (s:Shared) (H:Hp) (vs:List V) (Q:VK) (E:XK),iI k (A.deeper (envOfC qual (cS st) s.heap.objs.size f qI))->sp vs H Q E->
   ∃t,PSs (Lc CX0 P w K mg base N qual (cS st) f qI A outer s H E).nox (jT st) t/\t {nx:=fun _ H'=>Q .non H',rt:=Q} (start N vs) H):oC P w K mg base CX0 (k+1) f fd ps sp:=by
 obtain⟨oc,od,kV,doc,pm,an,qI,ct,osl,rfl,lk,hcd⟩:=F.ex;refine UR lk hcd S len fun A outer s H vs Q E hr hsp=>?_
 obtain⟨t,h,q⟩:=rT qI A outer s H vs Q E hr hsp;exact⟨t,h.nox,q⟩
theorem Fun.binds {x qual:Str} {st:Stmt} {f:Addr} {fd:FuncData} {ps:List Str} (F:Fun K x qual st f fd)
  (h:∀(kV doc pm:Value) (an:Option Addr) (qI ct:Value) (us:List Value),us.length=ps.length->bindArgs (PySem.W.fnOf x qual (lR st) (jT st) (cS st) .none kV doc pm an qI ct) ⟨us,[]⟩=pure (ps.zip us)):Binds K fd ps []:=by
 obtain⟨oc,od,kV,doc,pm,an,qI,ct,osl,rfl,lk,hcd⟩:=F.ex;exact .all (h kV doc pm an qI ct)
theorem M6 {x qual:Str} {st:Stmt} {f:Addr} {oc:Value} {od an:Option Addr} {osl:Array (Option Value)} {kV doc pm qI ct:Value} (l:K.lookup f=some ⟨oc,od,.func (PySem.W.fnOf x qual (lR st) (jT st) (cS st) .none kV doc pm an qI ct),osl⟩)
  (c:PySem.W.codeIn K qI qual=true) (k:PySem.W.keepIn K (.ref f)=true):Fun K x qual st f (PySem.W.fnOf x qual (lR st) (jT st) (cS st) .none kV doc pm an qI ct):=⟨⟨oc,od,kV,doc,pm,an,qI,ct,osl,rfl,l,c⟩,k⟩
end
theorem CG (hr:iI k A):A.units+1<cLine:=aE (Nat.add_le_add_left (by decide:1<=64) _) hr.units
section
variable {X:Cx}
end
theorem eY {A B:Prop} (h:B):if false=true then A else B:=by
 rw[aj aN];exact h
theorem fm {A B:Prop} (h:A):if true=true then A else B:=by
 rw[aq rfl];exact h
theorem uS {c A B:Prop} [Decidable c] (h1:c->A) (h2:¬c->B):if c then A else B:=by
 by_cases h:c
 .rw[aq h];exact h1 h
 .rw[aj h];exact h2 h
def dR (H H':Hp):Prop:=∀b o,H b=some o->H' b=some o
theorem dR.refl (H:Hp):dR H H:=fun _ _ h=>h
theorem dR.trans {H H1 H2:Hp} (a:dR H H1) (b:dR H1 H2):dR H H2:=fun c o h=>b c o (a c o h)
theorem dR.free {H H':Hp} (e:dR H H') {l:Addr} (h:H' l=Option.none):H l=Option.none:=by
 cases q:H l with
 |none=>rfl
 |some o=>
  rw[e l o q]at h;cases h
theorem dR.seq {K:PySem.W.Frag} {H H':Hp} {a:Addr} {xs:List V} (e:dR H H') (h:SqL K H a xs):SqL K H' a xs:=by
 rcases h with(h|⟨o,h⟩)|h
 .exact .inl (.inl (e _ _ h))
 .exact .inl (.inr ⟨o,e _ _ h⟩)
 .exact .inr h
section
variable {κ:Type} [DecidableEq κ]
theorem Fx {dU:List (κ×V)} {k:κ} (h:fC dU k=none):¬k∈dU.map (·.1):=by
 intro m;obtain⟨p,hp,e⟩:=bx.mp m;have q:(dU.any fun kv=>decide (kv.1=k))=true:=List.any_eq_true.mpr ⟨p,hp,aI e⟩
 rw[mW,h]at q;exact absurd q (by simp)
theorem y8 {dU:List (κ×V)} {k:κ} (h:fC dU k=some v):k∈dU.map (·.1):=by
 have q:(dU.any fun kv=>decide (kv.1=k))=true:=by
  rw[mW,h]
  all_goals rfl
 obtain⟨p,hp,e⟩:=List.any_eq_true.mp q;exact bx.mpr ⟨p,hp,aQ e⟩
end
theorem U6 {α:Type} {l:List α} (hN:l.Nodup) {i j:Nat} {x:α} (a:l[i]?=some x) (b:l[j]?=some x):i=j:=by
 obtain⟨h1,e1⟩:=aa.mp a;obtain⟨h2,e2⟩:=aa.mp b;exact(List.getElem_inj hN).mp (e1.trans e2.symm)
open PySem.W (WData Codec OpenSpec Well WellAll ReadsW ReadsAllW)
mutual
inductive Dw (K:PySem.W.Frag) (H:Hp):V->WData->Prop
 |non:Dw K H .non .none
 |bl (b:Bool):Dw K H (.bl b) (.bool b)
 |int (i:Int):Dw K H (.int i) (.int i)
 |str (x:Str):Dw K H (.str x) (.str x)
 |byt (b:Array UInt8):Dw K H (.byt b) (.bytes b.toList)
 |lst {a:Addr} {xs:List V} {ds:List WData}:SqL K H a xs->qi K H xs ds->Dw K H (.ref a) (.list ds)
 |tup {a:Addr} {xs:List V} {ds:List WData}:SqT K H a xs->qi K H xs ds->Dw K H (.ref a) (.tuple ds)
inductive qi (K:PySem.W.Frag) (H:Hp):List V->List WData->Prop
 |nil:qi K H [] []
 |cons {v:V} {vs:List V} {d:WData} {ds:List WData}:Dw K H v d->qi K H vs ds->qi K H (v::vs) (d::ds)
end
theorem Kp {K:PySem.W.Frag} {H:Hp}:∀ns:List Int,qi K H (ns.map V.int) (ns.map WData.int)
 | []=>.nil
 |n::r=>.cons (.int n) (Kp r)
theorem Kq {K:PySem.W.Frag} {H:Hp}:∀(ns:List Int) (xs:List V),qi K H xs (ns.map WData.int)->xs=ns.map V.int
 | [],xs,h=>by
  cases h;rfl
 |n::r,xs,h=>by
  cases h with
  |cons h1 h2=>
   cases h1;rw[Kq r _ h2]<;>rfl
section
variable {P:Program} {w:World} {K:PySem.W.Frag} {H:Hp} {h:Heap} {R:PySem.W.WRecords} {cl:Str->Option Addr}
theorem SR {a:Addr} {xs:List V} (hok:HOk P w H h) (KX:K.In h) (q:SqL K H a xs):∃(eE:List Value) (o:Obj) (n:Nat),Vals xs eE/\h.get? a=some o/\o.cls= .type "list"/\o.data= .seq eE.toArray n:=by
 rcases q with q|⟨o,eE,n,e,hc,_,hd,_,hv⟩
 .obtain⟨_,eE,n,hv,e⟩:=(show h8 P w H h a (.lst xs)from q.ok hok);exact⟨eE,_,n,hv,e,rfl,rfl⟩
 .exact⟨eE.toList,o,n,hv,KX _ _ e,hc,by simp[hd]⟩
theorem SS {a:Addr} {xs:List V} (hok:HOk P w H h) (KX:K.In h) (q:SqT K H a xs):∃(eE:List Value) (o:Obj) (n:Nat),Vals xs eE/\h.get? a=some o/\o.cls= .type "tuple"/\o.data= .seq eE.toArray n:=by
 rcases q with q|⟨o,eE,n,e,hc,hd,_,hv⟩
 .obtain⟨_,eE,hv,o,e,hc,n,hd⟩:=(show h8 P w H h a (.tup xs)from q.ok hok);exact⟨eE,o,n,hv,e,hc,hd⟩
 .exact⟨eE.toList,o,n,hv,KX _ _ e,hc,by simp[hd]⟩
mutual
theorem Dw.reads (hok:HOk P w H h) (KX:K.In h):∀(d:WData) (v:V) (u:Value),Dw K H v d->RelV v u->∃as,ReadsW R cl h u d as
 | .none,_,_,x,r=>by
  cases x;cases r;exact⟨_,ReadsW.none⟩
 | .bool b,_,_,x,r=>by
  cases x;cases r;exact⟨_,ReadsW.bool b⟩
 | .int i,_,_,x,r=>by
  cases x;obtain⟨t,rfl⟩:=r;exact⟨_,ReadsW.int i t⟩
 | .str s,_,_,x,r=>by
  cases x;obtain⟨t,rfl⟩:=r;exact⟨_,ReadsW.str s t⟩
 | .bytes b,_,_,x,r=>by
  cases x;obtain⟨t,rfl⟩:=r;exact⟨_,ReadsW.bytes _ t⟩
 | .list ds,_,_,x,r=>by
  cases x with
  |lst hs ha=>
   cases r;obtain⟨eE,o,n,rv,ho,hc,hd⟩:=SR hok KX hs;obtain⟨as,hr⟩:=Dw.readsAll hok KX ds _ eE ha rv;exact⟨_,ReadsW.list ho hc hd hr⟩
 | .tuple ds,_,_,x,r=>by
  cases x with
  |tup hs ha=>
   cases r;obtain⟨eE,o,n,rv,ho,hc,hd⟩:=SS hok KX hs;obtain⟨as,hr⟩:=Dw.readsAll hok KX ds _ eE ha rv;exact⟨_,ReadsW.tuple ho hc hd hr⟩
 | .float _,_,_,x,_=>by cases x
 | .dict _,_,_,x,_=>by cases x
 | .bytearray _,_,_,x,_=>by cases x
 | .set _,_,_,x,_=>by cases x
 | .frozenset _,_,_,x,_=>by cases x
 | .obj _ _,_,_,x,_=>by cases x
theorem Dw.readsAll (hok:HOk P w H h) (KX:K.In h):∀(ds:List WData) (vs:List V) (us:List Value),qi K H vs ds->Vals vs us->∃as,ReadsAllW R cl h us ds as
 | [],_,_,x,r=>by
  cases x;cases r;exact⟨_,ReadsAllW.nil⟩
 |d::ds,_,_,x,r=>by
  cases x with
  |cons h1 h2=>
   cases r with
   |cons r1 r2=>
    obtain⟨as,q1⟩:=Dw.reads hok KX d _ _ h1 r1;obtain⟨bs,q2⟩:=Dw.readsAll hok KX ds _ _ h2 r2;exact⟨_,ReadsAllW.cons q1 q2⟩
end
end
mutual
def plW:WData->Bool
 | .none=>true
 | .bool _=>true
 | .int _=>true
 | .str _=>true
 | .bytes _=>true
 | .list xs=>yl xs
 | .tuple xs=>yl xs
 |_=>false
def yl:List WData->Bool
 | []=>true
 |x::r=>plW x&&yl r
end
theorem Fy {α:Type} {f:α->WData} (h:∀a,plW (f a)=true):∀l:List α,yl (l.map f)=true
 | []=>rfl
 |x::r=>by
  show (plW (f x)&&yl (r.map f))=true;rw[h x,Fy h r]<;>rfl
theorem qX:∀(c:Codec) (a:c.denote),plW (c.enc a)=true
 | .unit,_=>rfl
 | .bool,_=>rfl
 | .int _ _,_=>rfl
 | .nat _ _,_=>rfl
 | .u8,_=>rfl
 | .bytes _ _,_=>rfl
 | .text _ _ _ _,_=>rfl
 | .list _ _ c,a=>Fy (fun x=>qX c x) a
 | .pair c d,a=>by
  show (plW (c.enc a.1)&&(plW (d.enc a.2)&&true))=true;rw[qX c a.1,qX d a.2]<;>rfl
 | .triple c d e,a=>by
  show (plW (c.enc a.1)&&(plW (d.enc a.2.1)&&(plW (e.enc a.2.2)&&true)))=true;rw[qX c a.1,qX d a.2.1,qX e a.2.2]<;>rfl
 | .option c,none=>rfl
 | .option c,some x=>qX c x
theorem CH:∀(cs:List Codec) (a:Codec.denoteAll cs),yl (Codec.encAll cs a)=true
 | [],_=>rfl
 |c::cs,a=>by
  show (plW (c.enc a.1)&&yl (Codec.encAll cs a.2))=true;rw[qX c a.1,CH cs a.2]<;>rfl
theorem tu:∀{xs:List WData} {d:WData},d∈xs->d.weight<=WData.weightAll xs
 | [],d,h=>absurd h (by simp)
 |x::r,d,h=>by
  show d.weight<=x.weight+1+WData.weightAll r;rcases ag.mp h with e|m
  .rw[e];omega
  .have z:=tu m;omega
def toV:Value->V
 | .none=>.non
 | .bool b=>.bl b
 | .int i _=>.int i
 | .str x _=>.str x
 | .bytes b _=>.byt b
 | .ref a=>.ref a
 |_=>.non
def OkU (A:List Addr):Value->Prop
 | .none=>True
 | .bool _=>True
 | .int _ _=>True
 | .str _ _=>True
 | .bytes _ _=>True
 | .ref a=>a∈A
 |_=>False
theorem OkU.mono {A B:List Addr} (h:∀a∈A,a∈B):∀{u:Value},OkU A u->OkU B u:=fun {u} x=>by
 cases u with
 |ref a=>exact h a x
 |none=>trivial
 |bool b=>trivial
 |int i t=>trivial
 |str s t=>trivial
 |bytes b t=>trivial
 |_=>exact False.elim x
theorem M7 {A:List Addr} {u:Value} (x:OkU A u):RelV (toV u) u:=by
 cases u with
 |ref a=>rfl
 |none=>rfl
 |bool b=>rfl
 |int i t=>exact⟨t,rfl⟩
 |str s t=>exact⟨t,rfl⟩
 |bytes b t=>exact⟨t,rfl⟩
 |_=>exact False.elim x
theorem oI {A:List Addr}:∀{vs:List Value},(∀u∈vs,OkU A u)->Vals (vs.map toV) vs
 | [],_=>.nil
 |u::r,h=>.cons (M7 (h u (aC ..))) (oI fun x hx=>h x (ak _ hx))
def qj (h:Heap) (A:List Addr) (a:Addr):Prop:=∃vs:List Value,vs.length<=sizeLine/\(∀u∈vs,OkU A u)/\
 (h.get? a=some {cls:=.type "list",data:=.seq vs.toArray}\/h.get? a=some {cls:=.type "tuple",data:=.seq vs.toArray})
theorem qj.mono {h:Heap} {A B:List Addr} {a:Addr} (k:∀a∈A,a∈B) (x:qj h A a):qj h B a:=by
 obtain⟨vs,h1,h2,h3⟩:=x;exact⟨vs,h1,fun u hu=>(h2 u hu).mono k,h3⟩
theorem nP {P:Params} {h:Heap}:∀{vs:List Value} {ds:List WData},WellAll P h vs ds->vs.length=ds.length
 |_,_,.nil=>rfl
 |_,_,.cons _ b=>by
  show _+1=_+1;rw[nP b]
theorem CI {P:Params} {h:Heap} {v:Value} {ds:List WData} (x:Well P h v (.list ds)):∃(a:Addr) (vs:List Value),v= .ref a/\h.get? a=some {cls:=.type "list",data:=.seq vs.toArray}/\WellAll P h vs ds:=by
 cases x with
 |list ho kD=>exact⟨_,_,rfl,ho,kD⟩
theorem zJ {P:Params} {h:Heap} {v:Value} {ds:List WData} (x:Well P h v (.tuple ds)):∃(a:Addr) (vs:List Value),v= .ref a/\h.get? a=some {cls:=.type "tuple",data:=.seq vs.toArray}/\WellAll P h vs ds:=by
 cases x with
 |tuple ho kD=>exact⟨_,_,rfl,ho,kD⟩
theorem CJ {P:Params} {h:Heap} {us:List Value} {d:WData} {ds:List WData} (x:WellAll P h us (d::ds)):∃(v:Value) (vs:List Value),us=v::vs/\Well P h v d/\WellAll P h vs ds:=by
 cases x with
 |cons a b=>exact⟨_,_,rfl,a,b⟩
theorem Kr {n:Nat} (h:n<=1048576):n<=sizeLine:=ai h (by decide)
section
variable {P:Params} {h:Heap}
mutual
theorem M8:∀(d:WData) (v:Value),Well P h v d->plW d=true->d.weight<=1048576->∃A:List Addr,OkU A v/\∀a∈A,qj h A a
 | .none,_,x,_,_=>by
  cases x;exact⟨[],trivial,fun a m=>absurd m (by simp)⟩
 | .bool b,_,x,_,_=>by
  cases x;exact⟨[],trivial,fun a m=>absurd m (by simp)⟩
 | .int i,_,x,_,_=>by
  cases x;exact⟨[],trivial,fun a m=>absurd m (by simp)⟩
 | .str s,_,x,_,_=>by
  cases x;exact⟨[],trivial,fun a m=>absurd m (by simp)⟩
 | .bytes b,_,x,_,_=>by
  cases x;exact⟨[],trivial,fun a m=>absurd m (by simp)⟩
 | .list ds,_,x,p,z=>by
  obtain⟨a,vs,rfl,ho,kD⟩:=CI x;have z2:WData.weightAll ds<=1048576:=z;obtain⟨A,h1,h2⟩:=uT ds _ kD p fun d hd=>ai (tu hd) z2
  have k:∀b∈A,b∈a::A:=fun b hb=>ak _ hb
  refine⟨a::A,aC ..,fun b hb=>?_⟩
  rcases ag.mp hb with e|m
  .rw[e];exact⟨vs,Kr (by rw[nP kD];exact ai (PySem.W.length_le_weightAllW ds) z2),fun u hu=>(h1 u hu).mono k,.inl ho⟩
  .exact(h2 b m).mono k
 | .tuple ds,_,x,p,z=>by
  obtain⟨a,vs,rfl,ho,kD⟩:=zJ x;have z2:WData.weightAll ds<=1048576:=z;obtain⟨A,h1,h2⟩:=uT ds _ kD p fun d hd=>ai (tu hd) z2
  have k:∀b∈A,b∈a::A:=fun b hb=>ak _ hb
  refine⟨a::A,aC ..,fun b hb=>?_⟩
  rcases ag.mp hb with e|m
  .rw[e];exact⟨vs,Kr (by rw[nP kD];exact ai (PySem.W.length_le_weightAllW ds) z2),fun u hu=>(h1 u hu).mono k,.inr ho⟩
  .exact(h2 b m).mono k
 | .float _,_,_,p,_=>Bool.noConfusion (show false=true from p)
 | .dict _,_,_,p,_=>Bool.noConfusion (show false=true from p)
 | .bytearray _,_,_,p,_=>Bool.noConfusion (show false=true from p)
 | .set _,_,_,p,_=>Bool.noConfusion (show false=true from p)
 | .frozenset _,_,_,p,_=>Bool.noConfusion (show false=true from p)
 | .obj _ _,_,_,p,_=>Bool.noConfusion (show false=true from p)
theorem uT:∀(ds:List WData) (vs:List Value),WellAll P h vs ds->yl ds=true->(∀d∈ds,d.weight<=1048576)->∃A:List Addr,(∀u∈vs,OkU A u)/\∀a∈A,qj h A a
 | [],_,x,_,_=>by
  cases x;exact⟨[],fun u m=>absurd m (by simp),fun a m=>absurd m (by simp)⟩
 |d::ds,_,x,p,z=>by
  obtain⟨v,vs,rfl,x1,x2⟩:=CJ x;have q:plW d=true/\yl ds=true:=Bool.and_eq_true_iff.mp p;obtain⟨A,a1,a2⟩:=M8 d v x1 q.1 (z d (aC ..));obtain⟨B,b1,b2⟩:=uT ds vs x2 q.2 fun e he=>z e (ak _ he)
  have kA:∀b∈A,b∈A++B:=fun b hb=>bO.mpr (.inl hb)
  have kB:∀b∈B,b∈A++B:=fun b hb=>bO.mpr (.inr hb)
  refine⟨A++B,fun u hu=>?_,fun b hb=>?_⟩
  .rcases ag.mp hu with e|m
   .rw[e];exact a1.mono kA
   .exact(b1 u m).mono kB
  .rcases bO.mp hb with m|m
   .exact(a2 b m).mono kA
   .exact(b2 b m).mono kB
end
end
def PN (o:Obj):Option HO:=match o.data with
 | .seq vs _=>if (o.cls==Value.type "list")=true then some (.frz o (.lst (vs.toList.map toV)))else some (.frz o (.tup (vs.toList.map toV)))
 |_=>none
def oW (K:PySem.W.Frag) (h:Heap) (A:List Addr):Hp:=fun b=>if b∈A then (if (K.lookup b).isNone=true then (h.get? b).bind PN else none)else none
def Fz (H:Hp):Prop:=∀b,H b=none\/∃o u,H b=some (.frz o u)
theorem FA (vs:List Value):PN {cls:=.type "list",data:=.seq vs.toArray}=some (.frz {cls:=.type "list",data:=.seq vs.toArray} (.lst (vs.map toV))):=by
 show (if (Value.type "list"==Value.type "list")=true then some (HO.frz {cls:=.type "list",data:=.seq vs.toArray} (.lst (vs.toArray.toList.map toV)))else some (HO.frz {cls:=.type "list",data:=.seq vs.toArray} (.tup (vs.toArray.toList.map toV))))=_
 rw[aq (bT _)]
theorem FC (vs:List Value):PN {cls:=.type "tuple",data:=.seq vs.toArray}=some (.frz {cls:=.type "tuple",data:=.seq vs.toArray} (.tup (vs.map toV))):=by
 show (if (Value.type "tuple"==Value.type "list")=true then some (HO.frz {cls:=.type "tuple",data:=.seq vs.toArray} (.lst (vs.toArray.toList.map toV)))else some (HO.frz {cls:=.type "tuple",data:=.seq vs.toArray} (.tup (vs.toArray.toList.map toV))))=_
 rw[aj (by decide)]
section
variable {P:Program} {w:World} {K:PySem.W.Frag} {h:Heap} {A:List Addr}
theorem y9 {b:Addr} {o:Obj} (hb:b∈A) (hk:K.lookup b=none) (e:h.get? b=some o):oW K h A b=PN o:=by
 unfold oW;rw[aq hb,hk,aq (show (none:Option Obj).isNone=true from rfl),e]<;>rfl
theorem PQ {b:Addr} {u:HO} (q:oW K h A b=some u):b∈A/\K.lookup b=none:=by
 unfold oW at q;by_cases hb:b∈A
 .rw[aq hb]at q;cases hk:K.lookup b with
  |none=>exact⟨hb,rfl⟩
  |some o=>
   rw[hk,aj (by simp)]at q
   cases q
 .rw[aj hb]at q;cases q
theorem za (ar:∀a∈A,qj h A a) {b:Addr} {u:HO} (q:oW K h A b=some u):K.lookup b=none/\∃vs:List Value,vs.length<=sizeLine/\(∀u∈vs,OkU A u)/\
  ((h.get? b=some {cls:=.type "list",data:=.seq vs.toArray}/\u= .frz {cls:=.type "list",data:=.seq vs.toArray} (.lst (vs.map toV)))\/
   (h.get? b=some {cls:=.type "tuple",data:=.seq vs.toArray}/\u= .frz {cls:=.type "tuple",data:=.seq vs.toArray} (.tup (vs.map toV)))):=by
 obtain⟨hb,hk⟩:=PQ q;obtain⟨vs,h1,h2,h3⟩:=ar b hb;refine⟨hk,vs,h1,h2,?_⟩;rcases h3 with e|e
 .rw[y9 hb hk e,FA]at q;exact .inl ⟨e,(a9 q).symm⟩
 .rw[y9 hb hk e,FC]at q;exact .inr ⟨e,(a9 q).symm⟩
theorem Ln (ar:∀a∈A,qj h A a):Fz (oW K h A):=fun b=>by
 cases q:oW K h A b with
 |none=>exact .inl rfl
 |some u=>
  obtain⟨_,vs,_,_,⟨_,e⟩|⟨_,e⟩⟩:=za ar q
  .exact .inr ⟨_,_,by rw[e]⟩
  .exact .inr ⟨_,_,by rw[e]⟩
theorem PR (ar:∀a∈A,qj h A a):HOk P w (oW K h A) h:=fun b u q=>by
 obtain⟨_,vs,h1,h2,⟨e,rfl⟩|⟨e,rfl⟩⟩:=za ar q
 .exact⟨e,by rw[List.length_map];exact h1,vs,_,oI h2,e⟩
 .exact⟨e,by rw[List.length_map];exact h1,vs,oI h2,_,e,rfl,_,rfl⟩
theorem zb {c c':Value} {vs us:List Value} (e:(some {cls:=c,data:=.seq vs.toArray}:Option Obj)=some {cls:=c',data:=.seq us.toArray}):c=c'/\vs=us:=by
 have e1:=a9 e;have e2:c=c':=congrArg Obj.cls e1;have e3:Data.seq vs.toArray=Data.seq us.toArray:=congrArg Obj.data e1;injection e3 with e4
 refine⟨e2,?_⟩;have e5:=congrArg Array.toList e4;simpa using e5
theorem Wc (KX:K.In h) (ar:∀a∈A,qj h A a) {a:Addr} {vs:List Value} (ha:a∈A) (e:h.get? a=some {cls:=.type "list",data:=.seq vs.toArray}):(∀u∈vs,OkU A u)/\SqL K (oW K h A) a (vs.map toV):=by
 obtain⟨us,h1,h2,h3⟩:=ar a ha;have hu:us=vs:=by
  rcases h3 with q|q
  .rw[e]at q;exact(zb q).2.symm
  .rw[e]at q;exact absurd (Value.type.inj (zb q).1) (by decide)
 subst hu;refine⟨h2,?_⟩;cases hk:K.lookup a with
 |none=>exact .inl (.inr ⟨_,by rw[y9 ha hk e,FA]⟩)
 |some o=>
  have e2:=KX a o hk;rw[e]at e2;obtain rfl:=a9 e2;exact .inr ⟨_,us.toArray,_,hk,rfl,rfl,rfl,by rw[aL];exact h1,by simpa using oI h2⟩
theorem Wd (KX:K.In h) (ar:∀a∈A,qj h A a) {a:Addr} {vs:List Value} (ha:a∈A) (e:h.get? a=some {cls:=.type "tuple",data:=.seq vs.toArray}):(∀u∈vs,OkU A u)/\SqT K (oW K h A) a (vs.map toV):=by
 obtain⟨us,h1,h2,h3⟩:=ar a ha;have hu:us=vs:=by
  rcases h3 with q|q
  .rw[e]at q;exact absurd (Value.type.inj (zb q).1) (by decide)
  .rw[e]at q;exact(zb q).2.symm
 subst hu;refine⟨h2,?_⟩;cases hk:K.lookup a with
 |none=>exact .inl (.inr ⟨_,by rw[y9 ha hk e,FC]⟩)
 |some o=>
  have e2:=KX a o hk;rw[e]at e2;obtain rfl:=a9 e2;exact .inr ⟨_,us.toArray,_,hk,rfl,rfl,by rw[aL];exact h1,by simpa using oI h2⟩
mutual
theorem SU {Pm:Params} (KX:K.In h) (ar:∀a∈A,qj h A a):∀(d:WData) (v:Value),Well Pm h v d->plW d=true->OkU A v->Dw K (oW K h A) (toV v) d
 | .none,_,x,_,_=>by
  cases x;exact .non
 | .bool b,_,x,_,_=>by
  cases x;exact .bl b
 | .int i,_,x,_,_=>by
  cases x;exact .int i
 | .str s,_,x,_,_=>by
  cases x;exact .str s
 | .bytes b,_,x,_,_=>by
  cases x;have z:=Dw.byt (K:=K) (H:=oW K h A) b.toArray;exact z
 | .list ds,_,x,p,hu=>by
  obtain⟨a,vs,rfl,ho,kD⟩:=CI x;obtain⟨h2,hs⟩:=Wc KX ar hu ho;exact .lst hs (Ds KX ar ds _ kD p h2)
 | .tuple ds,_,x,p,hu=>by
  obtain⟨a,vs,rfl,ho,kD⟩:=zJ x;obtain⟨h2,hs⟩:=Wd KX ar hu ho;exact .tup hs (Ds KX ar ds _ kD p h2)
 | .float _,_,_,p,_=>Bool.noConfusion (show false=true from p)
 | .dict _,_,_,p,_=>Bool.noConfusion (show false=true from p)
 | .bytearray _,_,_,p,_=>Bool.noConfusion (show false=true from p)
 | .set _,_,_,p,_=>Bool.noConfusion (show false=true from p)
 | .frozenset _,_,_,p,_=>Bool.noConfusion (show false=true from p)
 | .obj _ _,_,_,p,_=>Bool.noConfusion (show false=true from p)
theorem Ds {Pm:Params} (KX:K.In h) (ar:∀a∈A,qj h A a):∀(ds:List WData) (vs:List Value),WellAll Pm h vs ds->yl ds=true->(∀u∈vs,OkU A u)->qi K (oW K h A) (vs.map toV) ds
 | [],_,x,_,_=>by
  cases x;exact .nil
 |d::ds,_,x,p,hu=>by
  obtain⟨v,vs,rfl,x1,x2⟩:=CJ x;have q:plW d=true/\yl ds=true:=Bool.and_eq_true_iff.mp p;exact .cons (SU KX ar d v x1 q.1 (hu _ (aC ..))) (Ds KX ar ds vs x2 q.2 fun u m=>hu u (ak _ m))
end
end
theorem Lp {P:Program} {w:World} {K:PySem.W.Frag} {mg mb:Str->Option Value} {CX:CXT} {k:Nat} {fa:Addr} {fd:FuncData} {ps:List Str} {sp:Sp} {s₁:Shared} {vals:List Value} {ds:List WData} {R:PySem.W.WRecords} {cl:Str->Option Addr} {d0:WData}
  (KX:K.In s₁.heap) (hns:s₁.heap.Ns mainGlobals mg) (hb:s₁.heap.Ns builtinsNs mb) (hbb:∀x:Str,x≠"__name__"->mb x=bootBuiltins x) (hlim:s₁.heap.NoLimit) (hg:s₁.gens=#[])
  (hwl:WellAll w.params s₁.heap vals ds) (hpl:yl ds=true) (hwt:∀d∈ds,d.weight<=1048576) (hr:iI k callerA)
  (F:∀base:Heap,K.In base->base.Ns mainGlobals mg->oC P w K mg base CX k fa fd ps sp) (hbind:∀(s:Shared) (us:List Value),us.length=ps.length->BindsTo s fd ⟨us,[]⟩ (ps.zip us)) (hlen:ds.length=ps.length)
  (hsp:∀(H:Hp) (xs:List V),Fz H->qi K H xs ds->sp xs H (fun v H'=>Dw K H' v d0) fun _ _ _=>False)
  (hCX:∀H e s',CX [] H s₁ (fun _ _ _=>False) e s'->False):
  codeAny (model P w) callerA (.call (.ref fa) ⟨vals,[]⟩) (fun r s'=>∃u as,r= .ok (.ret u)/\ReadsW R cl s'.heap u d0 as/\OldK s₁.heap s'.heap/\s'.os=s₁.os/\AllBare s'.gens) s₁:=by
 obtain⟨A,ho,ar⟩:=uT ds vals hwl hpl hwt;have hO:Fz (oW K s₁.heap A):=Ln ar;have hok:HOk P w (oW K s₁.heap A) s₁.heap:=PR ar;have hS:=Ds KX ar ds vals hwl hpl ho;have hV:=oI ho;have hK:∀b u,oW K s₁.heap A b=some u->K.lookup b=none:=fun b u q=>(za ar q).1
 have noA:∀{b:Addr} {o:Obj} {es:Array DictEntry} {ep:Nat},s₁.heap.get? b=some o->o.data= .dict es ep->oW K s₁.heap A b=none:=fun {b o es ep} e d=>by
  cases q:oW K s₁.heap A b with
  |none=>rfl
  |some u=>
   obtain⟨_,vs,_,_,⟨e2,_⟩|⟨e2,_⟩⟩:=za ar q
   .rw[e2]at e;cases e;have d':Data.seq vs.toArray _=Data.dict es ep:=d;cases d'
   .rw[e2]at e;cases e;have d':Data.seq vs.toArray _=Data.dict es ep:=d;cases d'
 generalize oW K s₁.heap A=H at hO hok hS hK noA;have base_of:∀{b:Addr} {o:Obj},s₁.heap.get? b=some o->H b=none->(C8 s₁.heap H).get? b=some o:=fun e n=>Mp e n
 have nsK:∀{b:Addr} {m:Str->Option Value},s₁.heap.Ns b m->(C8 s₁.heap H).Ns b m:=fun {b m} ⟨o,es,ep,e,d,r⟩=>⟨o,es,ep,base_of e (noA e d),d,r⟩
 have nK:∀b o,K.lookup b=some o->H b=none:=fun b o e=>by
  cases q:H b with
  |none=>rfl
  |some u=>
   rw[hK b u q]at e;cases e
 have hKb:K.In (C8 s₁.heap H):=fun b o e=>base_of (KX b o e) (nK b o e)
 have hM:Mod K mg (C8 s₁.heap H):=⟨hKb,nsK hns,⟨mb,nsK hb,hbb⟩,let ⟨mc,h1,h2⟩:=hlim;⟨mc,nsK h1,h2⟩⟩
 have e0:Hz P w K mg (C8 s₁.heap H) callerA [] s₁ H:=⟨rfl,hM,fun b o e=>Pd e,XT (K3 _ _),trivial,fun b hb=>absurd (show b∈([]:List Addr)from hb) (by simp),hok,.of_eq hg⟩
 have hl:vals.length=ps.length:=by rw[nP hwl];exact hlen
 refine XU ((F _ hKb (nsK hns)).run callerA [] s₁ H ⟨vals,[]⟩ vals (vals.map toV) _ _ hr e0 (hbind s₁ vals hl) hV (hsp H _ hO hS)) fun r s' x=>?_
 cases r with
 |error e=>exact(hCX H e s' x).elim
 |ok fl=>
  cases fl with
  |next=>exact False.elim x
  |brk=>exact False.elim x
  |cont=>exact False.elim x
  |ret u=>
   obtain⟨v,H',os,bare,un,hok',r',q⟩:=x;have kept:∀b o,s₁.heap.get? b=some o->s'.heap.get? b=some o:=fun b o e=>by
    cases q2:H b with
    |none=>exact un.keep b o e q2 (by intro z;exact absurd (show b∈([]:List Addr)from z) (by simp)) (by simp)
    |some u2=>
     rcases hO b with z|⟨ob,u3,z⟩
     .rw[q2]at z;cases z
     .have z2:=un.C7 b ob _ z;obtain⟨e1,_⟩:=hok b _ z;obtain⟨e2,_⟩:=hok' b _ z2;rw[e]at e1;cases e1;exact e2
   have KX':K.In s'.heap:=fun b o e=>kept b o (KX b o e)
   obtain⟨as,hrd⟩:=Dw.reads (R:=R) (cl:=cl) hok' KX' d0 v u q r';exact⟨u,as,rfl,hrd,OldK.of_keep kept,os,bare⟩
theorem zK {ds:List WData} (h:WData.layableAll ds=true):∀d∈ds,d.weight<=1048576:=fun d hd=>
 (PySem.W.layableW_iff.mp (bJ.mp h d hd)).2.2
theorem zL:∀(cs:List Codec) (a:Codec.denoteAll cs),(Codec.encAll cs a).length=cs.length
 | [],_=>rfl
 |c::cs,a=>by
  show (Codec.encAll cs a.2).length+1=cs.length+1;rw[zL cs a.2]
theorem Lq {r:OpenSpec} {k:Nat} {q:Program} {loose:List Str} {XP:(Str->Option Value)->Heap->Prop} {YP:World->Heap->Prop} {d:DefRec} {K:Params->PySem.W.Frag} {CX:World->CXT} {ps:List Str} {sp:World->Sp}
  (hwell:r.wellSaid=true) (hdf:d.params.defaults= []) (hlen:r.args.length=ps.length) (hr:iI k callerA)
  (hY:∀(w:World) (h:Heap),YP w h->(K w.params).In h)
  (F:∀(w:World) (mg:Str->Option Value) (fa:Addr) (h:Heap),YP w h->(K w.params).In h->h.Ns mainGlobals mg->mg d.name=some (.ref fa)->
   ∃fd:FuncData,(∀(s:Shared) (us:List Value),us.length=ps.length->BindsTo s fd ⟨us,[]⟩ (ps.zip us))/\
    ∀base:Heap,(K w.params).In base->base.Ns mainGlobals mg->oC r.prog w (K w.params) mg base (CX w) k fa fd ps (sp w))
  (hsp:∀(w:World) (H:Hp) (xs:List V) (a:Codec.denoteAll r.args),Fz H->Codec.withinAll r.args a=true->Codec.app r.args r.asked a=true->qi (K w.params) H xs (Codec.encAll r.args a)->
   sp w xs H (fun v H'=>Dw (K w.params) H' v (r.ret.enc (Codec.app r.args r.f a))) fun _ _ _=>False)
  (hCX:∀(w:World) (H:Hp) (s:Shared) (e:Value) (s':Shared),CX w [] H s (fun _ _ _=>False) e s'->False):
  PySem.W.WalkOS q loose XP YP r d [] (fun f vs=>PySem.call f vs):=by
 intro w s_0 s₁ mg mb G Y fa o pm cd doc dV kV ho hd hcd hD hmg hg args vals as hpre hlay hrd hwl hlo;obtain⟨a,e1,e2⟩:=PySem.W.os_pre_some hpre;obtain⟨e3,hwi⟩:=Codec.encAll_of_decAll r.args args a e1;subst e3;have KX:=hY w _ Y;obtain⟨fd,hb,hF⟩:=F w mg fa _ Y KX G.T.g hmg;refine PySem.W.enter_call (XU (Lp (R:=[]) (cl:=classAt s_0.heap) (d0:=r.ret.enc (Codec.app r.args r.f a)) KX G.T.g G.T.b G.T.builtins G.T.nolimit hg hwl (CH _ _) (zK hlay) hr hF hb (by rw[zL];exact hlen)
  (fun H xs hO hS=>hsp w H xs a hO hwi e2 hS) fun H e s'=>hCX w H s₁ e s') fun r' s' hq=>?_)
 obtain⟨u,ig,rfl,h1,h2,h3,h4⟩:=hq;exact⟨.inl ⟨u,_,ig,rfl,fun _=>rfl,h1,(OpenSpec.post_iff hwell hwi _ _).mpr rfl,fun z=>Bool.noConfusion (show false=true from z)⟩,h2,h3,h4⟩
theorem HJ {r:OpenSpec} {k:Nat} {q:Program} {loose:List Str} {XP:(Str->Option Value)->Heap->Prop} {YP:World->Heap->Prop} {d:DefRec} {K:Params->PySem.W.Frag} {CX:CXT} {ps:List Str} {sp:PySem.W.Frag->Sp}
  (hwell:r.wellSaid=true) (hdf:d.params.defaults= []) (hlen:r.args.length=ps.length) (hr:iI k callerA)
  (hY:∀(w:World) (h:Heap),YP w h->(K w.params).In h)
  (F:∀(w:World) (mg:Str->Option Value) (fa:Addr) (h:Heap),YP w h->(K w.params).In h->h.Ns mainGlobals mg->mg d.name=some (.ref fa)->
   ∃fd:FuncData,(∀(s:Shared) (us:List Value),us.length=ps.length->BindsTo s fd ⟨us,[]⟩ (ps.zip us))/\
    ∀base:Heap,(K w.params).In base->base.Ns mainGlobals mg->oC r.prog w (K w.params) mg base CX k fa fd ps (sp (K w.params)))
  (hsp:∀(K:PySem.W.Frag) (H:Hp) (xs:List V) (a:Codec.denoteAll r.args),Fz H->Codec.withinAll r.args a=true->Codec.app r.args r.asked a=true->qi K H xs (Codec.encAll r.args a)->
   sp K xs H (fun v H'=>Dw K H' v (r.ret.enc (Codec.app r.args r.f a))) fun _ _ _=>False)
  (hCX:∀(H:Hp) (s:Shared) (e:Value) (s':Shared),CX [] H s (fun _ _ _=>False) e s'->False):
  PySem.W.WalkOS q loose XP YP r d [] (fun f vs=>PySem.call f vs):=
 Lq (K:=K) (CX:=fun _=>CX) (sp:=fun w=>sp (K w.params)) hwell hdf hlen hr hY F (fun w H xs a h1 h2 h3 h4=>hsp (K w.params) H xs a h1 h2 h3 h4) fun _ H s e s'=>hCX H s e s'
end L2
namespace Pz
open Lo
inductive Ent where
 |colon (i:Nat)|iff (i:Nat)|kl (i e:Nat)|whl (i:Nat)|j5 (i d:Nat)
def Ent.code:Ent->Nat
 | .colon _=>0| .iff _=>1| .kl _ _=>2| .whl _=>3| .j5 _ _=>4
def Ent.kF:Ent->Bool
 | .colon _=>true|_=>false
structure RS where
 wait:List Ent
 names:List Bytes
 tg:List Nat
def nQ (k:Nat) (st:RS):Except Nat RS:=match st.wait with
 | .iff i::r=>.ok {st with wait:=r,tg:=st.tg.set i (k+1)}
 | .kl _ e::r=>.ok {st with wait:=r,tg:=st.tg.set e (k+1)}
 | .j5 i d::r=>.ok {st with wait:=r,tg:=(st.tg.set d (k+1)).set k i}
 |_=>.error 2
def lX (k:Nat) (st:RS):Except Nat RS:=match st.wait with
 | .iff i::r=>.ok {st with wait:=.kl i k::r,tg:=st.tg.set i (k+1)}
 |_=>.error 2
def qY (k:Nat) (st:RS):Except Nat RS:=match st.wait with
 | .whl i::r=>.ok {st with wait:=.j5 i k::r}
 |_=>.error 2
def km (k:Nat) (st:RS):Except Nat RS:=match st.wait with
 | []=>.ok {st with wait:=[.colon k]}
 |_=>.error 2
def lY (k:Nat) (st:RS):Except Nat RS:=match st.wait with
 | .colon i::r=>.ok {st with wait:=r,tg:=st.tg.set i (k+1)}
 |_=>.error 2
def fI (w:List Ent):Bool:=match w.getLast? with
 |some e=>e.kF
 |none=>false
def jU (st:RS):Except Nat RS:=if fI st.wait=true then .ok st else .error 2
def jn (t:Tok) (st:RS):Except Nat RS:=
 if isName t=true then (if t.b∈st.names then .error 4 else .ok {st with names:=t.b::st.names})else .error 2
def kG (l:List Tok) (k:Nat) (t:Tok) (st:RS):Except Nat RS:=match bodyOf l t.b with
 |some j=>.ok {st with tg:=st.tg.set k (j+1)}
 |none=>.error 3
def jc (k:Nat) (n:Nat) (st:RS):Except Nat RS:=
 if n=22 then .ok {st with wait:=.iff k::st.wait}
 else if n=23 then lX k st
 else if n=24 then nQ k st
 else if n=25 then .ok {st with wait:=.whl k::st.wait}
 else if n=26 then qY k st
 else if n=27 then km k st
 else if n=28 then lY k st
 else if n=29 then jU st
 else .ok st
def step (l:List Tok) (k:Nat) (t:Tok) (st:RS):Except Nat RS:=
 match kindOf t.b with
 | .none_=>.error 1
 |kd=>if defines l k=true then jn t st else match kd with
  | .op n=>jc k n st
  | .name=>kG l k t st
  | .number z=>if isValue z=true then .ok st else .error 5
  |_=>.ok st
def scan (l:List Tok):Nat->Nat->RS->Except (Nat×Nat) RS
 |0,_,st=>.ok st
 |f+1,k,st=>match l[k]? with
  |none=>.ok st
  |some t=>match step l k t st with
   | .error e=>.error (e,k)
   | .ok gg=>scan l f (k+1) gg
def st0 (l:List Tok):RS:=⟨[],[],(List.range l.length).map (·+1)⟩
def readAll (l:List Tok):Except (Nat×Nat) RS:=scan l l.length 0 (st0 l)
def codes (w:List Ent):List Nat:=w.map Ent.code
def zM (l:List Tok) (k:Nat) (w:List Ent):Prop:=
 if defines l k=true then w.map Ent.code= [0]/\shape l=(match l[k]? with
  |none=>some k
  |some n=>if isName n=true then shapeFrom (k+1) [0] (l.drop (k+1))else some k)
 else shape l=shapeFrom k (codes w) (l.drop k)
def gOf (t:Bytes) (l:List Tok) (k:Nat):Option (Nat×Nat):=
 let own:=faultAt l k
 let bad:=shape l==some k
 if own=some 1 then some (1,placeOf t l k)else if bad=true then some (2,placeOf t l k)else own.map fun (f:Nat)=>(f,placeOf t l k)
theorem uU:∀(n:Nat) (r:List Tok),r.length<=n->∀(k:Nat) (w:List Nat) (m:Nat),shapeFrom k w r=some m->k<=m:=by
 intro n
 induction n with
 |zero=>
  intro r hr k w m h;cases r with
  |nil=>unfold shapeFrom at h;split at h<;>simp_all
  |cons _ _=>simp at hr
 |succ n ih=>
  intro r hr k w m h;cases r with
  |nil=>unfold shapeFrom at h;split at h<;>simp_all
  |cons t r=>
   have hr':r.length<=n:=by simpa using hr
   unfold shapeFrom at h;split at h
   .exact bu (ih r hr' _ _ _ h)
   .split at h
    .exact bu (ih r hr' _ _ _ h)
    .simp_all
   .split at h
    .exact bu (ih r hr' _ _ _ h)
    .simp_all
   .exact bu (ih r hr' _ _ _ h)
   .split at h
    .exact bu (ih r hr' _ _ _ h)
    .simp_all
   .split at h
    .simp_all
    .split at h
     .injection h with h;omega
     .rename_i n' s
      split at h
      .have hs:s.length<=n:=by simp at hr';omega
       have:=ih s hs _ _ _ h
       omega
      .injection h with h;omega
   .split at h
    .exact bu (ih r hr' _ _ _ h)
    .simp_all
   .split at h
    .exact bu (ih r hr' _ _ _ h)
    .simp_all
   .exact bu (ih r hr' _ _ _ h)
theorem jd {t:Tok}:isName t=true↔kindOf t.b= .name:=by
 unfold isName;split<;>simp_all
theorem qZ {t:Tok} {n:Nat}:isOp n t=true↔kindOf t.b= .op n:=by
 unfold isOp;split<;>simp_all
theorem mD {l:List Tok} {k:Nat} {t:Tok} (h:l[k]?=some t):defines l (k+1)=isOp COLON t:=by
 unfold defines;simp[h]
theorem oX {l:List Tok}:defines l 0=false:=by
 unfold defines;simp
theorem FD {t:Tok} {r:List Tok} {k:Nat} {w:List Nat} (h:∀n,kindOf t.b= .op n->n<22\/29<n):shapeFrom k w (t::r)=shapeFrom (k+1) w r:=by
 conv=>lhs;unfold shapeFrom
 split
 all_goals first
  |rfl
  |(rename_i e;have:=h _ e;omega)
theorem We {t:Tok} {r:List Tok} {k:Nat} {w:List Nat} (h:kindOf t.b= .op 22):shapeFrom k w (t::r)=shapeFrom (k+1) (1::w) r:=by
 conv=>lhs;unfold shapeFrom
 rw[h];rfl
theorem Wf {t:Tok} {r:List Tok} {k:Nat} {w:List Nat} (h:kindOf t.b= .op 23):shapeFrom k w (t::r)=if w.head?=some 1 then shapeFrom (k+1) (2::w.drop 1) r else some k:=by
 conv=>lhs;unfold shapeFrom
 rw[h];rfl
theorem Wg {t:Tok} {r:List Tok} {k:Nat} {w:List Nat} (h:kindOf t.b= .op 24):shapeFrom k w (t::r)=if w.head?=some 1\/w.head?=some 2\/w.head?=some 4 then shapeFrom (k+1) (w.drop 1) r else some k:=by
 conv=>lhs;unfold shapeFrom
 rw[h];rfl
theorem Wh {t:Tok} {r:List Tok} {k:Nat} {w:List Nat} (h:kindOf t.b= .op 25):shapeFrom k w (t::r)=shapeFrom (k+1) (3::w) r:=by
 conv=>lhs;unfold shapeFrom
 rw[h];rfl
theorem Wi {t:Tok} {r:List Tok} {k:Nat} {w:List Nat} (h:kindOf t.b= .op 26):shapeFrom k w (t::r)=if w.head?=some 3 then shapeFrom (k+1) (4::w.drop 1) r else some k:=by
 conv=>lhs;unfold shapeFrom
 rw[h];rfl
theorem Wj {t:Tok} {r:List Tok} {k:Nat} {w:List Nat} (h:kindOf t.b= .op 27):shapeFrom k w (t::r)=if w.isEmpty=false then some k else (match r with
   | []=>some (k+1)
   |n::s=>if isName n=true then shapeFrom (k+2) [0] s else some (k+1)):=by
 conv=>lhs;unfold shapeFrom
 rw[h];rfl
theorem Wk {t:Tok} {r:List Tok} {k:Nat} {w:List Nat} (h:kindOf t.b= .op 28):shapeFrom k w (t::r)=if w.head?=some 0 then shapeFrom (k+1) (w.drop 1) r else some k:=by
 conv=>lhs;unfold shapeFrom
 rw[h];rfl
theorem Wl {t:Tok} {r:List Tok} {k:Nat} {w:List Nat} (h:kindOf t.b= .op 29):shapeFrom k w (t::r)=if w.getLast?=some 0 then shapeFrom (k+1) w r else some k:=by
 conv=>lhs;unfold shapeFrom
 rw[h];rfl
def tw (l:List Tok) (b:Bytes) (k:Nat):Bool:=defines l k&&(match l[k]? with
 |some t=>isName t&&t.b==b
 |none=>false)
theorem wA (l:List Tok) (b:Bytes):bodyOf l b=(List.range l.length).find? (tw l b):=rfl
theorem uV {l:List Tok} {b:Bytes} {k:Nat} {t:Tok} (h:l[k]?=some t):tw l b k=(defines l k&&(isName t&&t.b==b)):=by
 unfold tw;rw[h]
theorem zc {l:List Tok} {b:Bytes} {k:Nat} (h:tw l b k=true):k<l.length:=by
 unfold tw at h;cases e:l[k]? with
 |none=>rw[e]at h;simp at h
 |some t=>exact(aa.mp e).1
theorem nR {l:List Tok} {b:Bytes} {k:Nat}:bodyOf l b=some k↔tw l b k=true/\∀i,i<k->tw l b i=false:=by
 rw[wA,List.find?_range_eq_some]
 constructor
 .rintro⟨a,_,c⟩;exact⟨a,fun i hi=>by simpa using c i hi⟩
 .rintro⟨a,c⟩;exact⟨a,by simpa using zc a,fun i hi=>by simpa using c i hi⟩
theorem FE {l:List Tok} {b:Bytes}:bodyOf l b=none↔∀i,tw l b i=false:=by
 rw[wA,Xm]
 constructor
 .intro h i;cases e:tw l b i with
  |false=>rfl
  |true=>exact absurd e (h i (WS.mpr (zc e)))
 .intro h i _;rw[h i];simp
structure FI (t:Bytes) (l:List Tok) (k:Nat) (st:RS):Prop where
 sh:zM l k st.wait
 nm:∀b,b∈st.names↔∃i,i<k/\tw l b i=true
 no:∀i,i<k->gOf t l i=none
theorem oY {α:Type} {l:List α} {k:Nat} {x:α} (h:l[k]?=some x):l.drop k=x::l.drop (k+1):=by
 obtain⟨hk,e⟩:=aa.mp h;rw[cJ hk,e]
theorem lx {l:List Tok} {k:Nat} {x:Tok} (h:l[k]?=some x):faultAt l k=(match kindOf x.b with
  | .none_=>some 1
  | .number z=>if isValue z=true then none else some 5
  | .name=>if defines l k=true then (if bodyOf l x.b=some k then none else some 4)else if (bodyOf l x.b).isNone=true then some 3 else none
  |_=>none):=by
 unfold faultAt;rw[h];rfl
theorem tD {t:Bytes} {l:List Tok} {k:Nat} (h1:faultAt l k=none) (h2:∀m,shape l=some m->k<m):gOf t l k=none:=by
 have e:(shape l==some k)=false:=by
  cases hs:shape l with
  |none=>rfl
  |some m=>have:=h2 m hs;simp;omega
 unfold gOf;rw[h1,e];simp
theorem M9 {t:Bytes} {l:List Tok} {k f:Nat} (h1:faultAt l k=some f) (hf:f≠1) (h2:∀m,shape l=some m->k<m):gOf t l k=some (f,placeOf t l k):=by
 have e:(shape l==some k)=false:=by
  cases hs:shape l with
  |none=>rfl
  |some m=>have:=h2 m hs;simp;omega
 unfold gOf;rw[h1,e];simp[hf]
theorem RH {t:Bytes} {l:List Tok} {k:Nat} (h1:faultAt l k=some 1):gOf t l k=some (1,placeOf t l k):=by
 unfold gOf;rw[h1];simp
theorem Na {t:Bytes} {l:List Tok} {k:Nat} (h1:faultAt l k≠some 1) (h2:shape l=some k):gOf t l k=some (2,placeOf t l k):=by
 unfold gOf;rw[h2];simp[h1]
theorem xX {r:List Tok} {k:Nat} {w:List Nat} {l:List Tok} (h:shape l=shapeFrom (k+1) w r):∀m,shape l=some m->k<m:=by
 intro m hm;rw[h]at hm;exact uU _ _ (au _) _ _ _ hm
theorem FI.next {t:Bytes} {l:List Tok} {k:Nat} {st gg:RS} (F:FI t l k st) (hg:gOf t l k=none) (sh:zM l (k+1) gg.wait)
  (nm:∀b,b∈gg.names↔(b∈st.names\/tw l b k=true)):FI t l (k+1) gg:=by
 refine⟨sh,fun b=>?_,fun i hi=>?_⟩
 .rw[nm,F.nm]
  constructor
  .rintro(⟨i,hi,h⟩|h)
   .exact⟨i,by omega,h⟩
   .exact⟨k,by omega,h⟩
  .rintro⟨i,hi,h⟩;by_cases e:i=k
   .subst e;exact .inr h
   .exact .inl ⟨i,by omega,h⟩
 .by_cases e:i=k
  .subst e;exact hg
  .exact F.no i (by omega)
def Dt (t:Bytes) (l:List Tok) (k:Nat) (r:Except Nat RS):Prop:=match r with
 | .error f=>gOf t l k=some (f,placeOf t l k)
 | .ok gg=>FI t l (k+1) gg
theorem mX {l:List Tok} {k:Nat} {x:Tok} {st:RS} (hx:l[k]?=some x) (hd:defines l k=false):∀b,b∈st.names↔(b∈st.names\/tw l b k=true):=by
 intro b;rw[uV hx,hd];simp
theorem mY {l:List Tok} {k:Nat} {x:Tok} {w:List Ent} (hx:l[k]?=some x) (hc:isOp COLON x=false) (h:shape l=shapeFrom (k+1) (codes w) (l.drop (k+1))):zM l (k+1) w:=by
 unfold zM;rw[mD hx,hc];simpa using h
theorem q0 {x:Tok} (h:kindOf x.b≠ .op 27):isOp COLON x=false:=by
 cases e:isOp COLON x with
 |false=>rfl
 |true=>exact absurd (qZ.mp e) h
theorem uW {w:List Ent}:(codes w).head?=(w.head?).map Ent.code:=by unfold codes;cases w<;>rfl
theorem zN (w:List Ent):fI w=decide ((codes w).getLast?=some 0):=by
 unfold fI codes;rw[List.getLast?_map];cases w.getLast? with
 |none=>rfl
 |some e=>cases e<;>rfl
theorem Lr {t:Bytes} {l:List Tok} {k n:Nat} {x:Tok} {st:RS} (F:FI t l k st) (hx:l[k]?=some x) (hd:defines l k=false) (hk:kindOf x.b= .op n):
  Dt t l k (jc k n st):=by
 have hs:shape l=shapeFrom k (codes st.wait) (x::l.drop (k+1)):=by
  have:=F.sh;unfold zM at this;rw[hd,oY hx]at this;simpa using this
 have own:faultAt l k=none:=by rw[lx hx,hk]
 have bad:shape l=some k->Dt t l k (.error 2):=fun h=>Na (by rw[own];simp) h
 have good:∀gg:RS,n≠27->gg.names=st.names->shape l=shapeFrom (k+1) (codes gg.wait) (l.drop (k+1))->Dt t l k (.ok gg):=by
  intro gg hn e h;refine F.next (tD own (xX h)) (mY hx (q0 (by rw[hk];intro q;injection q with q;exact hn q)) h) ?_
  rw[e];exact mX hx hd
 unfold jc;split
 .subst n;exact good _ (by decide) rfl (by rw[hs,We hk];rfl)
 split
 .subst n;rw[Wf hk,uW]at hs;unfold lX;split
  .rename_i i r e
   rw[e]at hs;refine good _ (by decide) rfl ?_
   simpa[codes,Ent.code,e]using hs
  .rename_i nM
   refine bad ?_;rw[hs,aj];cases e:st.wait with
   |nil=>simp
   |cons a r=>cases a<;>simp_all [Ent.code]
 split
 .subst n;rw[Wg hk,uW]at hs;unfold nQ;split
  .rename_i i r e
   rw[e]at hs;refine good _ (by decide) rfl ?_
   simpa[codes,Ent.code,e]using hs
  .rename_i i j r e
   rw[e]at hs;refine good _ (by decide) rfl ?_
   simpa[codes,Ent.code,e]using hs
  .rename_i i j r e
   rw[e]at hs;refine good _ (by decide) rfl ?_
   simpa[codes,Ent.code,e]using hs
  .refine bad ?_;rw[hs,aj];cases e:st.wait with
   |nil=>simp
   |cons a r=>cases a<;>simp_all [Ent.code]
 split
 .subst n;exact good _ (by decide) rfl (by rw[hs,Wh hk];rfl)
 split
 .subst n;rw[Wi hk,uW]at hs;unfold qY;split
  .rename_i i r e
   rw[e]at hs;refine good _ (by decide) rfl ?_
   simpa[codes,Ent.code,e]using hs
  .refine bad ?_;rw[hs,aj];cases e:st.wait with
   |nil=>simp
   |cons a r=>cases a<;>simp_all [Ent.code]
 split
 .subst n;rw[Wj hk]at hs;unfold km;split
  .rename_i e
   rw[e]at hs;have hc:isOp COLON x=true:=qZ.mpr hk;have hs':shape l=(match l[k+1]? with
     |none=>some (k+1)
     |some n=>if isName n=true then shapeFrom (k+1+1) [0] (l.drop (k+1+1))else some (k+1)):=by
    rw[hs];cases e2:l[k+1]? with
    |none=>
     have:l.drop (k+1)= []:=W3.mpr (Xv.mp e2)
     rw[this];rfl
    |some y=>rw[oY e2];rfl
   refine F.next (tD own ?_) ?_ (mX hx hd)
   .intro m hm;rw[hs']at hm;split at hm
    .injection hm with hm;omega
    .split at hm
     .have:=uU _ _ (au _) _ _ _ hm;omega
     .injection hm with hm;omega
   .unfold zM;rw[mD hx,hc];exact⟨rfl,hs'⟩
  .rename_i nM
   refine bad ?_;rw[hs,aq];cases e:st.wait with
   |nil=>exact absurd e nM
   |cons a r=>rfl
 split
 .subst n;rw[Wk hk,uW]at hs;unfold lY;split
  .rename_i i r e
   rw[e]at hs;refine good _ (by decide) rfl ?_
   simpa[codes,Ent.code,e]using hs
  .refine bad ?_;rw[hs,aj];cases e:st.wait with
   |nil=>simp
   |cons a r=>cases a<;>simp_all [Ent.code]
 split
 .subst n;rw[Wl hk]at hs;unfold jU;rw[zN];split
  .rename_i e
   rw[decide_eq_true_iff]at e;rw[aq e]at hs;exact good _ (by decide) rfl hs
  .rename_i e
   rw[decide_eq_true_iff]at e;rw[aj e]at hs;exact bad hs
 .refine good _ (by omega) rfl ?_
  rw[hs,FD];intro m hm;rw[hk]at hm;injection hm with hm;omega
theorem zd {t:Bytes} {l:List Tok} {k:Nat} {x:Tok} {st:RS} (F:FI t l k st) (hx:l[k]?=some x):Dt t l k (step l k x st):=by
 cases hd:defines l k with
 |true=>
  have hs:=F.sh;unfold zM at hs;rw[hd,hx]at hs;have hw:st.wait.map Ent.code= [0]:=((aq (rfl:true=true)).mp hs).1;have hs:shape l=if isName x=true then shapeFrom (k+1) [0] (l.drop (k+1))else some k:=((aq (rfl:true=true)).mp hs).2
  unfold step;split
  .rename_i e;exact RH (by rw[lx hx,e])
  .rename_i kd nM
   rw[aq hd];unfold jn;split
   .rename_i hn
    have hk:=jd.mp hn;rw[hn]at hs;have hs:shape l=shapeFrom (k+1) [0] (l.drop (k+1)):=by simpa using hs
    split
    .rename_i hm
     refine M9 ?_ (by decide) (xX hs)
     rw[lx hx,hk];simp only[hd,bZ];rw[aj];intro e;obtain⟨i,hi,hb⟩:=(F.nm _).mp hm;rw[(nR.mp e).2 i hi]at hb;cases hb
    .rename_i hm
     have hb:tw l x.b k=true:=by rw[uV hx,hd,hn];simp
     refine F.next (tD ?_ (xX hs)) (mY hx (q0 (by rw[hk];simp)) (by rw[hs];unfold codes;rw[hw])) ?_
     .rw[lx hx,hk];simp only[hd,bZ];rw[aq];refine nR.mpr ⟨hb,fun i hi=>?_⟩
      cases e:tw l x.b i with
      |false=>rfl
      |true=>exact absurd ((F.nm _).mpr ⟨i,hi,e⟩) hm
     .intro b;rw[uV hx,hd,hn];simp only[ag,cF,cA]
      constructor
      .rintro(rfl|h)
       .exact .inr rfl
       .exact .inl h
      .rintro(h|rfl)
       .exact .inr h
       .exact .inl rfl
   .rename_i hn
    rw[aj hn]at hs;refine Na ?_ hs;rw[lx hx];split<;>simp_all
 |false=>
  have hs:shape l=shapeFrom k (codes st.wait) (x::l.drop (k+1)):=by
   have:=F.sh;unfold zM at this;rw[hd,oY hx]at this;simpa using this
  unfold step;split
  .rename_i e;exact RH (by rw[lx hx,e])
  .rename_i kd nM
   rw[aj (by rw[hd];simp)]
   have pl:(∀n,kindOf x.b≠ .op n)->shape l=shapeFrom (k+1) (codes st.wait) (l.drop (k+1)):=fun h=>by
    rw[hs,FD];intro n hn;exact absurd hn (h n)
   split
   .rename_i n hk;exact Lr F hx hd hk
   .rename_i hk
    have hs:=pl (by intro n;rw[hk];simp)
    unfold kG;split
    .rename_i j hj
     refine F.next (tD ?_ (xX hs)) (mY hx (q0 (by rw[hk];simp)) hs) (mX hx hd)
     rw[lx hx,hk];simp[hd,hj]
    .rename_i hj
     refine M9 ?_ (by decide) (xX hs)
     rw[lx hx,hk];simp[hd,hj]
   .rename_i z hk
    have hs:=pl (by intro n;rw[hk];simp)
    split
    .rename_i hv
     refine F.next (tD ?_ (xX hs)) (mY hx (q0 (by rw[hk];simp)) hs) (mX hx hd)
     rw[lx hx,hk];simp[hv]
    .rename_i hv
     refine M9 ?_ (by decide) (xX hs)
     rw[lx hx,hk];simp[hv]
   .rename_i h1 h2 h3
    have hs:=pl (fun n q=>h1 n q)
    refine F.next (tD ?_ (xX hs)) (mY hx (q0 (fun q=>h1 27 q)) hs) (mX hx hd)
    rw[lx hx];split<;>simp_all
theorem uX {α:Type} {g:Nat->Option α} {m k:Nat} {x:α} (hk:k<m) (h0:∀i,i<k->g i=none) (h:g k=some x):(List.range m).findSome? g=some x:=by
 have e:List.range m=List.range k++(List.range' k (m-k)):=by
  rw[W5,W5];have:=List.range'_append (s:=0) (m:=k) (n:=m-k) (step:=1);simp at this;rw[this];congr 1;omega
 rw[e,List.findSome?_append];have e1:(List.range k).findSome? g=none:=by
  rw[Xj];intro i hi;exact h0 i (WS.mp hi)
 rw[e1];have e2:m-k=(m-k-1)+1:=by omega
 rw[e2,List.range'_succ,List.findSome?_cons,h];rfl
theorem Bo {α:Type} {g:Nat->Option α} {m:Nat} (h0:∀i,i<m->g i=none):(List.range m).findSome? g=none:=by
 rw[Xj];intro i hi;exact h0 i (WS.mp hi)
theorem HK (t:Bytes):faultOf t=(List.range ((wordsOf t).length+1)).findSome? (gOf t (wordsOf t)):=rfl
theorem zO {t:Bytes} {l:List Tok}:∀(f k:Nat) (st:RS),f+k=l.length->FI t l k st->
  (List.range (l.length+1)).findSome? (gOf t l)=(match scan l f k st with
   | .error (e,j)=>some (e,placeOf t l j)
   | .ok gg=>if gg.wait.isEmpty=true then none else some (2,t.length))
 |0,k,st,hf,F=>by
  have hk:k=l.length:=by omega
  subst hk;unfold scan;have hn:l[l.length]?=none:=Xv.mpr (au _);have own:faultAt l l.length=none:=by unfold faultAt;rw[hn]
  have pl:placeOf t l l.length=t.length:=by unfold placeOf;rw[hn]
  have hs:=F.sh;unfold zM at hs;cases hw:st.wait with
  |nil=>
   simp only[hw,List.isEmpty_nil,bZ];refine Bo fun i hi=>?_
   by_cases e:i=l.length
   .subst e;refine tD own ?_;cases hd:defines l l.length with
    |true=>rw[hd,hw]at hs;exact absurd ((aq (rfl:true=true)).mp hs).1 (by simp)
    |false=>
     rw[hd,hw,WW]at hs;have hs:shape l=shapeFrom l.length [] []:=by simpa[codes]using hs
     intro m hm;rw[hs]at hm;simp[shapeFrom]at hm
   .exact F.no i (by omega)
  |cons a r=>
   simp only[hw,List.isEmpty_cons];rw[<-pl];refine uX (bt _) F.no (Na (by rw[own];simp) ?_)
   cases hd:defines l l.length with
   |true=>
    rw[hd,hn]at hs;exact((aq (rfl:true=true)).mp hs).2
   |false=>
    rw[hd,hw,WW]at hs;have hs:shape l=shapeFrom l.length (codes (a::r)) []:=by simpa using hs
    rw[hs];simp[shapeFrom,codes]
 |f+1,k,st,hf,F=>by
  have hk:k<l.length:=by omega
  unfold scan;obtain⟨x,hx⟩:∃x,l[k]?=some x:=⟨_,af hk⟩;rw[hx];have hs:=zd F hx;dsimp only;cases e:step l k x st with
  |error q=>
   rw[e]at hs;exact uX (by omega) F.no hs
  |ok gg=>
   rw[e]at hs;exact zO f (k+1) gg (by omega) hs
theorem FI.start (t:Bytes) (l:List Tok):FI t l 0 (st0 l):=by
 refine⟨?_,fun b=>⟨fun h=>by simp[st0]at h,fun ⟨i,hi,_⟩=>by omega⟩,fun i hi=>by omega⟩
 unfold zM;rw[oX];simp[shape,st0,codes]
theorem Bp (t:Bytes):faultOf t=(match readAll (wordsOf t)with
   | .error (e,j)=>some (e,placeOf t (wordsOf t) j)
   | .ok gg=>if gg.wait.isEmpty=true then none else some (2,t.length)):=by
 rw[HK];exact zO _ 0 _ (by omega) (FI.start t _)
end Pz
namespace Pz
open Lo
abbrev wEE:Nat->Bool:=fun (m:Nat)=>m==ELSE||m==END
abbrev wE:Nat->Bool:=fun (n:Nat)=>n==END
abbrev wS:Nat->Bool:=fun (m:Nat)=>m==SEMI
def i9 (l:List Tok) (i n:Nat):Prop:=∃x,l[i]?=some x/\kindOf x.b= .op n
def G (l:List Tok) (want:Nat->Bool) (k j:Nat):Nat:=(matchFrom want k j (l.drop k)).getD l.length
def adv (x:Tok) (j:Nat):Nat:=match kindOf x.b with
 | .op n=>if n=22\/n=25 then j+1 else if n=24 then j-1 else j
 |_=>j
theorem wB {x:Tok} {n:Nat} (j:Nat) (h:kindOf x.b= .op n):adv x j=if n=22\/n=25 then j+1 else if n=24 then j-1 else j:=by
 unfold adv;rw[h]
theorem Nb {x:Tok} (j:Nat) (h:∀n,kindOf x.b≠ .op n):adv x j=j:=by
 unfold adv;split
 .rename_i n hn;exact absurd hn (h n)
 .rfl
theorem zP {l:List Tok} {want:Nat->Bool} {k j:Nat} {x:Tok} (hx:l[k]?=some x) (h:∀n,kindOf x.b= .op n->j=0->want n=false):G l want k j=G l want (k+1) (adv x j):=by
 unfold G;rw[oY hx]
 conv=>lhs;unfold matchFrom
 split
 .rename_i n hn
  have:¬(j=0/\want n=true):=fun ⟨a,b⟩=>by rw[h n hn a]at b;cases b
  rw[aj this,wB j hn];show (if n=IF\/n=WHILE then _ else if n=END then _ else _:Option Nat).getD _=_
  rw[show IF=22 from rfl,show WHILE=25 from rfl,show END=24 from rfl];split
  .rfl
  .split<;>rfl
 .rename_i hn
  rw[Nb j (fun n q=>hn n q)]
theorem xY {l:List Tok} {want:Nat->Bool} {k n:Nat} {x:Tok} (hx:l[k]?=some x) (hn:kindOf x.b= .op n) (h:want n=true):G l want k 0=k:=by
 unfold G;rw[oY hx]
 conv=>lhs;unfold matchFrom
 rw[hn];simp[h]
def Ent.op1:Ent->Nat
 | .colon i=>i| .iff i=>i| .kl i _=>i| .whl i=>i| .j5 i _=>i
def Ent.pend:Ent->Option Nat
 | .colon i=>some i| .iff i=>some i| .kl _ e=>some e| .whl _=>none| .j5 _ d=>some d
def zQ (l:List Tok) (k j:Nat):Ent->Prop
 | .colon i=>i<k/\i9 l i 27/\matchOf l wS i=G l wS k j
 | .iff i=>i<k/\i9 l i 22/\matchOf l wEE i=G l wEE k j/\matchOf l wE i=G l wE k j
 | .kl i e=>i<e/\e<k/\i9 l i 22/\i9 l e 23/\matchOf l wE i=G l wE k j/\matchOf l wE e=G l wE k j
 | .whl i=>i<k/\i9 l i 25/\matchOf l wE i=G l wE k j
 | .j5 i d=>i<d/\d<k/\i9 l i 25/\i9 l d 26/\matchOf l wE i=G l wE k j/\matchOf l wE d=G l wE k j
def inc (e:Ent):Nat:=if e.kF=true then 0 else 1
def tE (l:List Tok) (k:Nat):Nat->List Ent->Prop
 |_,[]=>True
 |j,e::r=>zQ l k j e/\(∀f∈r,f.op1<e.op1/\∀p,f.pend=some p->p<e.op1)/\(e.kF=true->r= [])/\tE l k (j+inc e) r
theorem zQ.move {l:List Tok} {k j:Nat} {x:Tok} {e:Ent} (hx:l[k]?=some x) (h:zQ l k j e)
  (nh:∀n,kindOf x.b= .op n->n=23\/n=24\/n=28->0<j):zQ l (k+1) (adv x j) e:=by
 have pEE:G l wEE k j=G l wEE (k+1) (adv x j):=zP hx fun n hn hj=>by
  have:=nh n hn
  simp only[wEE,ELSE,END,Bool.or_eq_false_iff,aW];omega
 have pE:G l wE k j=G l wE (k+1) (adv x j):=zP hx fun n hn hj=>by
  have:=nh n hn
  simp only[wE,END,aW];omega
 have pS:G l wS k j=G l wS (k+1) (adv x j):=zP hx fun n hn hj=>by
  have:=nh n hn
  simp only[wS,SEMI,aW];omega
 cases e with
 |colon i=>exact⟨by have:=h.1;omega,h.2.1,h.2.2.trans pS⟩
 |iff i=>exact⟨by have:=h.1;omega,h.2.1,h.2.2.1.trans pEE,h.2.2.2.trans pE⟩
 |kl i e=>exact⟨h.1,by have:=h.2.1;omega,h.2.2.1,h.2.2.2.1,h.2.2.2.2.1.trans pE,h.2.2.2.2.2.trans pE⟩
 |whl i=>exact⟨by have:=h.1;omega,h.2.1,h.2.2.trans pE⟩
 |j5 i d=>exact⟨h.1,by have:=h.2.1;omega,h.2.2.1,h.2.2.2.1,h.2.2.2.2.1.trans pE,h.2.2.2.2.2.trans pE⟩
theorem PU {x:Tok} {j i:Nat} (h:∀n,kindOf x.b= .op n->n=24->0<j):adv x (j+i)=adv x j+i:=by
 unfold adv;split
 .rename_i n hn
  have:=h n hn
  split
  .omega
  .split
   .have:=this (by assumption);omega
   .rfl
 .rfl
theorem tE.move {l:List Tok} {k:Nat} {x:Tok} (hx:l[k]?=some x):∀{w:List Ent} {j:Nat},tE l k j w->
  (∀n,kindOf x.b= .op n->n=23\/n=24\/n=28->0<j)->tE l (k+1) (adv x j) w
 | [],_,_,_=>trivial
 |e::r,j,⟨h1,h2,h3,h4⟩,nh=>by
  refine⟨h1.move hx nh,h2,h3,?_⟩;have:=h4.move hx (fun n hn q=>aR (nh n hn q) (bX _ _))
  rwa [PU (fun n hn q=>nh n hn (.inr (.inl q)))]at this
def tgt (l:List Tok) (k:Nat):Nat:=match l[k]? with
 |none=>k+1
 |some t=>match kindOf t.b with
  | .op n=>if n=22 then matchOf l wEE k+1 else if n=23\/n=26 then matchOf l wE k+1
   else if n=24 then (match l[openOf l k]? with
    |some u=>if isOp WHILE u=true then openOf l k else k+1
    |none=>k+1)
   else if n=27 then matchOf l wS k+1 else k+1
  | .name=>(match bodyOf l t.b with
   |some j=>j+1
   |none=>k+1)
  |_=>k+1
theorem ly {l:List Tok} {k n:Nat} (h:i9 l k n):tgt l k=if n=22 then matchOf l wEE k+1 else if n=23\/n=26 then matchOf l wE k+1
   else if n=24 then (match l[openOf l k]? with
    |some u=>if isOp WHILE u=true then openOf l k else k+1
    |none=>k+1)
   else if n=27 then matchOf l wS k+1 else k+1:=by
 obtain⟨x,hx,hk⟩:=h;unfold tgt;rw[hx];dsimp only;rw[hk]
theorem Ks {p:Nat->Bool} {o:Nat}:∀{k:Nat},o<k->p o=true->(∀i,o<i->i<k->p i=false)->(List.range k).reverse.find? p=some o
 |0,h,_,_=>by omega
 |k+1,h,hp,hn=>by
  rw[Xe,WA,XN,List.singleton_append,cj];by_cases e:o=k
  .subst e;rw[hp]
  .rw[hn k (by omega) (by omega)]
   exact Ks (by omega) hp (fun i h1 h2=>hn i h1 (by omega))
theorem Ls {l:List Tok} {o k:Nat} (h:o<k) (ho:i9 l o 22\/i9 l o 25) (hm:matchOf l wE o=k)
  (hn:∀i,o<i->i<k->(i9 l i 22\/i9 l i 25)->matchOf l wE i≠k):openOf l k=o:=by
 unfold openOf;have e:∀(i:Nat),(match l[i]? with
   |some t=>(isOp IF t||isOp WHILE t)&&matchOf l (fun (n:Nat)=>n==END) i==k
   |none=>false)=true↔(i9 l i 22\/i9 l i 25)/\matchOf l wE i=k:=by
  intro i;cases ei:l[i]? with
  |none=>simp[i9,ei]
  |some x=>
   simp only[aH,Xc,qZ,cA,i9,ei,Option.some.injEq,exists_eq_left'];rfl
 rw[Ks (o:=o) h ((e o).mpr ⟨ho,hm⟩)]
 .rfl
 .intro i h1 h2;cases q:(match l[i]? with
   |some t=>(isOp IF t||isOp WHILE t)&&matchOf l (fun (n:Nat)=>n==END) i==k
   |none=>false)with
  |false=>exact q
  |true=>exact absurd ((e i).mp q).2 (hn i h1 h2 ((e i).mp q).1)
def zR (l:List Tok):Nat->Option RS
 |0=>some (st0 l)
 |k+1=>match zR l k,l[k]? with
  |some st,some x=>(match step l k x st with
   | .ok gg=>some gg
   | .error _=>none)
  |_,_=>none
def inb (l:List Tok) (k:Nat):Bool:=match zR l k with
 |some st=>fI st.wait
 |none=>false
theorem lz {l:List Tok} {k:Nat} {x:Tok} {st gg:RS} (h:zR l k=some st) (hx:l[k]?=some x) (hs:step l k x st= .ok gg):zR l (k+1)=some gg:=by
 unfold zR;rw[h,hx];dsimp only;rw[hs]
theorem me {l:List Tok} {k:Nat} {st:RS} (h:zR l k=some st):inb l k=fI st.wait:=by
 unfold inb;rw[h]
def ym (w:List Ent) (i:Nat):Prop:=∃e∈w,e.pend=some i
structure TI (l:List Tok) (k:Nat) (st:RS):Prop where
 at_:zR l k=some st
 len:st.tg.length=l.length
 wait:tE l k 0 st.wait
 done:∀i,i<k->¬ym st.wait i->st.tg[i]?=some (tgt l i)
 fut:∀i,k<=i->i<l.length->st.tg[i]?=some (i+1)
 opn:∀i,i<k->(i9 l i 22\/i9 l i 25)->(∃e∈st.wait,e.op1=i)\/matchOf l wE i<k
 HL:∀e∈st.wait,if e.kF=true then inb l e.op1=false else (inb l e.op1=fI st.wait/\∀p,e.pend=some p->inb l p=fI st.wait)
 FG:∀i,i<k->¬ym st.wait i->∀n,i9 l i n->(n=22\/n=23\/n=24\/n=26->inb l (tgt l i)=inb l i)/\(n=27->inb l (tgt l i)=false)
theorem fD {e:Ent} {r:List Ent} (h:e.kF=false):fI (e::r)=fI r:=by
 unfold fI;cases r with
 |nil=>simp[h]
 |cons a r=>simp[List.getLast?_cons_cons]
theorem TI.start (l:List Tok):TI l 0 (st0 l):=by
 refine⟨rfl,by simp[st0],trivial,fun i hi=>by omega,fun i _ hi=>by simp[st0,hi],fun i hi=>by omega,fun e he=>by simp[st0]at he,fun i hi=>by omega⟩
theorem iJ {l:List Nat} {i j v:Nat} (h:i≠j):(l.set i v)[j]?=l[j]?:=by rw[cI h]
theorem j9 {l:List Nat} {i v:Nat} (h:i<l.length):(l.set i v)[i]?=some v:=by rw[bL h]
theorem TI.plain {l:List Tok} {k:Nat} {x:Tok} {st:RS} {ns:List Bytes} (T:TI l k st) (hx:l[k]?=some x) (hs:step l k x st= .ok {st with names:=ns})
  (ht:tgt l k=k+1) (hn:∀n,kindOf x.b= .op n->n<22\/29<=n):TI l (k+1) {st with names:=ns}:=by
 have hk:k<l.length:=(aa.mp hx).1;have hadv:adv x 0=0:=by
  unfold adv;split
  .rename_i n q;have:=hn n q;rw[aj (by omega),aj (by omega)]
  .rfl
 have sY:∀n,i9 l k n->n<22\/29<=n:=fun n ⟨y,hy,q⟩=>by rw[hx]at hy;cases hy;exact hn n q
 refine⟨lz T.at_ hx hs,T.len,?_,fun i hi hp=>?_,fun i h1 h2=>T.fut i (by omega) h2,fun i hi ho=>?_,T.HL,fun i hi hp n ho=>?_⟩
 .have:=T.wait.move hx (fun n q r=>by have:=hn n q;omega)
  rwa [hadv]at this
 .by_cases e:i=k
  .subst e;rw[ht];exact T.fut i (au _) hk
  .exact T.done i (by omega) hp
 .by_cases e:i=k
  .subst e;rcases ho with ho|ho
   .have:=sY _ ho;omega
   .have:=sY _ ho;omega
  .rcases T.opn i (by omega) ho with h|h
   .exact .inl h
   .exact .inr (by omega)
 .by_cases e:i=k
  .subst e;have:=sY _ ho;exact⟨fun q=>by omega,fun q=>by omega⟩
  .exact T.FG i (by omega) hp n ho
theorem TI.name {l:List Tok} {k j:Nat} {x:Tok} {st:RS} (T:TI l k st) (hx:l[k]?=some x) (hk:kindOf x.b= .name) (hb:bodyOf l x.b=some j)
  (hs:step l k x st= .ok {st with tg:=st.tg.set k (j+1)}):TI l (k+1) {st with tg:=st.tg.set k (j+1)}:=by
 have fH:k<l.length:=(aa.mp hx).1;have hno:∀n,kindOf x.b≠ .op n:=fun n=>by rw[hk];simp
 have sY:∀n,¬i9 l k n:=fun n ⟨y,hy,q⟩=>by rw[hx]at hy;cases hy;exact hno n q
 have ht:tgt l k=j+1:=by unfold tgt;rw[hx];dsimp only;rw[hk];dsimp only;rw[hb]
 refine⟨lz T.at_ hx hs,by simp[T.len],?_,fun i hi hp=>?_,fun i h1 h2=>?_,fun i hi ho=>?_,T.HL,fun i hi hp n ho=>?_⟩
 .have:=T.wait.move hx (fun n q r=>absurd q (hno n))
  rwa [Nb 0 hno]at this
 .by_cases e:i=k
  .subst e;rw[ht];exact j9 (by rw[T.len];exact fH)
  .show (st.tg.set k (j+1))[i]?=_;rw[iJ (fun q=>e q.symm)];exact T.done i (by omega) hp
 .show (st.tg.set k (j+1))[i]?=_;rw[iJ (by omega)];exact T.fut i (by omega) h2
 .by_cases e:i=k
  .subst e;exact absurd ho (by rintro(h|h)<;>exact sY _ h)
  .rcases T.opn i (by omega) ho with h|h
   .exact .inl h
   .exact .inr (by omega)
 .by_cases e:i=k
  .subst e;exact absurd ho (sY n)
  .exact T.FG i (by omega) hp n ho
theorem zQ.lt {l:List Tok} {k j:Nat} {e:Ent} (h:zQ l k j e):e.op1<k/\∀p,e.pend=some p->p<k/\e.op1<=p:=by
 cases e with
 |colon i=>exact⟨h.1,fun p q=>by cases q;exact⟨h.1,au _⟩⟩
 |iff i=>exact⟨h.1,fun p q=>by cases q;exact⟨h.1,au _⟩⟩
 |kl i e=>exact⟨Nat.lt_trans h.1 h.2.1,fun p q=>by cases q;exact⟨h.2.1,bg h.1⟩⟩
 |whl i=>exact⟨h.1,fun p q=>by cases q⟩
 |j5 i d=>exact⟨Nat.lt_trans h.1 h.2.1,fun p q=>by cases q;exact⟨h.2.1,bg h.1⟩⟩
theorem tE.lt {l:List Tok} {k:Nat}:∀{w:List Ent} {j:Nat},tE l k j w->∀e∈w,e.op1<k/\∀p,e.pend=some p->p<k
 | [],_,_,e,he=>by simp at he
 |a::r,j,⟨h1,_,_,h4⟩,e,he=>by
  rcases ag.mp he with rfl|he
  .exact⟨h1.lt.1,fun p q=>(h1.lt.2 p q).1⟩
  .exact h4.lt e he
theorem TI.opens {l:List Tok} {k n:Nat} {x:Tok} {st:RS} {en:Ent} (T:TI l k st) (hx:l[k]?=some x) (hk:kindOf x.b= .op n) (hn:n=22\/n=25) (he:en=if n=22 then .iff k else .whl k)
  (hs:step l k x st= .ok {st with wait:=en::st.wait}):TI l (k+1) {st with wait:=en::st.wait}:=by
 have fH:k<l.length:=(aa.mp hx).1;have hA:=lz T.at_ hx hs;have ho:i9 l k n:=⟨x,hx,hk⟩;have sY:∀m,i9 l k m->m=n:=fun m ⟨y,hy,q⟩=>by rw[hx]at hy;cases hy;rw[hk]at q;injection q with q;exact q.symm
 have hc:en.kF=false:=by subst he;rcases hn with rfl|rfl<;>rfl
 have h1:en.op1=k:=by subst he;rcases hn with rfl|rfl<;>rfl
 have hb:fI (en::st.wait)=fI st.wait:=fD hc;have ik:inb l k=fI st.wait:=me T.at_;have hp1:∀p,en.pend=some p->p=k:=by subst he;rcases hn with rfl|rfl<;>(intro p q;cases q;try rfl)
 refine⟨hA,T.len,⟨?_,?_,?_,?_⟩,fun i hi hp=>?_,fun i h1 h2=>T.fut i (by omega) h2,fun i hi ho=>?_,fun e he'=>?_,fun i hi hp m hq=>?_⟩
 .subst he;rcases hn with rfl|rfl
  .exact⟨bt _,ho,rfl,rfl⟩
  .exact⟨bt _,ho,rfl⟩
 .intro f hf;rw[h1];exact T.wait.lt f hf
 .rw[hc];intro q;cases q
 .have:=T.wait.move hx (fun m q r=>by rw[hk]at q;injection q with q;omega)
  rw[wB 0 hk,aq hn]at this;unfold inc;rw[hc];exact this
 .have hp':¬ym st.wait i:=fun ⟨e,h1,h2⟩=>hp ⟨e,ak _ h1,h2⟩
  by_cases e:i=k
  .subst e;rw[ly ho];rcases hn with rfl|rfl
   .exact absurd ⟨en,aC,by subst he;rfl⟩ hp
   .simp only[show¬(25=22) by decide,show¬(25=23\/25=26) by decide,show¬(25=24) by decide,show¬(25=27) by decide,cq]
    exact T.fut i (au _) fH
  .exact T.done i (by omega) hp'
 .by_cases e:i=k
  .subst e;exact .inl ⟨en,aC,h1⟩
  .rcases T.opn i (by omega) ho with⟨e',h1,h2⟩|h
   .exact .inl ⟨e',ak _ h1,h2⟩
   .exact .inr (by omega)
 .show if e.kF=true then _ else (_=fI (en::st.wait)/\∀p,_->_=fI (en::st.wait))
  rw[hb];rcases ag.mp he' with rfl|he'
  .rw[hc,h1];exact⟨ik,fun p q=>by rw[hp1 p q];exact ik⟩
  .exact T.HL e he'
 .have hp':¬ym st.wait i:=fun ⟨e,h1,h2⟩=>hp ⟨e,ak _ h1,h2⟩
  by_cases e:i=k
  .subst e;have:=sY _ hq;subst this;rcases hn with rfl|rfl
   .exact absurd ⟨en,aC,by subst he;rfl⟩ hp
   .exact⟨fun q=>by omega,fun q=>by omega⟩
  .exact T.FG i (by omega) hp' m hq
theorem TI.colon {l:List Tok} {k:Nat} {x:Tok} {st:RS} (T:TI l k st) (hx:l[k]?=some x) (hk:kindOf x.b= .op 27) (hw:st.wait= [])
  (hs:step l k x st= .ok {st with wait:=[.colon k]}):TI l (k+1) {st with wait:=[.colon k]}:=by
 have fH:k<l.length:=(aa.mp hx).1;have ho:i9 l k 27:=⟨x,hx,hk⟩;have sY:∀m,i9 l k m->m=27:=fun m ⟨y,hy,q⟩=>by rw[hx]at hy;cases hy;rw[hk]at q;injection q with q;exact q.symm
 have ik:inb l k=false:=by rw[me T.at_,hw];rfl
 have hnp:∀i,¬ym st.wait i:=fun i ⟨e,h,_⟩=>by rw[hw]at h;simp at h
 refine⟨lz T.at_ hx hs,T.len,⟨⟨bt _,ho,rfl⟩,fun f hf=>by simp at hf,fun _=>rfl,trivial⟩,fun i hi hp=>?_,fun i h1 h2=>T.fut i (by omega) h2,fun i hi hq=>?_,fun e he=>?_,fun i hi hp m hq=>?_⟩
 .by_cases e:i=k
  .subst e;exact absurd ⟨_,aC,rfl⟩ hp
  .exact T.done i (by omega) (hnp i)
 .by_cases e:i=k
  .subst e;rcases hq with hq|hq
   .have:=sY _ hq;omega
   .have:=sY _ hq;omega
  .rcases T.opn i (by omega) hq with⟨e',h1,h2⟩|h
   .rw[hw]at h1;simp at h1
   .exact .inr (by omega)
 .rcases ag.mp he with rfl|he
  .exact ik
  .simp at he
 .by_cases e:i=k
  .subst e;exact absurd ⟨_,aC,rfl⟩ hp
  .exact T.FG i (by omega) (hnp i) m hq
theorem TI.semi {l:List Tok} {k i:Nat} {x:Tok} {st:RS} {r:List Ent} (T:TI l k st) (hx:l[k]?=some x) (hk:kindOf x.b= .op 28) (hw:st.wait= .colon i::r)
  (hs:step l k x st= .ok {st with wait:=r,tg:=st.tg.set i (k+1)}):TI l (k+1) {st with wait:=r,tg:=st.tg.set i (k+1)}:=by
 have fH:k<l.length:=(aa.mp hx).1;have ho:i9 l k 28:=⟨x,hx,hk⟩;have sY:∀m,i9 l k m->m=28:=fun m ⟨y,hy,q⟩=>by rw[hx]at hy;cases hy;rw[hk]at q;injection q with q;exact q.symm
 have W:=T.wait;rw[hw]at W;obtain⟨⟨hik,hoi,hm⟩,_,hr,_⟩:=W;have hr:=hr rfl;subst hr;rw[xY hx hk rfl]at hm;have ht:tgt l i=k+1:=by rw[ly hoi];simp[hm]
 have hA:=lz T.at_ hx hs;have ik:inb l (k+1)=false:=by rw[me hA];rfl
 have hpe:∀j,j≠i->¬ym st.wait j:=fun j hj ⟨e,h,q⟩=>by
  rw[hw]at h;simp at h;subst h;cases q;exact hj rfl
 refine⟨hA,by simp[T.len],trivial,fun j hj hp=>?_,fun j h1 h2=>?_,fun j hj hq=>?_,fun e he=>by simp at he,fun j hj hp m hq=>?_⟩
 .show (st.tg.set i (k+1))[j]?=_;by_cases e:j=i
  .subst e;rw[ht];exact j9 (by rw[T.len];omega)
  .rw[iJ (fun q=>e q.symm)]
   by_cases e2:j=k
   .subst e2;rw[ly ho];simp;exact T.fut j (au _) fH
   .exact T.done j (by omega) (hpe j e)
 .show (st.tg.set i (k+1))[j]?=_;rw[iJ (by omega)];exact T.fut j (by omega) h2
 .by_cases e:j=k
  .subst e;rcases hq with hq|hq
   .have:=sY _ hq;omega
   .have:=sY _ hq;omega
  .rcases T.opn j (by omega) hq with⟨e',h1,h2⟩|h
   .rw[hw]at h1;simp at h1;subst h1;have h2:i=j:=h2;subst h2;obtain⟨y,hy,hy2⟩:=hoi;rcases hq with⟨z,hz,hz2⟩|⟨z,hz,hz2⟩<;>(rw[hy]at hz;cases hz;rw[hy2]at hz2;cases hz2)
   .exact .inr (by omega)
 .by_cases e:j=i
  .subst e;rw[ht];refine⟨fun q=>?_,fun _=>ik⟩
   obtain⟨y,hy,hy2⟩:=hoi;obtain⟨z,hz,hz2⟩:=hq;rw[hy]at hz;cases hz;rw[hy2]at hz2;injection hz2 with hz2;omega
  .by_cases e2:j=k
   .subst e2;have:=sY _ hq;exact⟨fun q=>by omega,fun q=>by omega⟩
   .exact T.FG j (by omega) (hpe j e) m hq
theorem TI.ends {l:List Tok} {k p tk:Nat} {x:Tok} {st gg:RS} {en:Ent} {r:List Ent} (T:TI l k st) (hx:l[k]?=some x) (hk:kindOf x.b= .op 24) (hw:st.wait=en::r) (hc:en.kF=false)
  (hpd:en.pend=some p) (hp:tgt l p=k+1) (hpo:∀n,i9 l p n->n=22\/n=23\/n=26) (hm:matchOf l wE en.op1=k) (htk:tgt l k=tk) (htr:tk=k+1\/tk=en.op1)
  (hs:step l k x st= .ok gg) (hw':gg.wait=r) (hlen:gg.tg.length=st.tg.length) (hg:∀j,j<l.length->gg.tg[j]?=if j=p then some (k+1)else if j=k then some tk else st.tg[j]?):TI l (k+1) gg:=by
 have fH:k<l.length:=(aa.mp hx).1;have ho:i9 l k 24:=⟨x,hx,hk⟩;have sY:∀m,i9 l k m->m=24:=fun m ⟨y,hy,q⟩=>by rw[hx]at hy;cases hy;rw[hk]at q;injection q with q;exact q.symm
 have W:=T.wait;rw[hw]at W;obtain⟨W1,W2,_,W4⟩:=W;have hpk:p<k:=(W1.lt.2 p hpd).1;have hA:=lz T.at_ hx hs;have hb:fI st.wait=fI r:=by rw[hw];exact fD hc
 have ik1:inb l (k+1)=fI st.wait:=by rw[me hA,hw',hb]
 have ik:inb l k=fI st.wait:=me T.at_;have pr:=T.HL en (by rw[hw];exact aC)
 rw[hc]at pr;have pr:inb l en.op1=fI st.wait/\∀q,en.pend=some q->inb l q=fI st.wait:=pr;have hpe:∀j,j≠p->¬ym r j->¬ym st.wait j:=fun j hj hn ⟨e,h,q⟩=>by
  rw[hw]at h;rcases ag.mp h with rfl|h
  .rw[hpd]at q;cases q;exact hj rfl
  .exact hn ⟨e,h,q⟩
 refine⟨hA,hlen.trans T.len,?_,fun j hj hp'=>?_,fun j h1 h2=>?_,fun j hj hq=>?_,fun e he=>?_,fun j hj hp' m hq=>?_⟩
 .rw[hw'];have hi:inc en=1:=by unfold inc;rw[hc];rfl
  rw[hi]at W4;have:=W4.move hx (fun n _ _=>by omega)
  rw[wB 1 hk]at this;exact this
 .rw[hw']at hp';rw[hg j (by omega)]
  by_cases e:j=p
  .subst e;rw[aq rfl,hp]
  .rw[aj e];by_cases e2:j=k
   .subst e2;rw[aq rfl,htk]
   .rw[aj e2];exact T.done j (by omega) (hpe j e hp')
 .rw[hg j h2,aj (by omega),aj (by omega)];exact T.fut j (by omega) h2
 .by_cases e:j=k
  .subst e;rcases hq with hq|hq
   .have:=sY _ hq;omega
   .have:=sY _ hq;omega
  .rcases T.opn j (by omega) hq with⟨e',h1,h2⟩|h
   .rw[hw]at h1;rcases ag.mp h1 with rfl|h1
    .exact .inr (by rw[<-h2,hm];omega)
    .exact .inl ⟨e',by rw[hw'];exact h1,h2⟩
   .exact .inr (by omega)
 .rw[hw']at he⊢;have:=T.HL e (by rw[hw];exact ak _ he)
  rw[hb]at this;exact this
 .rw[hw']at hp';by_cases e:j=p
  .subst e;rw[hp];have:=hpo m hq;exact⟨fun _=>by rw[ik1,pr.2 j hpd],fun q=>by omega⟩
  .by_cases e2:j=k
   .subst e2;have:=sY _ hq;refine⟨fun _=>?_,fun q=>by omega⟩
    rw[htk,ik];rcases htr with rfl|rfl
    .exact ik1
    .exact pr.1
   .exact T.FG j (by omega) (hpe j e hp') m hq
theorem TI.openOf {l:List Tok} {k:Nat} {st:RS} {en:Ent} {r:List Ent} (T:TI l k st) (hw:st.wait=en::r) (ho:i9 l en.op1 22\/i9 l en.op1 25) (hm:matchOf l wE en.op1=k):openOf l k=en.op1:=by
 have W:=T.wait;rw[hw]at W;refine Ls W.1.lt.1 ho hm fun i h1 h2 h3=>?_
 rcases T.opn i h2 h3 with⟨e,h4,h5⟩|h
 .rw[hw]at h4;rcases ag.mp h4 with rfl|h4
  .omega
  .have:=(W.2.1 e h4).1;omega
 .omega
theorem TI.turns {l:List Tok} {k:Nat} {x:Tok} {st gg:RS} {en en':Ent} {r:List Ent} (T:TI l k st) (hx:l[k]?=some x) {n:Nat} (hk:kindOf x.b= .op n) (hn:n=23\/n=26) (hw:st.wait=en::r)
  (hc:en.kF=false) (hc':en'.kF=false) (h1:en'.op1=en.op1) (hpd':en'.pend=some k) (hok:zQ l (k+1) 0 en')
  (hpd:∀p,en.pend=some p->tgt l p=k+1/\gg.tg[p]?=some (k+1)/\∀m,i9 l p m->m=22)
  (hs:step l k x st= .ok gg) (hw':gg.wait=en'::r) (hlen:gg.tg.length=st.tg.length) (hg:∀j,some j≠en.pend->gg.tg[j]?=st.tg[j]?):TI l (k+1) gg:=by
 have fH:k<l.length:=(aa.mp hx).1;have ho:i9 l k n:=⟨x,hx,hk⟩;have sY:∀m,i9 l k m->m=n:=fun m ⟨y,hy,q⟩=>by rw[hx]at hy;cases hy;rw[hk]at q;injection q with q;exact q.symm
 have W:=T.wait;rw[hw]at W;obtain⟨W1,W2,_,W4⟩:=W;have hA:=lz T.at_ hx hs;have hb:fI gg.wait=fI st.wait:=by rw[hw',hw,fD hc,fD hc']
 have ik1:inb l (k+1)=fI st.wait:=by rw[me hA,hb]
 have ik:inb l k=fI st.wait:=me T.at_;have pr:=T.HL en (by rw[hw];exact aC)
 rw[hc]at pr;have pr:inb l en.op1=fI st.wait/\∀q,en.pend=some q->inb l q=fI st.wait:=pr;have hpe:∀j,some j≠en.pend->¬ym gg.wait j->¬ym st.wait j:=fun j hj hn' ⟨e,h,q⟩=>by
  rw[hw]at h;rcases ag.mp h with rfl|h
  .exact hj q.symm
  .exact hn' ⟨e,by rw[hw'];exact ak _ h,q⟩
 have hkp:ym gg.wait k:=⟨en',by rw[hw'];exact aC,hpd'⟩
 refine⟨hA,hlen.trans T.len,?_,fun j hj hp'=>?_,fun j h1 h2=>?_,fun j hj hq=>?_,fun e he=>?_,fun j hj hp' m hq=>?_⟩
 .rw[hw'];have hi:inc en=1:=by unfold inc;rw[hc];rfl
  have hi':inc en'=1:=by unfold inc;rw[hc'];rfl
  rw[hi]at W4;have:=W4.move hx (fun n _ _=>by omega)
  rw[wB _ hk,aj (by omega),aj (by omega)]at this
  refine⟨hok,fun f hf=>by rw[h1];exact W2 f hf,(by rw[hc'];intro q;cases q),by rw[hi'];exact this⟩
 .by_cases e:some j=en.pend
  .obtain⟨a,b,_⟩:=hpd j e.symm;rw[a,b]
  .rw[hg j e];by_cases e2:j=k
   .subst e2;exact absurd hkp hp'
   .exact T.done j (by omega) (hpe j e hp')
 .rw[hg j]
  .exact T.fut j (by omega) h2
  .intro q;have:=(W1.lt.2 j q.symm).1;omega
 .by_cases e:j=k
  .subst e;rcases hq with hq|hq
   .have:=sY _ hq;omega
   .have:=sY _ hq;omega
  .rcases T.opn j (by omega) hq with⟨e',h3,h4⟩|h
   .rw[hw]at h3;rcases ag.mp h3 with rfl|h3
    .exact .inl ⟨en',by rw[hw'];exact aC,by rw[h1];exact h4⟩
    .exact .inl ⟨e',by rw[hw'];exact ak _ h3,h4⟩
   .exact .inr (by omega)
 .rw[hb];rw[hw']at he;rcases ag.mp he with rfl|he
  .rw[hc',h1];exact⟨pr.1,fun p q=>by rw[hpd']at q;cases q;exact ik⟩
  .exact T.HL e (by rw[hw];exact ak _ he)
 .by_cases e:some j=en.pend
  .obtain⟨a,_,c⟩:=hpd j e.symm;rw[a];have:=c m hq;exact⟨fun _=>by rw[ik1,pr.2 j e.symm],fun q=>by omega⟩
  .by_cases e2:j=k
   .subst e2;exact absurd hkp hp'
   .exact T.FG j (by omega) (hpe j e hp') m hq
end Pz
namespace Pz
open Lo
theorem rZ {l:List Tok} {i m n:Nat} (a:i9 l i m) (b:i9 l i n):m=n:=by
 obtain⟨x,hx,h⟩:=a;obtain⟨y,hy,h'⟩:=b;rw[hx]at hy;cases hy;rw[h]at h';injection h'
theorem TI.jc {l:List Tok} {k n:Nat} {x:Tok} {st gg:RS} (T:TI l k st) (hx:l[k]?=some x) (hk:kindOf x.b= .op n)
  (hs:step l k x st= .ok gg) (ho:jc k n st= .ok gg):TI l (k+1) gg:=by
 have fH:k<l.length:=(aa.mp hx).1;have oa:i9 l k n:=⟨x,hx,hk⟩;have dflt:(n<22\/29<=n)->gg=st->TI l (k+1) gg:=by
  intro hn e;subst e;refine T.plain (ns:=gg.names) hx hs ?_ (fun m hm=>by rw[hk]at hm;injection hm with hm;omega)
  rw[ly oa,aj (by omega),aj (by omega),aj (by omega),aj (by omega)]
 unfold Pz.jc at ho;split at ho
 .rename_i e
  injection ho with ho;subst ho
  exact T.opens (en:=.iff k) hx hk (.inl e) (by rw[aq e]) hs
 split at ho
 .rename_i e
  subst e;unfold lX at ho;split at ho
  .rename_i i r hw
   injection ho with ho;have W:=T.wait
   rw[hw]at W;obtain⟨⟨w1,w2,w3,w4⟩,W2,_,W4⟩:=W;have hm:matchOf l wEE i=k:=by rw[w3];exact xY hx hk rfl
   have hE:matchOf l wE i=G l wE (k+1) 0:=by
    rw[w4,zP hx (fun m hm _=>by rw[hk]at hm;injection hm with hm;subst hm;rfl),wB 0 hk]
    rfl
   subst ho;refine T.turns (en:=.iff i) (en':=.kl i k) hx hk (.inl rfl) hw rfl rfl rfl rfl ⟨w1,bt _,w2,oa,hE,rfl⟩ ?_ hs rfl (by simp) ?_
   .intro p hp;cases hp;refine⟨by rw[ly w2];simp[hm],j9 (by rw[T.len];omega),fun m hm=>rZ hm w2⟩
   .intro j hj;exact iJ (fun q=>hj (by rw[<-q];rfl))
  .cases ho
 split at ho
 .rename_i e
  subst e;unfold nQ at ho;have W:=T.wait;split at ho
  .rename_i i r hw
   injection ho with ho;rw[hw]at W
   obtain⟨⟨w1,w2,w3,w4⟩,W2,_,W4⟩:=W;have hm:matchOf l wEE i=k:=by rw[w3];exact xY hx hk rfl
   have hE:matchOf l wE i=k:=by rw[w4];exact xY hx hk rfl
   have sY:=T.openOf hw (.inl w2) hE;obtain⟨y,hy,hy2⟩:=w2;have htk:tgt l k=k+1:=by
    rw[ly oa];simp only[show¬(24=22) by decide,show¬(24=23\/24=26) by decide,cq,bZ,sY]
    show (match l[i]? with|some u=>if isOp WHILE u=true then i else k+1|none=>k+1)=k+1
    rw[hy];have:isOp WHILE y=false:=by unfold isOp;rw[hy2];rfl
    simp[this]
   subst ho;refine T.ends (en:=.iff i) (tk:=k+1) hx hk hw rfl rfl (by rw[ly ⟨y,hy,hy2⟩];simp[hm]) (fun m hm=>.inl (rZ hm ⟨y,hy,hy2⟩)) hE htk (.inl rfl) hs rfl (by simp) ?_
   intro j hj;by_cases e:j=i
   .subst e;rw[aq rfl];exact j9 (by rw[T.len];exact hj)
   .rw[aj e];show (st.tg.set i (k+1))[j]?=_;rw[iJ (fun q=>e q.symm)]
    by_cases e2:j=k
    .subst e2;rw[aq rfl];exact T.fut j (au _) hj
    .rw[aj e2]
  .rename_i i ee r hw
   injection ho with ho;rw[hw]at W
   obtain⟨⟨w1,w2,w3,w4,w5,w6⟩,W2,_,W4⟩:=W;have hm:matchOf l wE ee=k:=by rw[w6];exact xY hx hk rfl
   have hE:matchOf l wE i=k:=by rw[w5];exact xY hx hk rfl
   have sY:=T.openOf hw (.inl w3) hE;obtain⟨y,hy,hy2⟩:=w3;have htk:tgt l k=k+1:=by
    rw[ly oa];simp only[show¬(24=22) by decide,show¬(24=23\/24=26) by decide,cq,bZ,sY]
    show (match l[i]? with|some u=>if isOp WHILE u=true then i else k+1|none=>k+1)=k+1
    rw[hy];have:isOp WHILE y=false:=by unfold isOp;rw[hy2];rfl
    simp[this]
   subst ho;refine T.ends (en:=.kl i ee) (p:=ee) (tk:=k+1) hx hk hw rfl rfl (by rw[ly w4];simp[hm]) (fun m hm=>.inr (.inl (rZ hm w4))) hE htk (.inl rfl) hs rfl (by simp) ?_
   intro j hj;by_cases e:j=ee
   .subst e;rw[aq rfl];exact j9 (by rw[T.len];exact hj)
   .rw[aj e];show (st.tg.set ee (k+1))[j]?=_;rw[iJ (fun q=>e q.symm)]
    by_cases e2:j=k
    .subst e2;rw[aq rfl];exact T.fut j (au _) hj
    .rw[aj e2]
  .rename_i i d r hw
   injection ho with ho;rw[hw]at W
   obtain⟨⟨w1,w2,w3,w4,w5,w6⟩,W2,_,W4⟩:=W;have hm:matchOf l wE d=k:=by rw[w6];exact xY hx hk rfl
   have hE:matchOf l wE i=k:=by rw[w5];exact xY hx hk rfl
   have sY:=T.openOf hw (.inr w3) hE;obtain⟨y,hy,hy2⟩:=w3;have htk:tgt l k=i:=by
    rw[ly oa];simp only[show¬(24=22) by decide,show¬(24=23\/24=26) by decide,cq,bZ,sY]
    show (match l[i]? with|some u=>if isOp WHILE u=true then i else k+1|none=>k+1)=i
    rw[hy];have:isOp WHILE y=true:=qZ.mpr hy2;simp[this]
   subst ho;refine T.ends (en:=.j5 i d) (p:=d) (tk:=i) hx hk hw rfl rfl (by rw[ly w4];simp[hm]) (fun m hm=>.inr (.inr (rZ hm w4))) hE htk (.inr rfl) hs rfl (by simp) ?_
   intro j hj;show ((st.tg.set d (k+1)).set k i)[j]?=_;by_cases e:j=d
   .subst e;rw[aq rfl,iJ (by omega)];exact j9 (by rw[T.len];exact hj)
   .rw[aj e];by_cases e2:j=k
    .subst e2;rw[aq rfl];exact j9 (by simp[T.len,hj])
    .rw[aj e2,iJ (fun q=>e2 q.symm),iJ (fun q=>e q.symm)]
  .cases ho
 split at ho
 .rename_i e1 _ e
  injection ho with ho;subst ho
  exact T.opens (en:=.whl k) hx hk (.inr e) (by rw[aj (by omega)]) hs
 split at ho
 .rename_i e
  subst e;unfold qY at ho;split at ho
  .rename_i i r hw
   injection ho with ho;have W:=T.wait
   rw[hw]at W;obtain⟨⟨w1,w2,w4⟩,W2,_,W4⟩:=W;have hE:matchOf l wE i=G l wE (k+1) 0:=by
    rw[w4,zP hx (fun m hm _=>by rw[hk]at hm;injection hm with hm;subst hm;rfl),wB 0 hk]
    rfl
   subst ho;refine T.turns (en:=.whl i) (en':=.j5 i k) hx hk (.inr rfl) hw rfl rfl rfl rfl ⟨w1,bt _,w2,oa,hE,rfl⟩ ?_ hs rfl rfl ?_
   .intro p hp;cases hp
   .intro j hj;rfl
  .cases ho
 split at ho
 .rename_i e
  subst e;unfold km at ho;split at ho
  .rename_i hw
   injection ho with ho;subst ho
   exact T.colon hx hk hw hs
  .cases ho
 split at ho
 .rename_i e
  subst e;unfold lY at ho;split at ho
  .rename_i i r hw
   injection ho with ho;subst ho
   exact T.semi hx hk hw hs
  .cases ho
 split at ho
 .rename_i e
  unfold jU at ho;split at ho
  .injection ho with ho;exact dflt (by omega) ho.symm
  .cases ho
 .injection ho with ho;exact dflt (by omega) ho.symm
theorem TI.step {t:Bytes} {l:List Tok} {k:Nat} {x:Tok} {st gg:RS} (F:FI t l k st) (T:TI l k st) (hx:l[k]?=some x) (hs:step l k x st= .ok gg):TI l (k+1) gg:=by
 have fH:k<l.length:=(aa.mp hx).1;have F':FI t l (k+1) gg:=by have:=zd F hx;rw[hs]at this;exact this
 have hs0:=hs;unfold Pz.step at hs;split at hs
 .cases hs
 .rename_i nM
  split at hs
  .rename_i hd
   unfold jn at hs;split at hs
   .rename_i hn
    have hk:=jd.mp hn;split at hs
    .cases hs
    .injection hs with hs;subst hs
     refine T.plain hx hs0 ?_ (fun n q=>by rw[hk]at q;cases q)
     have hb:bodyOf l x.b=some k:=by
      have g:=F'.no k (bt _);unfold gOf at g;rw[lx hx,hk]at g;simp only[hd,bZ]at g;cases q:bodyOf l x.b with
      |none=>rw[q]at g;simp at g;split at g<;>simp at g
      |some j=>
       by_cases e:j=k
       .rw[e]
       .rw[q]at g;simp[e]at g;split at g<;>simp at g
     unfold tgt;rw[hx];dsimp only;rw[hk];dsimp only;rw[hb]
   .cases hs
  .rename_i hd
   split at hs
   .rename_i n hk;exact T.jc hx hk hs0 hs
   .rename_i hk
    unfold kG at hs;split at hs
    .rename_i j hb
     injection hs with hs;subst hs
     exact T.name hx hk hb hs0
    .cases hs
   .rename_i z hk
    split at hs
    .injection hs with hs;subst hs
     refine T.plain (ns:=st.names) hx hs0 ?_ (fun n q=>by rw[hk]at q;cases q)
     unfold tgt;rw[hx];dsimp only;rw[hk]
    .cases hs
   .rename_i h1 h2 h3
    injection hs with hs;subst hs
    refine T.plain (ns:=st.names) hx hs0 ?_ (fun n q=>absurd q (h1 n))
    unfold tgt;rw[hx];dsimp only;split<;>simp_all
theorem TI.scan {t:Bytes} {l:List Tok}:∀(f k:Nat) (st gg:RS),f+k=l.length->FI t l k st->TI l k st->scan l f k st= .ok gg->TI l l.length gg/\FI t l l.length gg/\
  ∀i,k<=i->i<=l.length->∃si,zR l i=some si/\TI l i si/\FI t l i si
 |0,k,st,gg,hf,F,T,h=>by
  have hk:k=l.length:=by omega
  subst hk;unfold Pz.scan at h;injection h with h;subst h
  exact⟨T,F,fun i h1 h2=>by (have:i=l.length:=by omega);subst this;exact⟨st,T.at_,T,F⟩⟩
 |f+1,k,st,gg,hf,F,T,h=>by
  obtain⟨x,hx⟩:∃x,l[k]?=some x:=⟨_,af (by omega)⟩
  unfold Pz.scan at h;rw[hx]at h;dsimp only at h;cases e:Pz.step l k x st with
  |error q=>rw[e]at h;cases h
  |ok s1=>
   rw[e]at h;have F1:FI t l (k+1) s1:=by have:=zd F hx;rw[e]at this;exact this
   obtain⟨a,b,c⟩:=TI.scan f (k+1) s1 gg (by omega) F1 (T.step F hx e) h
   refine⟨a,b,fun i h1 h2=>?_⟩
   by_cases q:i=k
   .subst q;exact⟨st,T.at_,T,F⟩
   .exact c i (by omega) h2
end Pz
namespace Pz
open Lo
def Bd (n:Nat) (tg:List Nat):Prop:=∀(i v:Nat),tg[i]?=some v->v<=n
theorem Bd.set {n:Nat} {tg:List Nat} (B:Bd n tg) {i v:Nat} (h:v<=n):Bd n (tg.set i v):=by
 intro j u hu;rw[List.getElem?_set]at hu;split at hu
 .split at hu
  .injection hu with hu;omega
  .cases hu
 .exact B j u hu
theorem Bd.step {l:List Tok} {k:Nat} {x:Tok} {st gg:RS} (T:TI l k st) (hx:l[k]?=some x) (hs:step l k x st= .ok gg) (B:Bd l.length st.tg):Bd l.length gg.tg:=by
 have fH:k<l.length:=(aa.mp hx).1;unfold Pz.step at hs;split at hs
 .cases hs
 split at hs
 .unfold jn at hs;split at hs
  .split at hs
   .cases hs
   .injection hs with hs;subst hs;exact B
  .cases hs
 split at hs
 .rename_i n hk
  unfold Pz.jc at hs;split at hs
  .injection hs with hs;subst hs;exact B
  split at hs
  .unfold lX at hs;split at hs
   .injection hs with hs;subst hs;exact B.set (by omega)
   .cases hs
  split at hs
  .unfold nQ at hs;split at hs
   .injection hs with hs;subst hs;exact B.set (by omega)
   .injection hs with hs;subst hs;exact B.set (by omega)
   .rename_i i d r hw
    injection hs with hs;subst hs
    have W:=T.wait;rw[hw]at W;refine(B.set (by omega)).set ?_
    have:=W.1.lt.1
    show i<=_;have:i<k:=this;omega
   .cases hs
  split at hs
  .injection hs with hs;subst hs;exact B
  split at hs
  .unfold qY at hs;split at hs
   .injection hs with hs;subst hs;exact B
   .cases hs
  split at hs
  .unfold km at hs;split at hs
   .injection hs with hs;subst hs;exact B
   .cases hs
  split at hs
  .unfold lY at hs;split at hs
   .injection hs with hs;subst hs;exact B.set (by omega)
   .cases hs
  split at hs
  .unfold jU at hs;split at hs
   .injection hs with hs;subst hs;exact B
   .cases hs
  .injection hs with hs;subst hs;exact B
 .unfold kG at hs;split at hs
  .rename_i j hb
   injection hs with hs;subst hs
   have:=zc (nR.mp hb).1
   exact B.set (by omega)
  .cases hs
 .split at hs
  .injection hs with hs;subst hs;exact B
  .cases hs
 .injection hs with hs;subst hs;exact B
theorem Bd.scan {t:Bytes} {l:List Tok}:∀(f k:Nat) (st gg:RS),f+k=l.length->FI t l k st->TI l k st->Bd l.length st.tg->scan l f k st= .ok gg->Bd l.length gg.tg
 |0,k,st,gg,hf,F,T,B,h=>by
  unfold Pz.scan at h;injection h with h;subst h;exact B
 |f+1,k,st,gg,hf,F,T,B,h=>by
  obtain⟨x,hx⟩:∃x,l[k]?=some x:=⟨_,af (by omega)⟩
  unfold Pz.scan at h;rw[hx]at h;dsimp only at h;cases e:Pz.step l k x st with
  |error q=>rw[e]at h;cases h
  |ok s1=>
   rw[e]at h;have F1:FI t l (k+1) s1:=by have:=zd F hx;rw[e]at this;exact this
   exact Bd.scan f (k+1) s1 gg (by omega) F1 (T.step F hx e) (B.step T hx e) h
def Nc (l:List Tok) (reg:Nat->Bool) (k:Nat) (x:Tok):Prop:=match kindOf x.b with
 | .none_=>False
 | .op n=>(n≠27->n≠28->reg (k+1)=reg k)/\(n=22\/n=23\/n=24\/n=26->reg (tgt l k)=reg k)/\(n=27->reg (tgt l k)=false/\reg k=false)/\(n=28\/n=29->reg k=true)
 | .name=>reg (k+1)=reg k/\reg (tgt l k)=true/\∃j,bodyOf l x.b=some j
 | .number z=>isValue z=true/\reg (k+1)=reg k
 |_=>reg (k+1)=reg k
structure Rt (l:List Tok) (tg:List Nat) (reg:Nat->Bool):Prop where
 len:tg.length=l.length
 tgs:∀k,k<l.length->tg[k]?=some (tgt l k)
 le:∀k,k<l.length->tgt l k<=l.length
 r0:reg 0=false
 rn:reg l.length=false
 word:∀k x,l[k]?=some x->Nc l reg k x
theorem FH {l:List Tok} {k:Nat} {x:Tok} {st gg:RS} (h:zR l k=some st) (hx:l[k]?=some x) (h':zR l (k+1)=some gg):step l k x st= .ok gg:=by
 unfold zR at h';rw[h,hx]at h';dsimp only at h';split at h'
 .injection h' with h';subst h';assumption
 .cases h'
theorem Bq {l:List Tok} {st:RS} (h:readAll l= .ok st) (hw:st.wait= []):Rt l st.tg (inb l):=by
 have F0:=FI.start [] l;have T0:=TI.start l;obtain⟨T,F,S⟩:=TI.scan l.length 0 _ _ (by omega) F0 T0 h
 have B:=Bd.scan l.length 0 _ _ (by omega) F0 T0 (by
  intro i v hv;simp[st0]at hv;obtain⟨a,b,c⟩:=hv;have:=(aa.mp b).1;rw[XC]at this;have q:=(aa.mp b).2;rw[List.getElem_range]at q;omega) h
 have np:∀i,¬ym st.wait i:=fun i ⟨e,q,_⟩=>by rw[hw]at q;simp at q
 have tgs:∀k,k<l.length->st.tg[k]?=some (tgt l k):=fun k hk=>T.done k hk (np k)
 have body:∀(b:Bytes) (j:Nat),bodyOf l b=some j->inb l (j+1)=true:=by
  intro b j hb;have hd:=(nR.mp hb).1;have hj:=zc hd;obtain⟨x,hx⟩:∃x,l[j]?=some x:=⟨_,af hj⟩;rw[uV hx]at hd;simp only[aH]at hd;obtain⟨s1,a1,T1,F1⟩:=S j (aO _) (by omega)
  obtain⟨s2,a2,T2,F2⟩:=S (j+1) (aO _) (by omega)
  have hs:=FH a1 hx a2;have hk:=jd.mp hd.2.1;unfold Pz.step at hs;rw[hk]at hs;simp only[hd.1,bZ]at hs;unfold jn at hs;rw[aq hd.2.1]at hs;split at hs
  .cases hs
  .injection hs with hs;rw[me a2,<-hs]
   have sh:=F1.sh;unfold zM at sh;rw[hd.1]at sh;have sh:=((aq (rfl:true=true)).mp sh).1;rw[zN];show decide ((codes s1.wait).getLast?=some 0)=true;unfold codes;rw[sh];rfl
 refine⟨T.len,tgs,fun k hk=>B k _ (tgs k hk),?_,?_,fun k x hx=>?_⟩
 .rw[me T0.at_];rfl
 .rw[me T.at_,hw];rfl
 .have hk:k<l.length:=(aa.mp hx).1;obtain⟨s1,a1,T1,F1⟩:=S k (aO _) (by omega)
  obtain⟨s2,a2,T2,F2⟩:=S (k+1) (aO _) (by omega)
  have hs:=FH a1 hx a2;have i1:=me a1;have i2:=me a2;unfold Nc;unfold Pz.step at hs;split at hs
  .cases hs
  .rename_i nM
   split at hs
   .rename_i hd
    unfold jn at hs;split at hs
    .rename_i hn
     have kk:=jd.mp hn;split at hs
     .cases hs
     .injection hs with hs;rw[kk]
      have g:=F2.no k (bt _);have own:=lx hx;rw[kk]at own;have hb:∃j,bodyOf l x.b=some j:=by
       cases q:bodyOf l x.b with
       |some j=>exact⟨j,rfl⟩
       |none=>
        have:=FE.mp q k
        rw[uV hx,hd,hn]at this;simp at this
      refine⟨by rw[i1,i2,<-hs],?_,hb⟩
      obtain⟨j,hj⟩:=hb;have:tgt l k=j+1:=by unfold tgt;rw[hx];dsimp only;rw[kk];dsimp only;rw[hj]
      rw[this];exact body _ j hj
    .cases hs
   .rename_i hd
    split at hs
    .rename_i n kk
     rw[kk];have oa:i9 l k n:=⟨x,hx,kk⟩;obtain⟨d1,d2⟩:=T.FG k hk (np k) n oa;refine⟨fun h1 h2=>?_,d1,fun e=>⟨d2 e,?_⟩,fun e=>?_⟩
     .rw[i1,i2];unfold Pz.jc at hs;split at hs
      .injection hs with hs;subst hs;exact fD rfl
      split at hs
      .unfold lX at hs;split at hs
       .rename_i e;injection hs with hs;subst hs;rw[e];rw[fD rfl,fD rfl]
       .cases hs
      split at hs
      .unfold nQ at hs;split at hs
       .rename_i e;injection hs with hs;subst hs;rw[e,fD rfl]
       .rename_i e;injection hs with hs;subst hs;rw[e,fD rfl]
       .rename_i e;injection hs with hs;subst hs;rw[e,fD rfl]
       .cases hs
      split at hs
      .injection hs with hs;subst hs;exact fD rfl
      split at hs
      .unfold qY at hs;split at hs
       .rename_i e;injection hs with hs;subst hs;rw[e];rw[fD rfl,fD rfl]
       .cases hs
      split at hs
      .unfold jU at hs;split at hs
       .injection hs with hs;subst hs;rfl
       .cases hs
      .injection hs with hs;subst hs;rfl
     .subst e;rw[i1];unfold Pz.jc at hs;simp only[show¬(27=22) by decide,show¬(27=23) by decide,show¬(27=24) by decide,show¬(27=25) by decide,show¬(27=26) by decide,cq,bZ]at hs
      unfold km at hs;split at hs
      .rename_i e;rw[e];rfl
      .cases hs
     .rw[i1];rcases e with rfl|rfl
      .unfold Pz.jc at hs;simp only[show¬(28=22) by decide,show¬(28=23) by decide,show¬(28=24) by decide,show¬(28=25) by decide,show¬(28=26) by decide,show¬(28=27) by decide,cq,bZ]at hs
       unfold lY at hs;split at hs
       .rename_i e
        have W:=T1.wait;rw[e]at W⊢;have:=W.2.2.1 rfl;subst this;rfl
       .cases hs
      .unfold Pz.jc at hs;simp only[show¬(29=22) by decide,show¬(29=23) by decide,show¬(29=24) by decide,show¬(29=25) by decide,show¬(29=26) by decide,show¬(29=27) by decide,show¬(29=28) by decide,cq,bZ]at hs
       unfold jU at hs;split at hs
       .assumption
       .cases hs
    .rename_i kk
     rw[kk];unfold kG at hs;split at hs
     .rename_i j hj
      injection hs with hs;refine⟨by rw[i1,i2,<-hs],?_,j,hj⟩
      have:tgt l k=j+1:=by unfold tgt;rw[hx];dsimp only;rw[kk];dsimp only;rw[hj]
      rw[this];exact body _ j hj
     .cases hs
    .rename_i z kk
     rw[kk];split at hs
     .rename_i hv;injection hs with hs;exact⟨hv,by rw[i1,i2,<-hs]⟩
     .cases hs
    .rename_i h1 h2 h3
     injection hs with hs;have e:inb l (k+1)=inb l k:=by rw[i1,i2,<-hs]
     split<;>simp_all
end Pz
namespace Pz
open Lo
theorem HM {k n e:Nat} {st:RS} (h:jc k n st= .error e):e=2:=by
 unfold jc at h;split at h
 .cases h
 split at h
 .unfold lX at h;split at h
  .cases h
  .injection h with h;exact h.symm
 split at h
 .unfold nQ at h;split at h
  .cases h
  .cases h
  .cases h
  .injection h with h;exact h.symm
 split at h
 .cases h
 split at h
 .unfold qY at h;split at h
  .cases h
  .injection h with h;exact h.symm
 split at h
 .unfold km at h;split at h
  .cases h
  .injection h with h;exact h.symm
 split at h
 .unfold lY at h;split at h
  .cases h
  .injection h with h;exact h.symm
 split at h
 .unfold jU at h;split at h
  .cases h
  .injection h with h;exact h.symm
 .cases h
theorem FJ {l:List Tok} {k e:Nat} {x:Tok} {st:RS} (h:step l k x st= .error e):e≠0:=by
 unfold step at h;split at h
 .injection h with h;omega
 split at h
 .unfold jn at h;split at h
  .split at h
   .injection h with h;omega
   .cases h
  .injection h with h;omega
 split at h
 .have:=HM h;omega
 .unfold kG at h;split at h
  .cases h
  .injection h with h;omega
 .split at h
  .cases h
  .injection h with h;omega
 .cases h
end Pz
namespace Cm
open Lo
def below (v:Val) (n:Nat):Prop:=match v with
 | .cell i=>i<n
 |_=>True
def WF (cs:List Cell):Prop:=∀(i:Nat) (c:Cell),cs[i]?=some c->below c.first i/\below c.rest i
theorem WF.snoc {cs:List Cell} {c:Cell} (h:WF cs) (h1:below c.first cs.length) (h2:below c.rest cs.length):WF (cs++ [c]):=by
 intro i d hd;by_cases e:i<cs.length
 .rw[aT e]at hd;exact h i d hd
 .rw[cG (by omega)]at hd
  obtain⟨h3,h4⟩:=aa.mp hd;simp at h3;have e2:i=cs.length:=by omega
  subst e2;simp at hd;subst hd;exact⟨h1,h2⟩
theorem below.mono {v:Val} {m n:Nat} (h:below v m) (hmn:m<=n):below v n:=by
 cases v with
 |cell i=>exact aR h hmn
 |_=>trivial
def FK (ls:Array Nat) (c:Cell):Array Nat:=ls.push (2+valLong ls c.first+restLong ls c.rest)
def lon (cs:List Cell):Array Nat:=cs.foldl FK #[]
theorem Nd (cs:Cells):longs cs=lon cs.toList:=rfl
theorem zS (cs:List Cell) (c:Cell):lon (cs++ [c])=FK (lon cs) c:=by unfold lon;rw[List.foldl_append];rfl
theorem uY {α:Type} {P:List α->Prop} (h0:P []) (h1:∀l a,P l->P (l++ [a])) (l:List α):P l:=by
 have:∀n (l:List α),l.length=n->P l:=by
  intro n
  induction n with
  |zero=>intro l hl;rw[WG.mp hl];exact h0
  |succ n ih=>
   intro l hl;have nM:l≠ []:=by intro e;rw[e]at hl;simp at hl
   rw[<-W7 nM];exact h1 _ _ (ih _ (by simp[hl]))
 exact this _ l rfl
theorem FL (cs:List Cell):(lon cs).size=cs.length:=by
 induction cs using uY with
 |h0=>rfl
 |h1 l a ih=>rw[zS];simp[FK,ih]
theorem Du (cs:List Cell) (c:Cell) {i:Nat} (h:i<cs.length):(lon (cs++ [c])).getD i 0=(lon cs).getD i 0:=by
 have hz:=FL cs;rw[zS];unfold FK;simp only[aS];rw[cu];rw[aj (by omega)]
theorem xZ (cs:List Cell) (c:Cell) {v:Val} (h:below v cs.length):valLong (lon (cs++ [c])) v=valLong (lon cs) v:=by
 cases v with
 |cell i=>exact Du cs c h
 |_=>rfl
theorem uZ (cs:List Cell) (c:Cell) {v:Val} (h:below v cs.length):restLong (lon (cs++ [c])) v=restLong (lon cs) v:=by
 cases v with
 |cell i=>show _-1=_-1;rw[Du cs c h]
 |_=>rfl
theorem SV {cs:List Cell} (w:WF cs) {i:Nat} {c:Cell} (h:cs[i]?=some c):(lon cs).getD i 0=2+valLong (lon cs) c.first+restLong (lon cs) c.rest:=by
 induction cs using uY generalizing i c with
 |h0=>simp at h
 |h1 l a ih=>
  have wl:WF l:=fun j d hd=>w j d (by rw[aT (aa.mp hd).1];exact hd)
  by_cases e:i<l.length
  .have hc:l[i]?=some c:=by rwa [aT e]at h
   obtain⟨b1,b2⟩:=wl i c hc;rw[Du l a e,xZ l a (b1.mono (bg e)),uZ l a (b2.mono (bg e))];exact ih wl hc
  .have hi:i=l.length:=by
    have:=(aa.mp h).1
    simp at this;omega
   subst hi;have hc:a=c:=by simpa using h
   subst hc;obtain⟨b1,b2⟩:=w l.length a h;rw[xZ l a b1,uZ l a b2,zS];unfold FK;simp only[aS];rw[cu];rw[aq (FL l).symm];rfl
section
variable {cs:Cells} (w:WF cs.toList)
include w
theorem FN {i:Nat} (h:i<cs.size):cs.toList[i]?=some (cs.getD i noCell):=by
 simp[aS,h]
theorem Dv {i:Nat} (h:i<cs.size):valLong (longs cs) (.cell i)=2+valLong (longs cs) (cs.getD i noCell).first+restLong (longs cs) (cs.getD i noCell).rest:=by
 rw[Nd];exact SV w (FN w h)
theorem HN {i:Nat} (h:i<cs.size):restLong (longs cs) (.cell i)=1+valLong (longs cs) (cs.getD i noCell).first+restLong (longs cs) (cs.getD i noCell).rest:=by
 have:=Dv w h
 show valLong (longs cs) (.cell i)-1=_;omega
theorem parts {i:Nat} (h:i<cs.size):below (cs.getD i noCell).first cs.size/\below (cs.getD i noCell).rest cs.size:=by
 obtain⟨a,b⟩:=w i _ (FN w h);exact⟨a.mono (bg h),b.mono (bg h)⟩
theorem Kt:∀(n:Nat),(∀v,below v cs.size->valLong (longs cs) v<n->(sayVal cs n v).length=valLong (longs cs) v)/\(∀v,below v cs.size->restLong (longs cs) v<n->(sayRest cs n v).length=restLong (longs cs) v)
 |0=>⟨fun v _ h=>by omega,fun v _ h=>by omega⟩
 |n+1=>by
  obtain⟨ih1,ih2⟩:=Kt n
  constructor
  .intro v hb h;cases v with
   |num z=>rfl
   |nil=>rfl
   |cell i=>
    have hi:i<cs.size:=hb;have e:=Dv w hi;obtain⟨p1,p2⟩:=parts w hi;rw[e]at h⊢;show (40::(sayVal cs n (cs.getD i noCell).first++(sayRest cs n (cs.getD i noCell).rest++ [41]))).length=_;simp only[aG,List.length_append,WD];rw[ih1 _ p1 (by omega),ih2 _ p2 (by omega)]
    omega
  .intro v hb h;cases v with
   |num z=>show ([32,46,32]++digitsOf z).length=3+_;simp;omega
   |nil=>rfl
   |cell i=>
    have hi:i<cs.size:=hb;have e:=HN w hi;obtain⟨p1,p2⟩:=parts w hi;rw[e]at h⊢;show (32::(sayVal cs n (cs.getD i noCell).first++sayRest cs n (cs.getD i noCell).rest)).length=_;simp only[aG,List.length_append];rw[ih1 _ p1 (by omega),ih2 _ p2 (by omega)]
    omega
theorem zT:∀(n m:Nat),(∀v,below v cs.size->valLong (longs cs) v<n->valLong (longs cs) v<m->sayVal cs n v=sayVal cs m v)/\(∀v,below v cs.size->restLong (longs cs) v<n->restLong (longs cs) v<m->sayRest cs n v=sayRest cs m v)
 |0,_=>⟨fun v _ h=>by omega,fun v _ h=>by omega⟩
 |_+1,0=>⟨fun v _ _ h=>by omega,fun v _ _ h=>by omega⟩
 |n+1,m+1=>by
  obtain⟨ih1,ih2⟩:=zT n m
  constructor
  .intro v hb h h';cases v with
   |num z=>rfl
   |nil=>rfl
   |cell i=>
    have hi:i<cs.size:=hb;have e:=Dv w hi;obtain⟨p1,p2⟩:=parts w hi;rw[e]at h h';show 40::(sayVal cs n (cs.getD i noCell).first++(sayRest cs n (cs.getD i noCell).rest++ [41]))=40::(sayVal cs m (cs.getD i noCell).first++(sayRest cs m (cs.getD i noCell).rest++ [41]));rw[ih1 _ p1 (by omega) (by omega),ih2 _ p2 (by omega) (by omega)]
  .intro v hb h h';cases v with
   |num z=>rfl
   |nil=>rfl
   |cell i=>
    have hi:i<cs.size:=hb;have e:=HN w hi;obtain⟨p1,p2⟩:=parts w hi;rw[e]at h h';show 32::(sayVal cs n (cs.getD i noCell).first++sayRest cs n (cs.getD i noCell).rest)=32::(sayVal cs m (cs.getD i noCell).first++sayRest cs m (cs.getD i noCell).rest);rw[ih1 _ p1 (by omega) (by omega),ih2 _ p2 (by omega) (by omega)]
end
def u0 (cs:Cells) (v:Val):Bytes:=sayRest cs (restLong (longs cs) v+1) v
section
variable {cs:Cells} (w:WF cs.toList)
include w
theorem lZ {v:Val} (h:below v cs.size):(said cs v).length=longOf cs v:=(Kt w _).1 v h (bt _)
theorem Lu {i:Nat} (h:i<cs.size):said cs (.cell i)=40::(said cs (cs.getD i noCell).first++(u0 cs (cs.getD i noCell).rest++ [41])):=by
 obtain⟨p1,p2⟩:=parts w h;have e:=Dv w h;show 40::(sayVal cs (longOf cs (.cell i)) (cs.getD i noCell).first++(sayRest cs (longOf cs (.cell i)) (cs.getD i noCell).rest++ [41]))=_;unfold said u0 longOf;rw[(zT w _ (valLong (longs cs) (cs.getD i noCell).first+1)).1 _ p1 (by omega) (by omega),(zT w _ (restLong (longs cs) (cs.getD i noCell).rest+1)).2 _ p2 (by omega) (by omega)]
theorem HP {i:Nat} (h:i<cs.size):u0 cs (.cell i)=32::(said cs (cs.getD i noCell).first++u0 cs (cs.getD i noCell).rest):=by
 obtain⟨p1,p2⟩:=parts w h;have e:=HN w h;show 32::(sayVal cs (restLong (longs cs) (.cell i)) (cs.getD i noCell).first++sayRest cs (restLong (longs cs) (.cell i)) (cs.getD i noCell).rest)=_;unfold said u0 longOf;rw[(zT w _ (valLong (longs cs) (cs.getD i noCell).first+1)).1 _ p1 (by omega) (by omega),(zT w _ (restLong (longs cs) (cs.getD i noCell).rest+1)).2 _ p2 (by omega) (by omega)]
end
def ent (cs:Cells) (e:Val×Bool):Bytes:=if e.2=true then u0 cs e.1++ [41]else said cs e.1
def opening (v:Val) (r:Bool):Bytes:=match v with
 | .cell _=>if r=true then [32]else [40]
 | .nil=>if r=true then [41]else [40,41]
 | .num z=>if r=true then [32,46,32]++digitsOf z++ [41]else digitsOf z
def tF (cs:Cells) (v:Val):List (Val×Bool):=match v with
 | .cell i=>[((cs.getD i noCell).first,false),((cs.getD i noCell).rest,true)]
 |_=>[]
def render (cs:Cells) (l:List (Val×Bool)):Bytes:=l.flatMap (ent cs)
theorem FO {cs:Cells} (w:WF cs.toList) {v:Val} {r:Bool} {l:List (Val×Bool)} (h:below v cs.size):render cs ((v,r)::l)=opening v r++render cs (tF cs v++l):=by
 unfold render;rw[List.flatMap_cons,List.flatMap_append,<-cE];congr 1;cases v with
 |num z=>cases r<;>simp[ent,opening,tF,said,u0,longOf,sayVal,sayRest]
 |nil=>cases r<;>simp[ent,opening,tF,said,u0,longOf,sayVal,sayRest]
 |cell i=>
  have hi:i<cs.size:=h;cases r with
  |false=>
   show said cs (.cell i)= [40]++_;rw[Lu w hi];simp[tF,ent]
  |true=>
   show u0 cs (.cell i)++ [41]= [32]++_;rw[HP w hi];simp[tF,ent]
abbrev VK:=Nat×Int
abbrev KK:=VK×VK
def zU (x:Array Nat×List KK) (c:Cell):Array Nat×List KK:=
 let k:=(valKey x.1 c.first,valKey x.1 c.rest)
 match x.2.findIdx? fun (y:KK)=>y==k with
 |some i=>(x.1.push i,x.2++ [k])
 |none=>(x.1.push x.2.length,x.2++ [k])
def kst (cs:List Cell):Array Nat×List KK:=cs.foldl zU (#[],[])
theorem keys_eq (cs:Cells):keys cs=(kst cs.toList).1:=rfl
theorem oJ (cs:List Cell) (c:Cell):kst (cs++ [c])=zU (kst cs) c:=by unfold kst;rw[List.foldl_append];rfl
theorem ze (x:Array Nat×List KK) (c:Cell):(zU x c).2=x.2++ [(valKey x.1 c.first,valKey x.1 c.rest)]:=by
 unfold zU;dsimp only;split<;>rfl
theorem Ku (x:Array Nat×List KK) (c:Cell):∃j,(zU x c).1=x.1.push j:=by
 unfold zU;dsimp only;split
 .exact⟨_,rfl⟩
 .exact⟨_,rfl⟩
theorem FP (cs:List Cell):(kst cs).1.size=cs.length/\(kst cs).2.length=cs.length:=by
 induction cs using uY with
 |h0=>exact⟨rfl,rfl⟩
 |h1 l a ih=>
  rw[oJ];obtain⟨j,hj⟩:=Ku (kst l) a;rw[hj,ze];simp[ih.1,ih.2]
theorem Kv (cs:List Cell) (c:Cell) {i:Nat} (h:i<cs.length):(kst (cs++ [c])).1.getD i 0=(kst cs).1.getD i 0:=by
 have hz:=(FP cs).1;rw[oJ];obtain⟨j,hj⟩:=Ku (kst cs) c;rw[hj];simp only[aS];rw[cu,aj (by omega)]
theorem oZ (cs:List Cell) (c:Cell) {v:Val} (h:below v cs.length):valKey (kst (cs++ [c])).1 v=valKey (kst cs).1 v:=by
 cases v with
 |cell i=>show (2,_)=(2,_);rw[Kv cs c h]
 |_=>rfl
def kk (ks:Array Nat) (c:Cell):KK:=(valKey ks c.first,valKey ks c.rest)
theorem Nf {cs:List Cell} (w:WF cs):∀(i:Nat) (c:Cell),cs[i]?=some c->(kst cs).2[i]?=some (kk (kst cs).1 c)/\(kst cs).2.findIdx? (fun y=>y==kk (kst cs).1 c)=some ((kst cs).1.getD i 0):=by
 induction cs using uY with
 |h0=>intro i c h;simp at h
 |h1 l a ih=>
  intro i c h;have wl:WF l:=fun j d hd=>w j d (by rw[aT (aa.mp hd).1];exact hd)
  obtain⟨z1,z2⟩:=FP l;by_cases e:i<l.length
  .have hc:l[i]?=some c:=by rwa [aT e]at h
   obtain⟨b1,b2⟩:=wl i c hc;obtain⟨q1,q2⟩:=ih wl i c hc;have hk:kk (kst (l++ [a])).1 c=kk (kst l).1 c:=by
    unfold kk;rw[oZ l a (b1.mono (bg e)),oZ l a (b2.mono (bg e))]
   rw[hk,Kv l a e,oJ,ze];refine⟨by rw[aT (by omega)];exact q1,?_⟩
   rw[List.findIdx?_append,q2];rfl
  .have hi:i=l.length:=by
    have:=(aa.mp h).1
    simp at this;omega
   subst hi;have hc:a=c:=by simpa using h
   subst hc;obtain⟨b1,b2⟩:=w l.length a h;have hk:kk (kst (l++ [a])).1 a=kk (kst l).1 a:=by
    unfold kk;rw[oZ l a b1,oZ l a b2]
   rw[hk];refine⟨by rw[oJ,ze,<-z2];simp[kk],?_⟩
   have e1:(kst (l++ [a])).2=(kst l).2++ [kk (kst l).1 a]:=by rw[oJ,ze];rfl
   rw[e1,List.findIdx?_append,oJ];unfold zU;dsimp only;show _=some ((match (kst l).2.findIdx? (fun (y:KK)=>y==kk (kst l).1 a)with
    |some i=>((kst l).1.push i,(kst l).2++ [kk (kst l).1 a])
    |none=>((kst l).1.push (kst l).2.length,(kst l).2++ [kk (kst l).1 a])).1.getD l.length 0)
   cases q:(kst l).2.findIdx? (fun (y:KK)=>y==kk (kst l).1 a)with
   |some j=>
    simp only[aS];rw[cu,aq z1.symm];rfl
   |none=>
    simp only[aS];rw[cu,aq z1.symm];simp
theorem PV {cs:List Cell} (w:WF cs) {i j:Nat} {c d:Cell} (hi:cs[i]?=some c) (hj:cs[j]?=some d):
  (kst cs).1.getD i 0=(kst cs).1.getD j 0↔kk (kst cs).1 c=kk (kst cs).1 d:=by
 obtain⟨a1,a2⟩:=Nf w i c hi;obtain⟨b1,b2⟩:=Nf w j d hj
 constructor
 .intro h;rw[h]at a2;rw[WH]at a2 b2;obtain⟨p,p2,_⟩:=a2;obtain⟨q,q2,_⟩:=b2;have p2:=eq_of_beq p2;have q2:=eq_of_beq q2;rw[<-p2,<-q2]
 .intro h;rw[h,b2]at a2;injection a2 with a2;exact a2.symm
abbrev LK:=Int×Int
def look (sh:List Nat):Val->LK
 | .num z=>(0,z)
 | .nil=>(1,0)
 | .cell i=>(2,((sh.getD i 0:Nat):Int))
def looks (sh:List Nat) (c:Cell):LK×LK:=(look sh c.first,look sh c.rest)
def ql (d:List ((LK×LK)×Nat)) (k:LK×LK):Option Nat:=(d.find? fun p=>decide (p.1=k)).map (·.2)
structure Sh (cs:List Cell) (sh:List Nat) (d:List ((LK×LK)×Nat)):Prop where
 len:sh.length=cs.length
 val:∀(j:Nat) (p:(LK×LK)×Nat),d[j]?=some p->p.2=j
 nd:(d.map (·.1)).Nodup
 at_:∀(i:Nat) (c:Cell),cs[i]?=some c->(looks sh c,sh.getD i 0)∈d
theorem Sh.nil:Sh [] [] []:=⟨rfl,fun j p h=>by simp at h,by simp,fun i c h=>by simp at h⟩
theorem FQ {sh:List Nat} {n:Nat} {v:Val} (h:below v sh.length):look (sh++ [n]) v=look sh v:=by
 cases v with
 |cell i=>
  show (2,_)=(2,_);have h:i<sh.length:=h;simp[ah,aT h]
 |_=>rfl
theorem Sh.inj {cs:List Cell} {sh:List Nat} {d:List ((LK×LK)×Nat)} (S:Sh cs sh d) {k k':LK×LK} {n:Nat} (h:(k,n)∈d) (h':(k',n)∈d):k=k':=by
 obtain⟨i,hi⟩:=bQ.mp h;obtain⟨j,hj⟩:=bQ.mp h';have e1:n=i:=S.val i _ hi;have e2:n=j:=S.val j _ hj;rw[<-e1]at hi;rw[<-e2]at hj;rw[hi]at hj;injection hj with hj;injection hj
theorem Sh.fn {cs:List Cell} {sh:List Nat} {d:List ((LK×LK)×Nat)} (S:Sh cs sh d) {k:LK×LK} {n m:Nat} (h:(k,n)∈d) (h':(k,m)∈d):n=m:=by
 obtain⟨i,hi⟩:=bQ.mp h;obtain⟨j,hj⟩:=bQ.mp h';have e1:n=i:=S.val i _ hi;have e2:m=j:=S.val j _ hj;have hi':(d.map (·.1))[i]?=some k:=by rw[aF,hi];rfl
 have hj':(d.map (·.1))[j]?=some k:=by rw[aF,hj];rfl
 have:=(List.getElem?_inj (aa.mp hi').1 S.nd).mp (hi'.trans hj'.symm)
 omega
theorem HQ {d:List ((LK×LK)×Nat)} {k:LK×LK} {n:Nat} (h:ql d k=some n):(k,n)∈d:=by
 unfold ql at h;cases e:d.find? fun p=>decide (p.1=k)with
 |none=>rw[e]at h;cases h
 |some p=>
  rw[e]at h;have h1:=List.find?_some e;have h2:=Xw e;have h3:p.1=k:=aQ h1;have h4:p.2=n:=a9 h;rw[<-h3,<-h4];exact h2
theorem HR {d:List ((LK×LK)×Nat)} {k:LK×LK} (h:ql d k=none):k∉d.map (·.1):=by
 unfold ql at h;rw[Option.map_eq_none_iff,Xm]at h;intro hm;obtain⟨p,hp,e⟩:=bx.mp hm;exact absurd (aI e) (h p hp)
def CK (sh:List Nat) (d:List ((LK×LK)×Nat)) (c:Cell):Nat×List ((LK×LK)×Nat):=match ql d (looks sh c)with
 |some n=>(n,d)
 |none=>(d.length,d++ [(looks sh c,d.length)])
theorem Sh.snoc {cs:List Cell} {sh:List Nat} {d:List ((LK×LK)×Nat)} (S:Sh cs sh d) (w:WF cs) {c:Cell} (h1:below c.first cs.length) (h2:below c.rest cs.length):
  Sh (cs++ [c]) (sh++ [(CK sh d c).1]) (CK sh d c).2:=by
 have lk:∀(i:Nat) (e:Cell),(cs++ [c])[i]?=some e->looks (sh++ [(CK sh d c).1]) e=looks sh e:=by
  intro i e he;obtain⟨b1,b2⟩:=(w.snoc h1 h2) i e he;have hl:i<=sh.length:=by
   have:=(aa.mp he).1
   simp at this;rw[S.len];omega
  unfold looks;rw[FQ (b1.mono hl),FQ (b2.mono hl)]
 have old:∀(i:Nat) (e:Cell) (n:Nat),cs[i]?=some e->(sh++ [n]).getD i 0=sh.getD i 0:=by
  intro i e n he;have:=(aa.mp he).1;simp[ah,aT (by rw[S.len];exact this:i<sh.length)]
 have new:∀n:Nat,(sh++ [n]).getD cs.length 0=n:=by
  intro n;rw[<-S.len];simp[ah]
 have cases_:∀(i:Nat) (e:Cell),(cs++ [c])[i]?=some e->cs[i]?=some e\/(i=cs.length/\e=c):=by
  intro i e he;by_cases q:i<cs.length
  .rw[aT q]at he;exact .inl he
  .have:=(aa.mp he).1
   simp at this;have q2:i=cs.length:=by omega
   subst q2;simp at he;exact .inr ⟨rfl,he.symm⟩
 unfold CK at lk⊢;cases q:ql d (looks sh c)with
 |some n=>
  rw[q]at lk;refine⟨by simp[S.len],S.val,S.nd,fun i e he=>?_⟩
  rw[lk i e he];rcases cases_ i e he with h|⟨rfl,rfl⟩
  .dsimp only;rw[old i e n h];exact S.at_ i e h
  .dsimp only;rw[new n];exact HQ q
 |none=>
  rw[q]at lk;refine⟨by simp[S.len],fun j p hp=>?_,?_,fun i e he=>?_⟩
  .dsimp only at hp;by_cases e:j<d.length
   .rw[aT e]at hp;exact S.val j p hp
   .have:=(aa.mp hp).1
    simp at this;have e2:j=d.length:=by omega
    subst e2;simp at hp;rw[<-hp]
  .rw[aA,bC];refine⟨S.nd,by simp,?_⟩
   intro a ha b hb;simp at hb;intro e;subst e;subst hb;exact HR q ha
  .rw[lk i e he];rcases cases_ i e he with h|⟨rfl,rfl⟩
   .dsimp only;rw[old i e _ h];exact cH _ (S.at_ i e h)
   .dsimp only;rw[new];exact ba _ aC
theorem Sh.same {cs:List Cell} {sh:List Nat} {d:List ((LK×LK)×Nat)} (S:Sh cs sh d) (w:WF cs):∀(n:Nat),n<=cs.length->∀v u:Val,below v n->below u n->
  (look sh v=look sh u↔valKey (kst cs).1 v=valKey (kst cs).1 u)
 |0,_,v,u,hv,hu=>by
  cases v with
  |cell i=>exact absurd hv (XY i)
  |num a=>
   cases u with
   |cell i=>exact absurd hu (XY i)
   |num b=>simp[look,valKey]
   |nil=>simp[look,valKey]
  |nil=>
   cases u with
   |cell i=>exact absurd hu (XY i)
   |num b=>simp[look,valKey]
   |nil=>simp[look,valKey]
 |n+1,hn,v,u,hv,hu=>by
  have ih:=Sh.same S w n (by omega)
  cases v with
  |num a=>cases u<;>simp[look,valKey]
  |nil=>cases u<;>simp[look,valKey]
  |cell i=>
   cases u with
   |num b=>simp[look,valKey]
   |nil=>simp[look,valKey]
   |cell j=>
    have hi:i<n+1:=hv;have hj:j<n+1:=hu;obtain⟨c,hc⟩:∃c,cs[i]?=some c:=⟨_,af (by omega)⟩
    obtain⟨e,he⟩:∃e,cs[j]?=some e:=⟨_,af (by omega)⟩
    obtain⟨c1,c2⟩:=w i c hc;obtain⟨e1,e2⟩:=w j e he;have k1:looks sh c=looks sh e↔kk (kst cs).1 c=kk (kst cs).1 e:=by
     unfold looks kk
     constructor
     .intro h;injection h with a b
      rw[(ih _ _ (c1.mono (by omega)) (e1.mono (by omega))).mp a,(ih _ _ (c2.mono (by omega)) (e2.mono (by omega))).mp b]
     .intro h;injection h with a b
      rw[(ih _ _ (c1.mono (by omega)) (e1.mono (by omega))).mpr a,(ih _ _ (c2.mono (by omega)) (e2.mono (by omega))).mpr b]
    have k2:sh.getD i 0=sh.getD j 0↔looks sh c=looks sh e:=by
     constructor
     .intro h;have h3:=S.at_ i c hc;rw[h]at h3;exact S.inj h3 (S.at_ j e he)
     .intro h;have h3:=S.at_ i c hc;rw[h]at h3;exact S.fn h3 (S.at_ j e he)
    have k3:=PV w hc he;show ((2:Int),((sh.getD i 0:Nat):Int))=(2,((sh.getD j 0:Nat):Int))↔((2:Nat),(((kst cs).1.getD i 0:Nat):Int))=(2,(((kst cs).1.getD j 0:Nat):Int));rw[XF,XF];simp only[true_and,Int.natCast_inj];rw[k2,k1,k3]
theorem Sh.alike {cs:Cells} {sh:List Nat} {d:List ((LK×LK)×Nat)} (S:Sh cs.toList sh d) (w:WF cs.toList) {v u:Val} (hv:below v cs.size) (hu:below u cs.size):
  alike cs v u=decide (look sh v=look sh u):=by
 have h:=S.same w cs.toList.length (au _) v u (by simpa using hv) (by simpa using hu)
 cases v with
 |num a=>cases u<;>simp[Lo.alike,look]<;>rfl
 |nil=>cases u<;>simp[Lo.alike,look]
 |cell i=>
  cases u with
  |num b=>simp[Lo.alike,look]
  |nil=>simp[Lo.alike,look]
  |cell j=>
   have e:(keys cs).getD i 0=(keys cs).getD j 0↔look sh (.cell i)=look sh (.cell j):=by
    rw[h];show _↔((2:Nat),(((kst cs.toList).1.getD i 0:Nat):Int))=(2,(((kst cs.toList).1.getD j 0:Nat):Int));rw[XF,keys_eq];simp only[true_and,Int.natCast_inj]
   unfold Lo.alike;dsimp only;by_cases q:look sh (.cell i)=look sh (.cell j)
   .rw[aI q,e.mpr q];simp
   .rw[ao q];have n1:¬(keys cs).getD i 0=(keys cs).getD j 0:=fun z=>q (e.mp z)
    have n2:¬i=j:=fun z=>q (by rw[z])
    rw[aW.mpr n1,aW.mpr n2];rfl
end Cm
namespace Km
open Lo
def SG:List Nat:=[33,40,41,42,43,45,47,48,49,50,51,52,53,54,55,56,57,58,59,60,61,64,97,98,99,100,101,102,103,104,105,106,107,108,109,110,111,112,113,114,115,116,117,118,119,120,121,122]
def sg (c:Nat):Nat:=if c∈SG then c else 63
def dQ (b:Bytes):List Nat:=b.map fun c=>sg c.toNat
def isD (c:Nat):Bool:=decide (48<=c)&&decide (c<=57)
def isL (c:Nat):Bool:=decide (97<=c)&&decide (c<=122)
def mE (w:List Nat):Bool:=decide (1<=w.length)&&(decide (w.length<=20)&&w.all isD)
def lets (w:List Nat):Bool:=decide (1<=w.length)&&(decide (w.length<=16)&&w.all isL)
def u1 (w:List Nat):Nat:=w.foldl (fun n c=>10*n+(c-48)) 0
def OPN:List (List Nat):=OPS.map fun b=>b.map UInt8.toNat
def ko (w:List Nat):Kind:=match w with
 |45::r=>if mE r=true then .number (-(u1 r:Int))else (match OPN.findIdx? fun x=>x==w with
  |some n=>.op n
  |none=>.none_)
 | [64,c]=>if isL c=true then .get (c-97)else .none_
 | [33,c]=>if isL c=true then .set (c-97)else .none_
 |_=>if mE w=true then .number (u1 w:Int)else match OPN.findIdx? fun x=>x==w with
  |some n=>.op n
  |none=>if lets w=true then .name else .none_
theorem Kx {c o:Nat} (ho:o∈SG):sg c=o↔c=o:=by
 unfold sg;split
 .rfl
 .rename_i h
  constructor
  .intro e;subst e;exact absurd ho (by decide)
  .intro e;subst e;exact absurd ho h
theorem Wm (c:Nat):isD (sg c)=isD c:=by
 unfold sg;split
 .rfl
 .rename_i h
  cases e:isD c with
  |false=>rfl
  |true=>
   simp only[isD,aH,aY]at e;exact absurd (by
    have:c=48\/c=49\/c=50\/c=51\/c=52\/c=53\/c=54\/c=55\/c=56\/c=57:=by omega
    rcases this with rfl|rfl|rfl|rfl|rfl|rfl|rfl|rfl|rfl|rfl<;>decide) h
theorem SW (c:Nat):isL (sg c)=isL c:=by
 unfold sg;split
 .rfl
 .rename_i h
  cases e:isL c with
  |false=>rfl
  |true=>
   simp only[isL,aH,aY]at e;exact absurd (by
    have:c-97<26:=by omega
    have q:∀i,i<26->i+97∈SG:=by decide
    have:=q (c-97) this
    rwa [Xn e.1]at this) h
theorem PX {c:Nat} (h:isD c=true):sg c=c:=by
 simp only[isD,aH,aY]at h;have:c-48<10:=by omega
 have q:∀i,i<10->sg (i+48)=i+48:=by decide
 have:=q (c-48) this
 rwa [Xn h.1]at this
theorem Dx {c:Nat} (h:isL c=true):sg c=c:=by
 simp only[isL,aH,aY]at h;have:c-97<26:=by omega
 have q:∀i,i<26->sg (i+97)=i+97:=by decide
 have:=q (c-97) this
 rwa [Xn h.1]at this
theorem RI (c:UInt8):isDigit c=isD c.toNat:=by
 unfold isDigit isD;congr 1
theorem Ng (c:UInt8):isLetter c=isL c.toNat:=by
 unfold isLetter isL;congr 1
theorem o8 (b:Bytes):isDigits b=mE (dQ b):=by
 unfold isDigits mE dQ;rw[List.length_map,List.all_map];congr 2;congr 1
 funext c
 rw[RI];exact(Wm _).symm
theorem zV {b:Bytes} (h:b.all isDigit=true):natOf b=u1 (dQ b):=by
 unfold natOf u1 dQ;rw[List.foldl_map];have:∀(b:Bytes) (n:Nat),b.all isDigit=true->b.foldl (fun n c=>10*n+(c.toNat-48)) n=b.foldl (fun n c=>10*n+(sg c.toNat-48)) n:=by
  intro b
  induction b with
  |nil=>intro n _;rfl
  |cons c r ih=>
   intro n h;rw[cC,aH]at h;rw[WI,WI,PX (by rw[<-RI];exact h.1)]
   exact ih _ h.2
 exact this b 0 h
theorem SX:∀x∈OPN,∀c∈x,c∈SG:=by decide+kernel
theorem r8:∀{o:List Nat} (b:Bytes),(∀c∈o,c∈SG)->(dQ b=o↔b.map UInt8.toNat=o)
 | [],[],_=>by simp[dQ]
 | [],c::r,_=>by simp[dQ]
 |a::o,[],_=>by simp[dQ]
 |a::o,c::r,h=>by
  have ih:=r8 (o:=o) r (fun x hx=>h x (ak _ hx))
  unfold dQ at ih⊢;simp only[bh,ck];rw[ih,Kx (h a aC)]
theorem toNat_inj {a b:Bytes} (h:a.map UInt8.toNat=b.map UInt8.toNat):a=b:=by
 induction a generalizing b with
 |nil=>cases b with
  |nil=>rfl
  |cons _ _=>simp at h
 |cons x r ih=>
  cases b with
  |nil=>simp at h
  |cons y s=>
   simp only[bh,ck]at h;rw[ih h.2,Xf.mp h.1]
theorem FR {α:Type} {p q:α->Bool}:∀{l:List α},(∀x∈l,p x=q x)->l.findIdx? p=l.findIdx? q
 | [],_=>rfl
 |a::l,h=>by
  rw[List.findIdx?_cons,List.findIdx?_cons,h a aC,FR (fun x hx=>h x (ak _ hx))]
theorem sW (b:Bytes):(OPS.findIdx? fun x=>x==b)=OPN.findIdx? fun x=>x==dQ b:=by
 unfold OPN;rw[List.findIdx?_map];refine FR fun x hx=>?_
 have hs:∀c∈x.map UInt8.toNat,c∈SG:=SX _ (bx.mpr ⟨x,hx,rfl⟩);have e:=r8 (o:=x.map UInt8.toNat) b hs;show (x==b)=(x.map UInt8.toNat==dQ b);by_cases q:x=b
 .subst q;have:=e.mpr rfl;rw[this];simp
 .have n1:(x==b)=false:=aW.mpr q;have n2:¬(x.map UInt8.toNat)=dQ b:=fun z=>q (toNat_inj (e.mp z.symm)).symm
  rw[n1,aW.mpr n2]
theorem HS (b:Bytes):(decide (1<=b.length)&&(decide (b.length<=16)&&b.all isLetter))=lets (dQ b):=by
 unfold lets dQ;rw[List.length_map,List.all_map];congr 2;congr 1
 funext c
 rw[Ng];exact(SW _).symm
theorem FT {b:Bytes} (h:isDigits b=true):b.all isDigit=true:=by
 unfold isDigits at h;simp only[aH]at h;exact h.2.2
theorem Wn (c:UInt8):sg c.toNat=45↔c=45:=by
 rw[Kx (by decide)]
 constructor
 .intro h;exact Xf.mp (by rw[h];rfl)
 .intro h;subst h;rfl
theorem Wo (c:UInt8):sg c.toNat=64↔c=64:=by
 rw[Kx (by decide)]
 constructor
 .intro h;exact Xf.mp (by rw[h];rfl)
 .intro h;subst h;rfl
theorem Wq (c:UInt8):sg c.toNat=33↔c=33:=by
 rw[Kx (by decide)]
 constructor
 .intro h;exact Xf.mp (by rw[h];rfl)
 .intro h;subst h;rfl
def HU (b:Bytes):Kind:=if isDigits b=true then .number (natOf b:Int)else match OPS.findIdx? fun (x:Bytes)=>x==b with
  |some n=>.op n
  |none=>if decide (1<=b.length)&&(decide (b.length<=16)&&b.all isLetter)then .name else .none_
def Dy (w:List Nat):Kind:=if mE w=true then .number (u1 w:Int)else match OPN.findIdx? fun x=>x==w with
  |some n=>.op n
  |none=>if lets w=true then .name else .none_
theorem FU (b:Bytes):HU b=Dy (dQ b):=by
 unfold HU Dy;rw[sW,HS];by_cases h:isDigits b=true
 .rw[aq h,aq (by rw[<-o8];exact h),zV (FT h)]
 .have h':¬mE (dQ b)=true:=by rw[<-o8];exact h
  simp only[aj h,aj h']
theorem Dz {b:Bytes} (h1:∀r,b≠45::r) (h2:∀c,b≠ [64,c]) (h3:∀c,b≠ [33,c]):kindOf b=HU b:=by
 unfold kindOf;split
 .rename_i r;exact absurd rfl (h1 r)
 .rename_i c;exact absurd rfl (h2 c)
 .rename_i c;exact absurd rfl (h3 c)
 .rfl
theorem x9 {w:List Nat} (h1:∀r,w≠45::r) (h2:∀c,w≠ [64,c]) (h3:∀c,w≠ [33,c]):ko w=Dy w:=by
 unfold ko;split
 .rename_i r;exact absurd rfl (h1 r)
 .rename_i c;exact absurd rfl (h2 c)
 .rename_i c;exact absurd rfl (h3 c)
 .rfl
theorem il (b:Bytes):kindOf b=ko (dQ b):=by
 by_cases h1:∃r,b=45::r
 .obtain⟨r,rfl⟩:=h1;have e:dQ (45::r)=45::dQ r:=by simp[dQ,sg];decide
  show (if isDigits r=true then Kind.number (-(natOf r:Int))else (match OPS.findIdx? fun (x:Bytes)=>x==45::r with
   |some n=>.op n
   |none=>.none_))=_
  rw[sW,e];show _=(if mE (dQ r)=true then Kind.number (-(u1 (dQ r):Int))else (match OPN.findIdx? fun x=>x==45::dQ r with
   |some n=>.op n
   |none=>.none_))
  by_cases h:isDigits r=true
  .rw[aq h,aq (by rw[<-o8];exact h),zV (FT h)]
  .rw[aj h,aj (by rw[<-o8];exact h)]
 by_cases h2:∃c,b= [64,c]
 .obtain⟨c,rfl⟩:=h2;have e:dQ [64,c]= [64,sg c.toNat]:=by simp[dQ,sg];decide
  rw[e];show (if isLetter c=true then Kind.get (c.toNat-97)else .none_)=(if isL (sg c.toNat)=true then Kind.get (sg c.toNat-97)else .none_)
  rw[SW,Ng];by_cases h:isL c.toNat=true
  .rw[aq h,aq h,Dx h]
  .rw[aj h,aj h]
 by_cases h3:∃c,b= [33,c]
 .obtain⟨c,rfl⟩:=h3;have e:dQ [33,c]= [33,sg c.toNat]:=by simp[dQ,sg];decide
  rw[e];show (if isLetter c=true then Kind.set (c.toNat-97)else .none_)=(if isL (sg c.toNat)=true then Kind.set (sg c.toNat-97)else .none_)
  rw[SW,Ng];by_cases h:isL c.toNat=true
  .rw[aq h,aq h,Dx h]
  .rw[aj h,aj h]
 rw[Dz (fun r q=>h1 ⟨r,q⟩) (fun c q=>h2 ⟨c,q⟩) (fun c q=>h3 ⟨c,q⟩),FU,x9]
 .intro r q;cases b with
  |nil=>simp[dQ]at q
  |cons c s=>
   simp only[dQ,bh,ck]at q;exact h1 ⟨s,by rw[(Wn c).mp q.1]⟩
 .intro d q
  match b,q with
  | [c,e],q=>
   simp only[dQ,bh,Xk,ck]at q;exact h2 ⟨e,by rw[(Wo c).mp q.1]⟩
  | [],q=>simp[dQ]at q
  | [_],q=>simp[dQ]at q
  |_::_::_::_,q=>simp[dQ]at q
 .intro d q
  match b,q with
  | [c,e],q=>
   simp only[dQ,bh,Xk,ck]at q;exact h3 ⟨e,by rw[(Wq c).mp q.1]⟩
  | [],q=>simp[dQ]at q
  | [_],q=>simp[dQ]at q
  |_::_::_::_,q=>simp[dQ]at q
def fK (w:List Nat):List Nat:=match w with
 |45::r=>r
 |_=>w
def isNum (w:List Nat):Bool:=mE (fK w)
def FV (w:List Nat):Int:=match w with
 |45::r=>-(u1 r:Int)
 |_=>(u1 w:Int)
def isVar (w:List Nat):Bool:=match w with
 | [a,c]=>(a==64||a==33)&&isL c
 |_=>false
theorem Nh:∀x∈OPN,isNum x=false/\isVar x=false/\(∀c,x≠ [64,c])/\(∀c,x≠ [33,c]):=by
 intro x hx;have h1:∀x∈OPN,isNum x=false/\isVar x=false/\(x.head?==some 64)=false/\(x.head?==some 33)=false:=by decide+kernel
 obtain⟨a,b,c,d⟩:=h1 x hx;exact⟨a,b,fun q e=>by subst e;simp at c,fun q e=>by subst e;simp at d⟩
theorem Ni {w:List Nat} {n:Nat} (h:(OPN.findIdx? fun x=>x==w)=some n):OPN[n]?=some w:=by
 rw[WH]at h;obtain⟨a,b,_⟩:=h;rw[af a,eq_of_beq b]
theorem DA {w:List Nat} (h:(OPN.findIdx? fun x=>x==w)=none):w∉OPN:=by
 rw[List.findIdx?_eq_none_iff]at h;intro hm;have:=h w hm;simp at this
inductive KC (w:List Nat):Prop where
 |num:ko w= .number (FV w)->isNum w=true->KC w
 |op (n:Nat):ko w= .op n->OPN[n]?=some w->isNum w=false->isVar w=false->KC w
 |get (c:Nat):ko w= .get (c-97)->w= [64,c]->isL c=true->KC w
 |set (c:Nat):ko w= .set (c-97)->w= [33,c]->isL c=true->KC w
 |name:ko w= .name->lets w=true->w∉OPN->isNum w=false->isVar w=false->KC w
 |none_:ko w= .none_->lets w=false->w∉OPN->isNum w=false->isVar w=false->KC w
theorem kc (w:List Nat):KC w:=by
 by_cases h1:∃r,w=45::r
 .obtain⟨r,rfl⟩:=h1;have hl:lets (45::r)=false:=by simp[lets,isL]
  have hv:isVar (45::r)=false:=by
   unfold isVar;split
   .rename_i a c e;injection e with e1 e2;subst e1;simp
   .rfl
  have e:ko (45::r)=(if mE r=true then Kind.number (-(u1 r:Int))else (match OPN.findIdx? fun x=>x==45::r with
   |some n=>.op n
   |none=>.none_)):=rfl
  by_cases h:mE r=true
  .rw[aq h]at e;exact .num e h
  .rw[aj h]at e;have hn:isNum (45::r)=false:=by cases q:isNum (45::r)with
    |false=>rfl
    |true=>exact absurd q h
   cases q:OPN.findIdx? fun x=>x==45::r with
   |some n=>rw[q]at e;exact .op n e (Ni q) hn hv
   |none=>rw[q]at e;exact .none_ e hl (DA q) hn hv
 by_cases h2:∃c,w= [64,c]
 .obtain⟨c,rfl⟩:=h2;have e:ko [64,c]=if isL c=true then Kind.get (c-97)else .none_:=rfl
  by_cases h:isL c=true
  .rw[aq h]at e;exact .get c e rfl h
  .rw[aj h]at e;refine .none_ e (by simp[lets,isL]) (fun hm=>(Nh _ hm).2.2.1 c rfl) (by simp[isNum,fK,mE,isD]) ?_
   simp only[bK]at h;simp[isVar,h]
 by_cases h3:∃c,w= [33,c]
 .obtain⟨c,rfl⟩:=h3;have e:ko [33,c]=if isL c=true then Kind.set (c-97)else .none_:=rfl
  by_cases h:isL c=true
  .rw[aq h]at e;exact .set c e rfl h
  .rw[aj h]at e;refine .none_ e (by simp[lets,isL]) (fun hm=>(Nh _ hm).2.2.2 c rfl) (by simp[isNum,fK,mE,isD]) ?_
   simp only[bK]at h;simp[isVar,h]
 have hu:fK w=w:=by
  unfold fK;split
  .rename_i r;exact absurd ⟨r,rfl⟩ h1
  .rfl
 have hv:FV w=(u1 w:Int):=by
  unfold FV;split
  .rename_i r;exact absurd ⟨r,rfl⟩ h1
  .rfl
 have hvar:isVar w=false:=by
  unfold isVar;split
  .rename_i a c
   cases q:(a==64||a==33)with
   |false=>rfl
   |true=>
    simp only[Xc,cA]at q;rcases q with rfl|rfl
    .exact absurd ⟨c,rfl⟩ h2
    .exact absurd ⟨c,rfl⟩ h3
  .rfl
 have e:=x9 (fun r q=>h1 ⟨r,q⟩) (fun c q=>h2 ⟨c,q⟩) (fun c q=>h3 ⟨c,q⟩)
 unfold Dy at e;by_cases h:mE w=true
 .rw[aq h,<-hv]at e;exact .num e (by unfold isNum;rw[hu];exact h)
 .rw[aj h]at e;have hn:isNum w=false:=by
   unfold isNum;rw[hu];cases q:mE w with
   |false=>rfl
   |true=>exact absurd q h
  cases q:OPN.findIdx? fun x=>x==w with
  |some n=>rw[q]at e;exact .op n e (Ni q) hn hvar
  |none=>
   rw[q]at e;by_cases hl:lets w=true
   .rw[aq hl]at e;exact .name e hl (DA q) hn hvar
   .rw[aj hl]at e;exact .none_ e (by simpa using hl) (DA q) hn hvar
end Km
namespace Am
open Lo
inductive Rch (cs:Cells) (vs:List Val):Nat->Prop where
 |root {i:Nat}:Val.cell i∈vs->i<cs.size->Rch cs vs i
 |first {j i:Nat}:Rch cs vs j->(cs.getD j noCell).first= .cell i->i<cs.size->Rch cs vs i
 |rest {j i:Nat}:Rch cs vs j->(cs.getD j noCell).rest= .cell i->i<cs.size->Rch cs vs i
def on (m:Array Bool) (i:Nat):Prop:=m.getD i false=true
theorem DB (m:Array Bool) (v:Val) (i:Nat):on (mark m v) i↔on m i\/(v= .cell i/\i<m.size):=by
 unfold on mark;cases v with
 |cell j=>
  simp only[aS,Array.getElem?_setIfInBounds,Val.cell.injEq];by_cases e:j=i
  .subst e;by_cases h:j<m.size
   .simp[h]
   .simp[h]
  .simp[e]
 |num z=>simp
 |nil=>simp
theorem oK (m:Array Bool) (v:Val):(mark m v).size=m.size:=by
 unfold mark;cases v<;>simp
theorem wC (vs:List Val):∀(m:Array Bool) (i:Nat),(on (vs.foldl mark m) i↔on m i\/(Val.cell i∈vs/\i<m.size))/\(vs.foldl mark m).size=m.size:=by
 induction vs with
 |nil=>intro m i;simp
 |cons v vs ih=>
  intro m i;obtain⟨h1,h2⟩:=ih (mark m v) i;rw[WI];refine⟨?_,by rw[h2,oK]⟩
  rw[h1,DB,oK];simp only[ag]
  constructor
  .rintro((h|⟨h,l⟩)|⟨h,l⟩)
   .exact .inl h
   .exact .inr ⟨.inl h.symm,l⟩
   .exact .inr ⟨.inr h,l⟩
  .rintro(h|⟨h|h,l⟩)
   .exact .inl (.inl h)
   .exact .inl (.inr ⟨h.symm,l⟩)
   .exact .inr ⟨h,l⟩
def u4 (cs:Cells) (m:Array Bool) (i:Nat):Array Bool:=if m.getD i false=true then mark (mark m (cs.getD i noCell).first) (cs.getD i noCell).rest else m
theorem CM (cs:Cells) (m:Array Bool) (i:Nat):(u4 cs m i).size=m.size:=by
 unfold u4;split
 .rw[oK,oK]
 .rfl
structure P (cs:Cells) (vs:List Val) (k:Nat) (m:Array Bool):Prop where
 sz:m.size=cs.size
 root:∀i,Val.cell i∈vs->i<cs.size->on m i
 snd:∀i,on m i->Rch cs vs i
 cl:∀j,k<=j->on m j->∀i,i<cs.size->((cs.getD j noCell).first= .cell i\/(cs.getD j noCell).rest= .cell i)->on m i
theorem P.step {cs:Cells} {vs:List Val} {k:Nat} {m:Array Bool} (w:Cm.WF cs.toList) (hk:k<cs.size) (h:P cs vs (k+1) m):P cs vs k (u4 cs m k):=by
 have hc:cs.toList[k]?=some (cs.getD k noCell):=by
  rw[cz,aS,b0 hk];rfl
 obtain⟨w1,w2⟩:=w k _ hc;have ex:∀i,on (u4 cs m k) i↔on m i\/(on m k/\i<cs.size/\((cs.getD k noCell).first= .cell i\/(cs.getD k noCell).rest= .cell i)):=by
  intro i;unfold u4;by_cases q:m.getD k false=true
  .rw[aq q,DB,DB,oK,h.sz];have qk:on m k:=q
   constructor
   .rintro((a|⟨a,b⟩)|⟨a,b⟩)
    .exact .inl a
    .exact .inr ⟨qk,b,.inl a⟩
    .exact .inr ⟨qk,b,.inr a⟩
   .rintro(a|⟨_,b,a|a⟩)
    .exact .inl (.inl a)
    .exact .inl (.inr ⟨a,b⟩)
    .exact .inr ⟨a,b⟩
  .rw[aj q];exact⟨.inl,fun z=>z.elim id fun z=>absurd z.1 q⟩
 refine⟨by rw[CM];exact h.sz,fun i h1 h2=>(ex i).mpr (.inl (h.root i h1 h2)),fun i hi=>?_,fun j hj hon i hi hp=>?_⟩
 .rcases(ex i).mp hi with a|⟨a,b,e|e⟩
  .exact h.snd i a
  .exact .first (h.snd k a) e b
  .exact .rest (h.snd k a) e b
 .rw[ex];have hon':on m j:=by
   rcases(ex j).mp hon with a|⟨_,_,e|e⟩
   .exact a
   .rw[e]at w1;have:j<k:=w1;omega
   .rw[e]at w2;have:j<k:=w2;omega
  by_cases q:j=k
  .subst q;exact .inr ⟨hon',hi,hp⟩
  .exact .inl (h.cl j (by omega) hon' i hi hp)
theorem P.all {cs:Cells} {vs:List Val} (w:Cm.WF cs.toList):∀(k:Nat) {m:Array Bool},k<=cs.size->P cs vs k m->P cs vs 0 ((List.range k).reverse.foldl (u4 cs) m)
 |0,m,_,h=>h
 |k+1,m,hk,h=>by
  rw[Xe,WA,XN,List.singleton_append,WI];exact P.all w k (by omega) (h.step w (by omega))
theorem Nj {cs:Cells} {vs:List Val} (w:Cm.WF cs.toList) (i:Nat):on (marks cs vs) i↔Rch cs vs i:=by
 have h0:P cs vs cs.size (vs.foldl mark (Array.replicate cs.size false)):=by
  have no:∀i,¬on (Array.replicate cs.size false) i:=fun i z=>by
   unfold on at z;rw[aS,Array.getElem?_replicate]at z;split at z<;>simp at z
  have hs:∀i,(on (vs.foldl mark (Array.replicate cs.size false)) i↔Val.cell i∈vs/\i<cs.size):=fun i=>by
   rw[(wC vs _ i).1];simp[no i]
  refine⟨by rw[(wC vs _ 0).2];simp,fun i h1 h2=>(hs i).mpr ⟨h1,h2⟩,fun i h=>.root ((hs i).mp h).1 ((hs i).mp h).2,fun j hj hon=>?_⟩
  have:=((hs j).mp hon).2
  omega
 have h:=P.all w cs.size (au _) h0;have e:marks cs vs=(List.range cs.size).reverse.foldl (u4 cs) (vs.foldl mark (Array.replicate cs.size false)):=rfl;rw[e];refine⟨h.snd i,fun z=>?_⟩
 induction z with
 |root h1 h2=>exact h.root _ h1 h2
 |first _ e l ih=>exact h.cl _ (aO _) ih _ l (.inl e)
 |rest _ e l ih=>exact h.cl _ (aO _) ih _ l (.inr e)
theorem tG {cs:Cells} {vs:List Val} (w:Cm.WF cs.toList):(marks cs vs).size=cs.size:=by
 have:∀(l:List Nat) (m:Array Bool),(l.foldl (u4 cs) m).size=m.size:=by
  intro l
  induction l with
  |nil=>intro m;rfl
  |cons a l ih=>intro m;rw[WI,ih,CM]
 have e:marks cs vs=(List.range cs.size).reverse.foldl (u4 cs) (vs.foldl mark (Array.replicate cs.size false)):=rfl;rw[e,this,(wC vs _ 0).2];simp
theorem HV {cs:Cells} {vs:List Val} (w:Cm.WF cs.toList) (b:Nat->Bool) (hb:∀i,i<cs.size->(b i=true↔Rch cs vs i)):reached cs vs=((List.range cs.size).filter b).length:=by
 have e:(marks cs vs).toList=(List.range cs.size).map b:=by
  apply List.ext_getElem
  .rw[bV,tG w,List.length_map,XC]
  .intro i h1 h2;rw[List.getElem_map,List.getElem_range,Array.getElem_toList];have hi:i<cs.size:=by rw[bV,tG w]at h1;exact h1
   have h3:i<(marks cs vs).size:=by rw[tG w];exact hi
   have h4:=Nj (vs:=vs) w i;unfold on at h4;rw[aS,b0 h3,Option.getD_some,<-hb i hi]at h4;cases q:(marks cs vs)[i]with
   |true=>exact(h4.mp q).symm
   |false=>
    cases q2:b i with
    |false=>rfl
    |true=>have:=h4.mpr q2;rw[q]at this;cases this
 unfold reached;rw[e,List.filter_map,List.length_map];rfl
end Am
namespace Hm
open Lo
def isC (i:Nat):Val->Bool
 | .cell j=>decide (j=i)
 |_=>false
def cnt (i:Nat) (vs:List Val):Nat:=vs.countP (isC i)
def ref (e:Cell) (i:Nat):Nat:=cnt i [e.first,e.rest]
def inn:List Cell->List Nat->Nat->Nat
 |e::cs,h::ho,i=>(if 0<h then ref e i else 0)+inn cs ho i
 |_,_,_=>0
def hd (ho:List Nat):Nat:=ho.countP fun h=>decide (0<h)
theorem cnt_cons (i:Nat) (v:Val) (vs:List Val):cnt i (v::vs)=cnt i [v]+cnt i vs:=by
 unfold cnt;rw[WX,WX,List.countP_nil];omega
theorem cnt_append (i:Nat) (a b:List Val):cnt i (a++b)=cnt i a+cnt i b:=Xo
theorem PY (i:Nat) (a:List Val):cnt i a.reverse=cnt i a:=by unfold cnt;exact List.countP_reverse
theorem cnt_nil (i:Nat):cnt i []=0:=rfl
theorem ra (i:Nat):cnt i [.cell i]=1:=by unfold cnt;simp[isC]
theorem DC {i j:Nat} (h:j≠i):cnt i [.cell j]=0:=by unfold cnt;simp[isC,h]
theorem Ky (i:Nat) (z:Int):cnt i [.num z]=0:=rfl
theorem Nk (i:Nat):cnt i [.nil]=0:=rfl
theorem nU {i:Nat} {vs:List Val}:0<cnt i vs↔Val.cell i∈vs:=by
 unfold cnt;rw[List.countP_pos_iff]
 constructor
 .rintro⟨a,h1,h2⟩;cases a with
  |cell j=>
   have:j=i:=by simpa[isC]using h2
   rw[<-this];exact h1
  |num z=>simp[isC]at h2
  |nil=>simp[isC]at h2
 .intro h;exact⟨_,h,by simp[isC]⟩
theorem Nl (e:Cell) (i:Nat):ref e i=cnt i [e.first]+cnt i [e.rest]:=by unfold ref;rw[cnt_cons]
theorem u5:∀{cs:List Cell} {ho:List Nat} {i:Nat} {e:Cell} {h:Nat} (h' j:Nat),cs[i]?=some e->ho[i]?=some h->
  inn cs (ho.set i h') j+(if 0<h then ref e j else 0)=inn cs ho j+(if 0<h' then ref e j else 0)
 | [],_,_,_,_,_,_,h1,_=>by simp at h1
 |_::_,[],_,_,_,_,_,_,h2=>by simp at h2
 |a::cs,b::ho,0,e,h,h',j,h1,h2=>by
  simp at h1 h2;subst h1 h2;simp only[WJ,inn];omega
 |a::cs,b::ho,i+1,e,h,h',j,h1,h2=>by
  have:=u5 (cs:=cs) (ho:=ho) (i:=i) h' j (by simpa using h1) (by simpa using h2)
  simp only[WK,inn];omega
theorem HW:∀{ho:List Nat} {i h:Nat} (h':Nat),ho[i]?=some h->hd (ho.set i h')+(if 0<h then 1 else 0)=hd ho+(if 0<h' then 1 else 0)
 | [],_,_,_,h2=>by simp at h2
 |b::ho,0,h,h',h2=>by
  simp at h2;subst h2;simp only[WJ,hd,WX,aY];omega
 |b::ho,i+1,h,h',h2=>by
  have:=HW (ho:=ho) (i:=i) h' (by simpa using h2)
  simp only[WK,hd,WX]at this⊢;omega
theorem RJ (ho:List Nat):hd ho<=ho.length:=List.countP_le_length
theorem CN:∀{cs:List Cell} {ho:List Nat} (e:Cell) (j:Nat),ho.length=cs.length->inn (cs++ [e]) (ho++ [0]) j=inn cs ho j
 | [],[],e,j,_=>by simp[inn]
 | [],_::_,_,_,h=>by simp at h
 |_::_,[],_,_,h=>by simp at h
 |a::cs,b::ho,e,j,h=>by
  simp only[XH,inn];rw[CN e j (by simpa using h)]
theorem zf:∀{cs:List Cell} {ho:List Nat} {j:Nat},0<inn cs ho j↔∃(i:Nat) (e:Cell) (h:Nat),cs[i]?=some e/\ho[i]?=some h/\0<h/\0<ref e j
 | [],_,_=>by simp[inn]
 |_::_,[],_=>by simp[inn]
 |a::cs,b::ho,j=>by
  have ih:=zf (cs:=cs) (ho:=ho) (j:=j);simp only[inn]
  constructor
  .intro h;by_cases q:0<inn cs ho j
   .obtain⟨i,e,g,h1,h2,h3⟩:=ih.mp q;exact⟨i+1,e,g,by simpa using h1,by simpa using h2,h3⟩
   .by_cases g:0<b
    .rw[aq g]at h;exact⟨0,a,b,rfl,rfl,g,by omega⟩
    .rw[aj g]at h;omega
  .rintro⟨i,e,g,h1,h2,h3,h4⟩;cases i with
   |zero=>
    simp at h1 h2;subst h1 h2;rw[aq h3];omega
   |succ i=>have:=ih.mpr ⟨i,e,g,by simpa using h1,by simpa using h2,h3,h4⟩;omega
structure Hi (cs:List Cell) (ho:List Nat) (rt:List Val):Prop where
 len:ho.length=cs.length
 eq:∀i,i<cs.length->ho.getD i 0=cnt i rt+inn cs ho i
 bel:∀v∈rt,Cm.below v cs.length
theorem Hi.nil:Hi [] [] []:=⟨rfl,fun i h=>by simp at h,fun v h=>by simp at h⟩
theorem Hi.perm {cs:List Cell} {ho:List Nat} {rt rt':List Val} (h:Hi cs ho rt) (e:∀i,cnt i rt'=cnt i rt):Hi cs ho rt':=by
 refine⟨h.len,fun i hi=>by rw[h.eq i hi,e i],fun v hv=>?_⟩
 cases v with
 |cell i=>exact h.bel _ (nU.mp (by rw[<-e i];exact nU.mpr hv))
 |num z=>trivial
 |nil=>trivial
theorem Hi.plain {cs:List Cell} {n:Nat} (z:Int) {ho:List Nat}:Hi [] [] (List.replicate n (.num z)):=by
 refine⟨rfl,fun i hi=>by simp at hi,fun v hv=>?_⟩
 rw[(List.mem_replicate.mp hv).2];trivial
theorem Hi.make {cs:List Cell} {ho:List Nat} {rt:List Val} (h:Hi cs ho rt) (w:Cm.WF cs) (e:Cell):Hi (cs++ [e]) (ho++ [0]) rt:=by
 refine⟨by simp[h.len],fun i hi=>?_,fun v hv=>(h.bel v hv).mono (by simp)⟩
 rw[CN e i h.len];by_cases q:i<cs.length
 .rw[<-h.eq i q];simp only[ah];rw[aT (by rw[h.len];exact q)]
 .have hi':i=cs.length:=by simp at hi;omega
  subst hi';have h1:(ho++ [0]).getD cs.length 0=0:=by rw[<-h.len];simp
  have h2:cnt cs.length rt=0:=by
   by_cases z:0<cnt cs.length rt
   .have:=h.bel _ (nU.mp z)
    exact absurd this (bG _)
   .omega
  have h3:inn cs ho cs.length=0:=by
   by_cases z:0<inn cs ho cs.length
   .obtain⟨i,e,g,h1,h2,h3,h4⟩:=zf.mp z;have hw:=w i e h1;have hi:=(aa.mp h1).1;have:=nU.mp h4;simp only[ag,aJ,bw]at this;rcases this with z|z
    .rw[<-z]at hw;have:cs.length<i:=hw.1;omega
    .rw[<-z]at hw;have:cs.length<i:=hw.2;omega
   .omega
  rw[h1,h2,h3]
structure Hw (cs:List Cell) (ho:List Nat) (rt w:List Val):Prop where
 len:ho.length=cs.length
 eq:∀i,i<cs.length->ho.getD i 0+cnt i w=cnt i rt+inn cs ho i
 bel:∀v∈w,Cm.below v cs.length
theorem Hw.begin {cs:List Cell} {ho:List Nat} {rt:List Val} {v:Val} (h:Hi cs ho rt) (b:Cm.below v cs.length):Hw cs ho (v::rt) [v]:=by
 refine⟨h.len,fun i hi=>?_,fun u hu=>by simp at hu;subst hu;exact b⟩
 rw[h.eq i hi,cnt_cons i v rt];omega
theorem Hw.fin {cs:List Cell} {ho:List Nat} {rt:List Val} (h:Hw cs ho rt []) (b:∀v∈rt,Cm.below v cs.length):Hi cs ho rt:=
 ⟨h.len,fun i hi=>by have:=h.eq i hi;rw[cnt_nil]at this;omega,b⟩
theorem Hw.skip {cs:List Cell} {ho:List Nat} {rt w:List Val} {v:Val} (h:Hw cs ho rt (v::w)) (n:∀i,cnt i [v]=0):Hw cs ho rt w:=
 ⟨h.len,fun i hi=>by have:=h.eq i hi;rw[cnt_cons,n i]at this;omega,fun u hu=>h.bel u (ak _ hu)⟩
theorem zW {ho:List Nat} {i h:Nat} (e:ho[i]?=some h):ho.getD i 0=h:=by rw[ah,e];rfl
theorem u6 {ho:List Nat} {i:Nat} (hi:i<ho.length) (h' j:Nat):(ho.set i h').getD j 0=if j=i then h' else ho.getD j 0:=by
 simp only[ah,List.getElem?_set];by_cases e:i=j
 .subst e;simp[hi]
 .rw[aj e,aj (fun z=>e z.symm)]
theorem Hw.more {cs:List Cell} {ho:List Nat} {rt w:List Val} {i h:Nat} (H:Hw cs ho rt (.cell i::w)) (hi:ho[i]?=some h) (hp:0<h):Hw cs (ho.set i (h+1)) rt w:=by
 have hl:=(aa.mp hi).1;obtain⟨e,he⟩:∃e,cs[i]?=some e:=⟨_,af (by rw[<-H.len];exact hl)⟩
 refine⟨by rw[bF];exact H.len,fun j hj=>?_,fun u hu=>H.bel u (ak _ hu)⟩
 have h1:=H.eq j hj;have h2:=u5 (h+1) j he hi;rw[aq hp,aq (by omega)]at h2
 rw[cnt_cons]at h1;rw[u6 hl];by_cases q:j=i
 .subst q;rw[ra,zW hi]at h1;rw[aq rfl];omega
 .rw[DC (fun z=>q z.symm)]at h1;rw[aj q];omega
theorem Hw.new {cs:List Cell} {ho:List Nat} {rt w:List Val} {i:Nat} {e:Cell} (W:Cm.WF cs) (H:Hw cs ho rt (.cell i::w)) (hi:ho[i]?=some 0) (he:cs[i]?=some e):Hw cs (ho.set i 1) rt (e.rest::e.first::w):=by
 have hl:=(aa.mp hi).1;have hw:=W i e he;have fH:=(aa.mp he).1;refine⟨by rw[bF];exact H.len,fun j hj=>?_,fun u hu=>?_⟩
 .have h1:=H.eq j hj;have h2:=u5 1 j he hi;rw[aj (by omega),aq (by omega),Nl]at h2
  rw[cnt_cons]at h1;rw[u6 hl,cnt_cons j e.rest,cnt_cons j e.first];by_cases q:j=i
  .subst q;rw[ra,zW hi]at h1;rw[aq rfl];omega
  .rw[DC (fun z=>q z.symm)]at h1;rw[aj q];omega
 .simp only[ag]at hu;rcases hu with rfl|rfl|hu
  .exact hw.2.mono (bg fH)
  .exact hw.1.mono (bg fH)
  .exact H.bel u (ak _ hu)
theorem Hi.skip {cs:List Cell} {ho:List Nat} {rt:List Val} {v:Val} (h:Hi cs ho (v::rt)) (n:∀i,cnt i [v]=0):Hi cs ho rt:=
 ⟨h.len,fun i hi=>by have:=h.eq i hi;rw[cnt_cons,n i]at this;omega,fun u hu=>h.bel u (ak _ hu)⟩
theorem Hi.pos {cs:List Cell} {ho:List Nat} {rt:List Val} {i:Nat} (H:Hi cs ho (.cell i::rt)):∃h,ho[i]?=some (h+1):=by
 have hb:i<cs.length:=H.bel _ (aC ..);have h1:=H.eq i hb;rw[cnt_cons,ra]at h1;have hl:i<ho.length:=by rw[H.len];exact hb
 rw[ah,af hl]at h1;simp only[Option.getD_some]at h1;exact⟨ho[i]-1,by rw[af hl];congr 1;omega⟩
theorem Hi.less {cs:List Cell} {ho:List Nat} {rt:List Val} {i h:Nat} (H:Hi cs ho (.cell i::rt)) (hi:ho[i]?=some (h+1)) (hp:0<h):Hi cs (ho.set i h) rt:=by
 have hl:=(aa.mp hi).1;obtain⟨e,he⟩:∃e,cs[i]?=some e:=⟨_,af (by rw[<-H.len];exact hl)⟩
 refine⟨by rw[bF];exact H.len,fun j hj=>?_,fun u hu=>H.bel u (ak _ hu)⟩
 have h1:=H.eq j hj;have h2:=u5 h j he hi;rw[aq hp,aq (by omega)]at h2
 rw[cnt_cons]at h1;rw[u6 hl];by_cases q:j=i
 .subst q;rw[ra,zW hi]at h1;rw[aq rfl];omega
 .rw[DC (fun z=>q z.symm)]at h1;rw[aj q];omega
theorem Hi.gone {cs:List Cell} {ho:List Nat} {rt:List Val} {i:Nat} {e:Cell} (W:Cm.WF cs) (H:Hi cs ho (.cell i::rt)) (hi:ho[i]?=some 1) (he:cs[i]?=some e):Hi cs (ho.set i 0) (e.rest::e.first::rt):=by
 have hl:=(aa.mp hi).1;have hw:=W i e he;have fH:=(aa.mp he).1;refine⟨by rw[bF];exact H.len,fun j hj=>?_,fun u hu=>?_⟩
 .have h1:=H.eq j hj;have h2:=u5 0 j he hi;rw[aq (by omega),aj (by omega),Nl]at h2
  rw[cnt_cons]at h1;rw[u6 hl,cnt_cons j e.rest,cnt_cons j e.first];by_cases q:j=i
  .subst q;rw[ra,zW hi]at h1;rw[aq rfl];omega
  .rw[DC (fun z=>q z.symm)]at h1;rw[aj q];omega
 .simp only[ag]at hu;rcases hu with rfl|rfl|hu
  .exact hw.2.mono (bg fH)
  .exact hw.1.mono (bg fH)
  .exact H.bel u (ak _ hu)
theorem Hi.rch {cs:List Cell} {ho:List Nat} {rt:List Val} (H:Hi cs ho rt) (W:Cm.WF cs):∀(n i:Nat),cs.length-i<=n->i<cs.length->(0<ho.getD i 0↔Am.Rch cs.toArray rt i):=by
 have gd:∀{j:Nat} {e:Cell},cs[j]?=some e->cs.toArray.getD j noCell=e:=fun {j e} h=>by simp[aS,h]
 have back:∀i,Am.Rch cs.toArray rt i->0<ho.getD i 0:=by
  intro i h;have part:∀{j i:Nat},0<ho.getD j 0->i<cs.length->((cs.toArray.getD j noCell).first= .cell i\/(cs.toArray.getD j noCell).rest= .cell i)->0<ho.getD i 0:=by
   intro j i h1 h2 h3;have hj:j<ho.length:=by
    by_cases q:j<ho.length
    .exact q
    .rw[ah,bH (by omega)]at h1;simp at h1
   obtain⟨e,he⟩:∃e,cs[j]?=some e:=⟨_,af (by rw[<-H.len];exact hj)⟩
   rw[gd he]at h3;have:0<inn cs ho i:=zf.mpr ⟨j,e,ho.getD j 0,he,by rw[ah,af hj];rfl,h1,nU.mpr (by rcases h3 with z|z<;>rw[<-z]<;>simp)⟩
   rw[H.eq i h2];omega
  induction h with
  |root h1 h2=>have:=nU.mpr h1;rw[H.eq _ (by simpa using h2)];omega
  |first _ e l ih=>exact part ih (by simpa using l) (.inl e)
  |rest _ e l ih=>exact part ih (by simpa using l) (.inr e)
 intro n
 induction n with
 |zero=>intro i h1 h2;omega
 |succ n ih=>
  intro i h1 h2;refine⟨fun h=>?_,back i⟩
  rw[H.eq i h2]at h;by_cases q:0<cnt i rt
  .exact .root (nU.mp q) (by simpa using h2)
  .obtain⟨j,e,g,g1,g2,g3,g4⟩:=zf.mp (show 0<inn cs ho i by omega)
   have hj:=(aa.mp g1).1;have hw:=W j e g1;have hm:=nU.mp g4;simp only[ag,aJ,bw]at hm;have hij:i<j:=by
    rcases hm with z|z
    .rw[<-z]at hw;exact hw.1
    .rw[<-z]at hw;exact hw.2
   have hr:=(ih j (by omega) hj).mp (by rw[zW g2];exact g3)
   rcases hm with z|z
   .exact .first hr (by rw[gd g1];exact z.symm) (by simpa using h2)
   .exact .rest hr (by rw[gd g1];exact z.symm) (by simpa using h2)
theorem Nn (ho:List Nat):hd ho=((List.range ho.length).filter fun i=>decide (0<ho.getD i 0)).length:=by
 induction ho using Cm.uY with
 |h0=>rfl
 |h1 l a ih=>
  unfold hd at ih⊢;rw[Xo,ih,List.length_append,bP,Xe,List.filter_append,List.length_append];congr 1
  .congr 1;apply List.filter_congr;intro i hi;rw[WS]at hi;simp only[ah];rw[aT hi]
  .by_cases q:0<a
   .simp[q]
   .simp[q]
theorem Hi.reached {cs:List Cell} {ho:List Nat} {rt:List Val} (H:Hi cs ho rt) (W:Cm.WF cs):hd ho=reached cs.toArray rt:=by
 rw[Nn,H.len,Am.HV (by simpa using W) (fun i=>decide (0<ho.getD i 0))]
 .simp
 .intro i hi;rw[aY];exact H.rch W cs.length i (by omega) (by simpa using hi)
end Hm
namespace Fl
open PyFlat
inductive mf:Int->List Int->List (List Int)->List Int->Prop where
 |begin_ (row t:List Int):mf 0 ((row.length:Int)::(row++t)) [[0],row] t
 |one (p x:Int) (t:List Int):p=1\/p=2\/p=3\/p=4->mf p (x::t) [[p,x]] t
 |none_ (p:Int) (t:List Int):p=5\/p=7->mf p t [[p]] t
 |two (x y:Int) (t:List Int):mf 6 (x::y::t) [[6,x,y]] t
theorem FW {p:Int} {a b:Nat} (h:PyWrloan.shape p=some (a,b)):
  (p=0/\a=0/\b=1)\/((p=1\/p=2\/p=3\/p=4)/\a=1/\b=0)\/((p=5\/p=7)/\a=0/\b=0)\/(p=6/\a=2/\b=0):=by
 unfold PyWrloan.shape at h;split at h
 .cases h;exact .inl ⟨by assumption,rfl,rfl⟩
 split at h
 .cases h;exact .inr (.inl ⟨.inl (by assumption),rfl,rfl⟩)
 split at h
 .cases h;exact .inr (.inl ⟨.inr (.inl (by assumption)),rfl,rfl⟩)
 split at h
 .cases h;exact .inr (.inl ⟨.inr (.inr (.inl (by assumption))),rfl,rfl⟩)
 split at h
 .cases h;exact .inr (.inl ⟨.inr (.inr (.inr (by assumption))),rfl,rfl⟩)
 split at h
 .cases h;exact .inr (.inr (.inl ⟨.inl (by assumption),rfl,rfl⟩))
 split at h
 .cases h;exact .inr (.inr (.inr ⟨by assumption,rfl,rfl⟩))
 split at h
 .cases h;exact .inr (.inr (.inl ⟨.inr (by assumption),rfl,rfl⟩))
 .cases h
theorem PZ {p:Int} {r:List Int} {c:List (List Int)} {t:List Int} (h:call PyWrloan.shape (p::r)=some (c,t)):mf p r c t:=by
 unfold call at h;dsimp only at h;cases e:PyWrloan.shape p with
 |none=>rw[e]at h;cases h
 |some ab=>
  obtain⟨a,b⟩:=ab;rw[e]at h;dsimp only at h;rcases FW e with⟨rfl,rfl,rfl⟩|⟨hp,rfl,rfl⟩|⟨hp,rfl,rfl⟩|⟨rfl,rfl,rfl⟩
  .rw[aj (by omega)]at h
   cases r with
   |nil=>cases h
   |cons n r=>
    by_cases hn:0<=n/\n.toNat<=r.length
    .have hrow:row (n::r)=some (r.take n.toNat,r.drop n.toNat):=aq hn;have e1:rows 1 (List.drop 0 (n::r))=some ([r.take n.toNat],r.drop n.toNat):=by
      show (match row (n::r)with
       |none=>none
       |some (x,s)=>_)=_
      rw[hrow];rfl
     rw[e1]at h;cases h;have hl:(r.take n.toNat).length=n.toNat:=by rw[aV];omega
     have:=mf.begin_ (r.take n.toNat) (r.drop n.toNat)
     rw[hl,List.take_append_drop,bN hn.1]at this;exact this
    .have hrow:row (n::r)=none:=aj hn;have e1:rows 1 (List.drop 0 (n::r))=none:=by
      show (match row (n::r)with
       |none=>none
       |some (x,s)=>_)=_
      rw[hrow]
     rw[e1]at h;cases h
  .split at h
   .cases h
   .cases r with
    |nil=>rename_i hl;exact absurd (by simp) hl
    |cons x r=>cases h;exact .one p x r hp
  .rw[aj (by omega)]at h
   cases h;exact .none_ p r hp
  .split at h
   .cases h
   .cases r with
    |nil=>rename_i hl;exact absurd (by simp) hl
    |cons x r=>cases r with
     |nil=>rename_i hl;exact absurd (by simp) hl
     |cons y r=>cases h;exact .two x y r
theorem Np {p:Int} {r:List Int} {c:List (List Int)} {t:List Int} (h:mf p r c t):PyWrloan.whole c=c:=by
 cases h with
 |begin_=>rfl
 |one _ _ _ hp=>rcases hp with rfl|rfl|rfl|rfl<;>rfl
 |none_ _ _ hp=>rcases hp with rfl|rfl<;>rfl
 |two=>rfl
inductive sf:List Int->List (List (List Int))->Prop where
 |nil:sf [] []
 |cons {p:Int} {r:List Int} {c:List (List Int)} {t:List Int} {cs:List (List (List Int))}:mf p r c t->sf t cs->sf (p::r) (c::cs)
theorem FZ:∀{f:Nat} {l:List Int} {cs:List (List (List Int))},calls PyWrloan.shape f l=some cs->sf l cs/\cs.map PyWrloan.whole=cs
 |f,[],cs,h=>by
  have:cs= []:=by cases f<;>(injection h with h;exact h.symm)
  subst this;exact⟨.nil,rfl⟩
 |0,_::_,cs,h=>by cases h
 |f+1,p::r,cs,h=>by
  unfold calls at h;split at h
  .cases h
  .rename_i c t e
   split at h
   .cases h
   .rename_i cs' e'
    cases h;obtain⟨h1,h2⟩:=FZ e';have hc:=PZ e;exact⟨.cons hc h1,by rw[bh,Np hc,h2]⟩
theorem F6 {l:List Int} (h:PyWrloan.answers_asked l=true):∃cs,sf l cs/\cs.length<=400/\(∀c∈cs,WrloanNeutral.asked1 c=true)/\PyWrloan.answers l=told (played WrloanNeutral.step WrloanNeutral.start cs):=by
 unfold PyWrloan.answers_asked at h;unfold PyWrloan.answers;unfold PyWrloan.calls at h⊢;cases e:calls PyWrloan.shape l.length l with
 |none=>rw[e]at h;cases h
 |some cs=>
  obtain⟨h1,h2⟩:=FZ e;rw[e]at h;dsimp only at h⊢;rw[h2]at h⊢;unfold PyFlat.atMost WrloanNeutral.asked at h;simp only[aH,aY,bJ]at h;exact⟨cs,h1,h.1,h.2.1,rfl⟩
theorem Lv {S:Type} (step:S->List (List Int)->S×List Int) (s:S) (c:List (List Int)) (r:List (List (List Int))):
  told (played step s (c::r))=(((step s c).2.length:Nat):Int)::(step s c).2++told (played step (step s c).1 r):=rfl
end Fl
namespace L2
open PySem PySem.Spec PyProof.Rows
def Can (X:Cx) (f:Addr) (sp:Sp):Prop:=∃k fd ps,oC X.prog X.w X.K X.mg X.base CX0 k f fd ps sp/\iI k X.A/\Binds X.K fd ps []
def SY (X:Cx) (i:Nat) (t:TA):TE:=fun σ H Q=>∃f,σ[i]?=some (some (.ref f))/\PySem.W.keepIn X.K (.ref f)=true/\t σ H fun vs H1=>∃sp,Can X f sp/\sp vs H1 Q E0
section
variable {X:Cx} {x:Str} {p pos:Pos} {e:Expr} {es:List Expr} {t:TA}
theorem zX (i:Nat) (ha:PA X (e::es) t) (hN:X.N[i]?=some x:=by rfl) (hv:Vis X.env.scope x:=by first|exact Or.inl rfl|exact Or.inr (Or.inl rfl)|exact Or.inr (Or.inr rfl)) (hd:(x==("__debug__":Str))=false:=by decide)
  (hcd:(x==("__classdict__":Str))=false:=by decide) (he:starEach (e::es) X.env=(false,eval e X.env)::starEach es X.env:=by rfl) (hpl:(backTo pos (starEach es X.env)).any (·.1)=false:=by rfl):
  PE X (.Call (.Name x p) (e::es) [] pos) (SY X i t):=by
 intro pins s σ H Q I h;obtain⟨f,ef,hk,h⟩:=h;refine bR (thn (Hl (i:=i) hN hv hd hcd pins s σ H (fun v H'=>v= .ref f/\H'=H) I ⟨_,ef,rfl,rfl⟩) fun u s0 ⟨v,H0,I0,rv,ev,eH⟩=>?_)
 subst ev eH;obtain rfl:u=Value.ref f:=rv;refine PySem.W.callWith_K (h₀:=X.base) I0.ok.mod.kin hk (thn (ha pos pins s0 σ H0 _ I0 h) fun us s1 ⟨vs,H1,I1,r,sp,⟨k,fd,ps,F,hr,hb⟩,q⟩=>⟨I1.kIn,?_⟩) he hpl
 exact zC (dvs:=[]) (ds:=[]) F hr hb .nil zI I1 r (by rw[WC];exact q)
end
theorem Lw {X:Cx}:nN X (.type "range") (fun xs H Q=>∃i j,xs= [.int i,.int j]/\∀p,H p=none->Q (.ref p) (upd H p (.rng i j))):=by
 intro pins s σ H xs us Q I r h;obtain⟨i,j,rfl,q⟩:=h;obtain⟨u,v,rfl,⟨t,rfl⟩,⟨t',rfl⟩⟩:=vals2 r;refine call_range_2 ⟨.ref s.heap.objs.size,_,I.laid (t':=s.toks+1) (fun b u e=>aK _ e) (au _) ?_,rfl,q _ (I.hok.fresh (au _))⟩
 exact⟨_,_,_,a8 _ rfl⟩
theorem DD {acc:Array Value} {lo:Int} {n:Nat} (h:ItemsOf (fun i v=>∃t,v= .int (lo+i*1) t) acc n):Vals ((List.range n).map fun i=>V.int (lo+(i:Nat))) acc.toList:=by
 obtain⟨hz,hi⟩:=h;have:∀(m:Nat) (l:List Value) (k:Nat),l.length=m->(∀i,i<m->∃t,l[i]?=some (Value.int (lo+((k+i:Nat):Int)) t))->Vals ((List.range' k m).map fun i=>V.int (lo+(i:Nat))) l:=by
  intro m
  induction m with
  |zero=>intro l k hl _;rw[WG.mp hl];exact .nil
  |succ m ih=>
   intro l k hl hx;cases l with
   |nil=>simp at hl
   |cons a l=>
    obtain⟨t,ht⟩:=hx 0 (by omega)
    rw[List.range'_succ,bh];refine .cons ⟨t,by simpa using ht⟩ (ih l (k+1) (by simpa using hl) fun i hi'=>?_)
    obtain⟨t',ht'⟩:=hx (i+1) (by omega)
    refine⟨t',?_⟩;rw[List.getElem?_cons_succ]at ht';rw[ht'];congr 2;omega
 rw[W5];refine this n acc.toList 0 (by simpa using hz) fun i hi'=>?_
 have fH:i<acc.size:=by omega
 obtain⟨t,e⟩:=hi i acc[i] (b0 fH);refine⟨t,?_⟩;rw[cz,b0 fH,e];simp
theorem Br {X:Cx} (hcalm:X.calm=true):nN X (.type "list") (fun xs H Q=>∃p lo hi,xs= [.ref p]/\H p=some (.rng lo hi)/\(-(2^62)<=lo/\lo<2^62/\-(2^62)<=hi/\hi<2^62)/\(hi-lo).toNat<=2^20/\
  ∀l,H l=none->Q (.ref l) (upd H l (.lst ((List.range (hi-lo).toNat).map fun i=>V.int (lo+(i:Nat)))))):=by
 intro pins s σ H xs us Q I r h;obtain⟨p,lo,hi,rfl,hp,⟨h1,h2,h3,h4⟩,hn,q⟩:=h;obtain⟨u,rfl,rx⟩:=vals1 r;cases rx;obtain⟨t,u,v,e⟩:=(show h8 X.prog X.w H s.heap p (.rng lo hi)from I.hok p _ hp);have hs:Builtin.Range.rangeSize lo hi 1=((hi-lo).toNat:Nat):=by rw[rangeSize_one];split<;>omega
 refine call_list_range (I.ok.hd hcalm) (show IsRange s.heap p lo hi 1 t u v from e) (small_one h1 h2 h3 h4) hs (ai hn (by decide)) fun h' tk acc c kp hl hacc=>?_
 have hv:=DD hacc;refine⟨.ref s.heap.objs.size,_,I.laid (t':=tk) kp (au _) (show h8 X.prog X.w _ h' _ (.lst ((List.range (hi-lo).toNat).map fun i=>V.int (lo+(i:Nat))))from⟨?_,acc.toList,c,hv,by simpa using hl⟩),rfl,q _ (I.hok.fresh (au _))⟩
 rw[List.length_map,XC];exact ai hn (by decide)
section
variable {X:Cx} {pins:List (Addr×Obj)} {σ:St} {H:Hp} {s:Shared} {a:Addr} {dU:List (Key×V)} {k:Key} {d:V} {u r:Value} {A:Around} {E:Value->Shared->Prop}
theorem HX {vs:List (Key×Value)} (r':KV dU vs) (rd:RelV d r) (hn:fC dU k=none):KV (dU++ [(k,d)]) (stored vs k r):=by
 have h:=r'.put k rd;rw[Fq d hn]at h;exact h
theorem Nq {Q:Value->Shared->Prop} (I:Inv X pins σ H s) (e:H a=some (.dK dU)) (hl:dU.length<sizeLine) (ry:RelV (kV k) u) (rd:RelV d r)
  (h1:∀v w' s',fC dU k=some v->Inv X pins σ H s'->RelV v w'->Q w' s') (h2:∀s',fC dU k=none->Inv X pins σ (upd H a (.dK (dU++ [(k,d)]))) s'->Q r s'):
  wpAny (model X.prog X.w) A (call (.builtin "dict.setdefault") [.ref a,u,r]) Q E s:=by
 obtain⟨z,hd,vs,rel,dd⟩:=RE I.hok e;refine Xl PySem.F.slot_dict_setdefault dd.typeIs PySem.F.entry_dict_setdefault (PySem.F.args_dict_setdefault_3 _ _ _) (kt_meets_setdefault (fk X.prog X.w) a (sT ry) hd r)
  ⟨vs,dd,by rw[<-rel.length];exact z,fun v hv=>?_,fun hn h' dd' hs=>?_⟩
 .have q:=rel.val k;rw[hv]at q;cases ek:fC dU k with
  |none=>rw[ek]at q;exact q.elim
  |some y=>
   rw[ek]at q;exact h1 y v _ ek (I.tok _) q
 .have q:=rel.val k;rw[hn]at q;cases ek:fC dU k with
  |some y=>rw[ek]at q;exact q.elim
  |none=>
   refine h2 _ ek ?_;have he:∃q,h'.get? a=some q:=let ⟨q,_,_,hq,_⟩:=dd';⟨q,hq⟩
   refine y6 I (by rw[e];exact True.intro) hs he (MU ?_ hd (HX rel rd ek) dd')
   rw[List.length_append];exact hl
end
def S0 (td ty tx:TE):TE:=fun σ H Q=>td σ H fun x H1=>∃a,x= .ref a/\IsD H1 a/\ty σ H1 fun y H2=>tx σ H2 fun z H3=>∃dU k,H3 a=some (.dK dU)/\dU.length<sizeLine/\y=kV k/\
 (∀v,fC dU k=some v->Q v H3)/\(fC dU k=none->Q z (upd H3 a (.dK (dU++ [(k,z)]))))
theorem HY {X:Cx} {o e f:Expr} {apos mO:Pos} {td ty tx:TE} (ho:PE X o td) (he:PE X e ty) (hf:PE X f tx) (m:M2 X o "setdefault" apos e f mO):PE X (.Call (.Attribute o "setdefault" apos) [e,f] [] mO) (S0 td ty tx):=by
 intro pins s σ H Q I h;refine XB m.base m.few m.line PySem.F.plainAttrs_dict PySem.F.slot_dict_setdefault PySem.F.type_dict_setdefault (thn (ho pins s σ H _ I h) fun u s1 ⟨x,H1,I1,rx,a,ex,d,q1⟩=>?_)
 subst ex;obtain rfl:u=Value.ref a:=rx;obtain⟨t1,t2,_⟩:=MW I1 d;refine⟨t1,t2,?_⟩;rw[m.trees];refine bD rfl (b9 (bI (thn (he pins s1 σ H1 _ I1 q1) fun iv s2 ⟨y,H2,I2,ry,q2⟩=>
  bI (thn (hf pins s2 σ H2 _ I2 q2) fun fv s3 ⟨z,H3,I3,rz,dU,k,ea,el,ey,q3,q4⟩=>cB ?_))))
 subst ey;exact Nq I3 ea el ry rz (fun v w' s4 l I4 rw'=>⟨v,H3,I4,rw',q3 v l⟩) (fun s4 l I4=>⟨z,_,I4,rz,q4 l⟩)
def Nr (x:Str):It:=
 ⟨fun i _=>i<x.cps.size,fun i H v H'=>∃T c,v= .ref T/\H T=none/\H'=upd H T (.tup [.int (i:Nat),.str ⟨#[c]⟩])/\x.cps[i]?=some c,fun i _=>x.cps.size<=i⟩
theorem HZ {P:Program} {w:World} {K:PySem.W.Frag} {elts:List Expr} {kk:Nat} {uG:Pos} (x:Str) (t:Tok) (e it:Addr) (nM:e≠it):
  Turn P w K (.Tuple elts kk uG) (Nr x) [e,it] e (fun i h=>(∃old,IsEnum h e it ((i:Nat):Int) old)/\h.IsStrIter it (strIterType x) x t i/\i<=x.cps.size) where
 mem:=by simp
 obj:=fun i h st b hb=>by
  obtain⟨⟨old,he⟩,⟨o,ho,hc,hd⟩,_⟩:=st;have e':b=e\/b=it:=by simpa using hb
  rcases e' with z|z
  .rw[z];exact⟨_,he,fun v q=>nomatch q⟩
  .rw[z];exact⟨o,ho,fun v q=>by rw[hd]at q;cases q⟩
 keep:=fun i h h' st k=>let ⟨⟨old,he⟩,⟨o,ho,r⟩,hz⟩:=st;⟨⟨old,k e (by simp) _ he⟩,⟨o,k it (by simp) o ho,r⟩,hz⟩
 item:=by
  intro X hP hw hK hc i pins s σ H E I hf st hg;subst hP hw hK;obtain⟨⟨old,he⟩,hit,hz⟩:=st;have hel:e<s.heap.objs.size:=aM he;have hil:it<s.heap.objs.size:=by obtain⟨_,q,_⟩:=hit;exact aM q
  have D:Draws X.prog X.w X.A.in1 it [it] x.cps.size (SignAt x) (fun i h=>h.IsStrIter it (strIterType x) x t i):=by
   have hh:X.A.in1.handled=none:=I.ok.hd hc;unfold strIterType;split
   .exact Draws.strAscii hh it x t
   .exact Draws.strWide hh it x t
  refine wpAny_pyNext_enum_itemD D he hit hg nM (by simpa using nM) fun u h' tk hP ho hit' hT hsz hk=>?_
  obtain⟨c,tc,hcx,rfl⟩:=hP;refine⟨_,rfl,wpAny_letOwnedTupleGo_enum (s:={s with heap:=h',toks:=tk+1}) ho fun h'' he' sb=>?_⟩
  have hT2:h''.get? s.heap.objs.size=some {cls:=.type "tuple",data:=.seq #[.int i tk,.str ⟨#[c]⟩ tc]}:=(sb.2 _ (XS hel)).trans hT;have new:h8 X.prog X.w (upd H s.heap.objs.size (.tup [.int (i:Nat),.str ⟨#[c]⟩])) h'' s.heap.objs.size (.tup [.int (i:Nat),.str ⟨#[c]⟩]):=
   ⟨by show 2<=sizeLine;decide,[.int i tk,.str ⟨#[c]⟩ tc],.cons ⟨_,rfl⟩ (.cons ⟨_,rfl⟩ .nil),⟨_,hT2,rfl,_,rfl⟩⟩
  have I1:Inv X pins σ (upd H s.heap.objs.size (.tup [.int (i:Nat),.str ⟨#[c]⟩])) {s with heap:=h'',toks:=tk+1}:=
   I.wy (ch:=[e,it]) (fun b ob hb q=>(sb.2 b (fun z=>hb (by simp[z]))).trans (hk b ob (fun z=>hb (by simp[z])) (fun z=>hb (by simp[z])) q)) hf (au _) new
  refine⟨.ref s.heap.objs.size,_,I1,rfl,⟨_,c,rfl,I.hok.fresh (au _),rfl,hcx⟩,⟨⟨.str ⟨#[c]⟩ tc,?_⟩,?_,hg⟩,fun b hb=>?_⟩
  .have e1:((i+1:Nat):Int)=(i:Int)+1:=by omega
   rw[e1];exact he'
  .obtain⟨o,ho',r'⟩:=hit';exact⟨o,(sb.2 it (cw nM)).trans ho',r'⟩
  .have hb':b<s.heap.objs.size:=by
    have e':b=e\/b=it:=by simpa using hb
    rcases e' with z|z
    .rw[z];exact hel
    .rw[z];exact hil
   rw[cR (bq hb')];exact(hf b hb).1
 done:=by
  intro X hP hw hK hc i pins s σ H E I hf st hg;subst hP hw hK;obtain⟨⟨old,he⟩,hit,hz⟩:=st;have ei:i=x.cps.size:=Nat.le_antisymm hz hg;obtain⟨f0,f1,f2,f3,f4,f5⟩:=hf it (by simp)
  have D:Draws X.prog X.w X.A.in1 it [it] x.cps.size (SignAt x) (fun i h=>h.IsStrIter it (strIterType x) x t i):=by
   have hh:X.A.in1.handled=none:=I.ok.hd hc;unfold strIterType;split
   .exact Draws.strAscii hh it x t
   .exact Draws.strWide hh it x t
  exact wpAny_pyNext_enum_endD D he (by rw[<-ei];exact hit) fun h' eb=>⟨rfl,I.turned (t':=s.toks) (fun b o hb q=>eb b o hb q) f0 f1 f3 f4 f5⟩
 self:=fun A i s Q E st h=>let ⟨⟨_,he⟩,_⟩:=st;WQ he h
def S6 (ta:TA):TI:=fun σ H R=>ta σ H fun vs H1=>∃x,vs= [.str x]/\R (Nr x) H1
theorem Nt {X:Cx} {e:Expr} {ta:TA} {p pos uG:Pos} {elts:List Expr} {kk:Nat} (hg:Gl X "enumerate") (hm:X.mg "enumerate"=none) (ha:PA X [e] ta) (hs:starEach [e] X.env= [(false,eval e X.env)]:=by rfl):
  PI X (.Tuple elts kk uG) (.Call (.Name "enumerate" p) [e] [] pos) (S6 ta):=by
 intro pins s σ H R I h;refine Call_ (sZ I hg hm boot_enumerate (bA (thn (ha pos pins s σ H _ I h) fun us s1 ⟨vs,H1,I1,r1,q1⟩=>?_) hs rfl))
 obtain⟨x,ex,q⟩:=q1;subst ex;obtain⟨u,rfl,t,rfl⟩:=vals1 r1;refine call_enumerate_str fun h' he hit hsz hk=>WQ he ?_
 have I2:Inv X pins σ H1 {s1 with heap:=h'}:=I1.kept (t':=s1.toks) hk
 refine⟨s1.heap.objs.size+1,[s1.heap.objs.size+1,s1.heap.objs.size],_,_,H1,rfl,I2,HZ x t (s1.heap.objs.size+1) s1.heap.objs.size (Nat.succ_ne_self _),⟨⟨.none,he⟩,hit,aO _⟩,fun b hb=>?_,q⟩
 have e':b=s1.heap.objs.size+1\/b=s1.heap.objs.size:=by simpa using hb
 have hle:s1.heap.objs.size<=b:=by
  rcases e' with z|z
  .rw[z];exact bX _ _
  .rw[z];exact au _
 exact I1.Fc hle (I1.hok.fresh hle)
def pd (w:World):List DictEntry->List (Key×V)->Prop
 | [],[]=>True
 |e::es,kv::dU=>xR kv.1 e.key=true/\e.hash=RW w kv.1/\RelV kv.2 e.val/\pd w es dU
 |_,_=>False
def qm (w:World) (K:PySem.W.Frag) (a:Addr) (dU:List (Key×V)):Prop:=
 ∃(o:Obj) (es:Array DictEntry) (ep:Nat),K.lookup a=some o/\o.ExactDict/\o.data= .dict es ep/\pd w es.toList dU/\(dU.map (·.1)).Nodup/\(a==sysModules)=false
theorem pd.pairs {P:Program} {w:World}:∀{es:List DictEntry} {dU:List (Key×V)},pd w es dU->∃vs:List (Key×Value),KV dU vs/\Pairs (fk P w) es vs/\vs.map (·.1)=dU.map (·.1)/\∀e∈es,∃k,(fk P w).is k e.key=true/\e.hash=(fk P w).hash k
 | [],[],_=>⟨[],.nil,.nil,rfl,fun e he=>by simp at he⟩
 |e::es,kv::dU,⟨h1,h2,h3,h4⟩=>by
  obtain⟨vs,a,b,c,d⟩:=pd.pairs (P:=P) h4;refine⟨(kv.1,e.val)::vs,.cons ⟨rfl,h3⟩ a,.cons h1 rfl b,by simp[c],fun e' he'=>?_⟩
  rcases ag.mp he' with rfl|he'
  .exact⟨kv.1,h1,h2⟩
  .exact d e' he'
theorem qm.of {P:Program} {w:World} {K:PySem.W.Frag} {a:Addr} {dU:List (Key×V)} (h:qm w K a dU) {hp:Heap} (KX:K.In hp):∃vs,KV dU vs/\hp.DictOf (fk P w) a vs/\(a==sysModules)=false:=by
 obtain⟨o,es,ep,lk,ex,hd,ents,nd,ns⟩:=h;obtain⟨vs,a1,a2,a3,a4⟩:=pd.pairs (P:=P) ents;refine⟨vs,a1,⟨o,es,ep,KX a o lk,ex,hd,fun e he=>a4 e (by simpa using he),a2,by rw[a3];exact nd⟩,ns⟩
def KGet (X:Cx) (a:Addr) (y:V) (r:Option V):Prop:=∃dU k,qm X.w X.K a dU/\y=kV k/\r=fC dU k
section
variable {X:Cx} {o i:Expr} {pos:Pos} {td ty:TE}
inductive RK (X:Cx) (x y:V) (H2:Hp) (Q:VK):Prop
 |mk:∀a v,x= .ref a->KGet X a y (some v)->Q v H2->RK X x y H2 Q
def U7 (X:Cx) (td ty:TE):TE:=fun σ H Q=>td σ H fun x H1=>ty σ H1 fun y H2=>RK X x y H2 Q
def Wr (X:Cx) (ty td:TE):TE:=fun σ H Q=>ty σ H fun y H1=>td σ H1 fun x H2=>∃a o,x= .ref a/\KGet X a y o/\Q (.bl o.isSome) H2
def P0 (X:Cx) (ty td:TE):TE:=fun σ H Q=>ty σ H fun y H1=>td σ H1 fun x H2=>∃a o,x= .ref a/\KGet X a y o/\Q (.bl (!o.isSome)) H2
theorem zg (ho:PE X o td) (hi:PE X i ty) (hs:SF i):PE X (.Subscript o i pos) (U7 X td ty):=by
 intro pins s σ H Q I h;refine Kk PySem.F.slot_dict_getitem.lookup hs (thn (ho pins s σ H _ I h) fun u s1 ⟨x,H1,I1,rx,q1⟩=>thn (hi pins s1 σ H1 _ I1 q1) fun iv s2 ⟨y,H2,I2,ry,a,v,ex,⟨dU,k,g,ey,l⟩,q2⟩=>?_)
 subst ex ey;obtain rfl:u=Value.ref a:=rx;obtain⟨vs,rel,dd,hd⟩:=qm.of (P:=X.prog) g I2.kIn;obtain⟨w',hw,rw'⟩:=oT.some_of (v:=v) (o:=valueAt vs k) (by rw[l];exact rel.val k)
 exact⟨dd.typeIs,wpAny_getItem_of (sT ry) dd.mapOf hw ⟨v,H2,I2.tok _,rw',q2⟩⟩
theorem Nu (hi:PE X i ty) (ho:PE X o td):PC X .In i o (Wr X ty td):=by
 intro pins s σ H Q I h;refine thn (hi pins s σ H _ I h) fun iv s1 ⟨y,H1,I1,ry,q1⟩=>thn (ho pins s1 σ H1 _ I1 q1) fun u s2 ⟨x,H2,I2,rx,a,ov,ex,⟨dU,k,g,ey,l⟩,q2⟩=>?_
 subst ex ey;obtain rfl:u=Value.ref a:=rx;obtain⟨vs,rel,dd,hd⟩:=qm.of (P:=X.prog) g I2.kIn;refine wpAny_in_of (sT ry) hd dd.mapOf ?_;rw[<-(rel.val k).lu,<-l];exact⟨.bl ov.isSome,H2,I2.tok _,rfl,q2⟩
theorem Lx (hi:PE X i ty) (ho:PE X o td):PC X .NotIn i o (P0 X ty td):=by
 intro pins s σ H Q I h;refine thn (hi pins s σ H _ I h) fun iv s1 ⟨y,H1,I1,ry,q1⟩=>thn (ho pins s1 σ H1 _ I1 q1) fun u s2 ⟨x,H2,I2,rx,a,ov,ex,⟨dU,k,g,ey,l⟩,q2⟩=>?_
 subst ex ey;obtain rfl:u=Value.ref a:=rx;obtain⟨vs,rel,dd,hd⟩:=qm.of (P:=X.prog) g I2.kIn;refine wpAny_notIn_of (sT ry) hd dd.mapOf ?_;rw[<-(rel.val k).lu,<-l];exact⟨.bl (!ov.isSome),H2,I2.tok _,rfl,q2⟩
end
structure Ct where
 P:Program
 w:World
 K:PySem.W.Frag
 mg:Str->Option Value
 base:Heap
theorem neo {H:Hp} {a b:Addr} {o u:HO} (h:H a=some o) (h':H b=some u) (d:o≠u:=by intro z;cases z):a≠b:=sS h h' d
theorem sz {n:Nat} (h:Nat.ble n 100=true:=by rfl):n<=sizeLine:=ai (Nat.le_of_ble_eq_true h) (by decide)
def Good (c:Ct) (k:Nat) (x:Str) (f:Addr) (sp:Sp):Prop:=∃fd ps,oC c.P c.w c.K c.mg c.base CX0 k f fd ps sp/\Binds c.K fd ps []/\PySem.W.keepIn c.K (.ref f)=true/\c.mg x=some (.ref f)
def dA (c:Ct) (k:Nat) (C:Addr) (m:Str) (sp:Sp):Prop:=∃f fd ps,oC c.P c.w c.K c.mg c.base CX0 k f fd ps sp/\Binds c.K fd ps []/\Meth c.K C m f
def GoodC (c:Ct) (k:Nat) (x:Str) (C:Addr) (sp:Sp):Prop:=∃f fd ps,oC c.P c.w c.K c.mg c.base CX0 k f fd ps sp/\Binds c.K fd ps []/\Mk c.K C f/\c.mg x=some (.ref C)
def IsC (c:Ct) (x:Str) (v:V):Prop:=∃u,c.mg x=some u/\RelV v u
def ct (X:Cx):Ct:=⟨X.prog,X.w,X.K,X.mg,X.base⟩
structure At (X:Cx):Prop where
 calm:X.calm=true
 fn:∀x,X.fn x=true
 xe:X.xe=fun _ _=>False
theorem At.never {X:Cx} (a:At X):PassesOwn (model X.prog X.w) X.A X.env X.xe:=by rw[a.xe];exact PassesOwn.never
section
variable {X:Cx} {k:Nat} {x m:Str} {f C:Addr} {sp:Sp} {p pos apos:Pos} {e o:Expr} {es:List Expr} {t:TA} {ta:TE} {v:V} {id T:String} {r:List V->Hp->VK->Prop}
theorem pc_ (h:IsC (ct X) x v) (hg:Gl X x) (hd:(x==("__debug__":Str))=false:=by decide):PE X (.Name x pos) (tC v):=by
 obtain⟨u,h1,h2⟩:=h;exact Pe hg h1 h2 hd
theorem pf_ (F:Good (ct X) k x f sp) (hr:iI k X.A) (hg:Gl X x) (ha:PA X (e::es) t) (hdb:(x==("__debug__":Str))=false:=by decide) (he:starEach (e::es) X.env=(false,eval e X.env)::starEach es X.env:=by rfl)
  (hpl:(backTo pos (starEach es X.env)).any (·.1)=false:=by rfl):PE X (.Call (.Name x p) (e::es) [] pos) (Kd sp [] E0 t):=by
 obtain⟨fd,ps,h1,h2,h3,h4⟩:=F;exact Pn (f:=f) (fd:=fd) (ps:=ps) h1 hr hg h4 h3 h2 .nil zI ha hdb he hpl
theorem Ws (F:Good (ct X) k x f sp) (hr:iI k X.A) (hg:Gl X x) (hdb:(x==("__debug__":Str))=false:=by decide):PE X (.Call (.Name x p) [] [] pos) (Kd sp [] E0 Hy):=by
 obtain⟨fd,ps,h1,h2,h3,h4⟩:=F;exact ME (f:=f) (fd:=fd) (ps:=ps) h1 hr hg h4 h3 h2 .nil zI hdb
theorem pm_ {pl:Sem Bool} (cl:Cls X.K C) (F:dA (ct X) k C m sp) (hr:iI k X.A) (he:PE X o ta) (ha:PA X (e::es) t)
  (mB:starEach (e::es) X.env=(false,eval e X.env)::starEach es X.env:=by rfl) (hpl:(backTo pos (starEach es X.env)).any (·.1)=false:=by rfl)
  (ht:eval (.Call (.Attribute o m apos) (e::es) [] pos) X.env=(do
   let ov<-eval o X.env
   standAt apos.atName
   let (f,first)<-holding [ov] (getMethod ov m pl)
   callWith pos f first (backTo pos (starEach (e::es) X.env)) (backToKw pos (keywordEach [] X.env))):=by rfl):
  PE X (.Call (.Attribute o m apos) (e::es) [] pos) (Ke C m sp [] E0 ta t):=by
 obtain⟨f,fd,ps,h1,h2,h3⟩:=F;exact Po (f:=f) (fd:=fd) (ps:=ps) (pl:=pl) he cl h3 h1 hr h2 .nil zI ha mB hpl ht
theorem F7 {pl:Sem Bool} (cl:Cls X.K C) (F:dA (ct X) k C m sp) (hr:iI k X.A) (he:PE X o ta)
  (ht:eval (.Call (.Attribute o m apos) [] [] pos) X.env=(do
   let ov<-eval o X.env
   standAt apos.atName
   let (f,first)<-holding [ov] (getMethod ov m pl)
   callWith pos f first (backTo pos (starEach [] X.env)) (backToKw pos (keywordEach [] X.env))):=by rfl):
  PE X (.Call (.Attribute o m apos) [] [] pos) (Ke C m sp [] E0 ta Hy):=by
 obtain⟨f,fd,ps,h1,h2,h3⟩:=F;exact MF (f:=f) (fd:=fd) (ps:=ps) (pl:=pl) he cl h3 h1 hr h2 .nil zI ht
theorem pk_ (F:GoodC (ct X) k x C sp) (hr:iI (k+1) X.A) (hg:Gl X x) (ha:PA X (e::es) t) (hdb:(x==("__debug__":Str))=false:=by decide) (he:starEach (e::es) X.env=(false,eval e X.env)::starEach es X.env:=by rfl)
  (hpl:(backTo pos (starEach es X.env)).any (·.1)=false:=by rfl):PE X (.Call (.Name x p) (e::es) [] pos) (Kf C sp [] E0 t):=by
 obtain⟨f,fd,ps,h1,h2,h3,h4⟩:=F;exact Pp (f:=f) (fd:=fd) (ps:=ps) h3 h1 hr hg h4 h2 .nil zI ha hdb he hpl
theorem U8 (F:GoodC (ct X) k x C sp) (hr:iI (k+1) X.A) (hg:Gl X x) (hdb:(x==("__debug__":Str))=false:=by decide):PE X (.Call (.Name x p) [] [] pos) (Kf C sp [] E0 Hy):=by
 obtain⟨f,fd,ps,h1,h2,h3,h4⟩:=F;exact MG (f:=f) (fd:=fd) (ps:=ps) h3 h1 hr hg h4 h2 .nil zI hdb
end
structure Sc (X:Cx) (N:List Str) (sc:Scope):Prop where
 n:X.N=N
 s:X.env.scope=sc
 nd:X.N.Nodup
 a:At X
abbrev Bod (c:Ct) (N ps:List Str) (st:Stmt) (k:Nat) (sp:Sp):Prop:=∀(X:Cx) (H:Hp) (vs:List V) (Q:VK) (E:XK),ct X=c->At X->Sc X N (cS st)->iI k X.A->sp vs H Q E->∃t,PSs X (jT st) t/\t {nx:=fun _ H'=>Q .non H',rt:=Q} (start N vs) H
structure Df (c:Ct) (x:Str) (st:Stmt) (ps:List Str) (f:Addr):Prop where
 ex:∃fd,Fun c.K x x st f fd
 mg:c.mg x=some (.ref f)
 bi:∀(kV doc pm:Value) (an:Option Addr) (qI ct:Value) (us:List Value),us.length=ps.length->bindArgs (PySem.W.fnOf x x (lR st) (jT st) (cS st) .none kV doc pm an qI ct) ⟨us,[]⟩=pure (ps.zip us)
theorem Df.good {c:Ct} {x:Str} {st:Stmt} {N ps:List Str} {f:Addr} {k:Nat} {sp:Sp} (D:Df c x st ps f) (S:cW N ps (cS st)) (rT:Bod c N ps st k sp) (len:∀vs H Q E,sp vs H Q E->vs.length=ps.length:=by intro _ _ _ _ h;cases h;subst_vars;rfl):Good c (k+1) x f sp:=by
 obtain⟨fd,F⟩:=D.ex;refine⟨fd,ps,F.ok S len fun qI A outer s H vs Q E hr hsp=>?_,F.binds D.bi,F.kp,D.mg⟩
 exact rT _ H vs Q E rfl ⟨rfl,fun _=>rfl,rfl⟩ ⟨rfl,rfl,S.nd,⟨rfl,fun _=>rfl,rfl⟩⟩ hr hsp
structure Dm (c:Ct) (C:Addr) (m qual:Str) (st:Stmt) (ps:List Str):Prop where
 ex:∃f fd,Fun c.K m qual st f fd/\Meth c.K C m f
 bi:∀(kV doc pm:Value) (an:Option Addr) (qI ct:Value) (us:List Value),us.length=ps.length->bindArgs (PySem.W.fnOf m qual (lR st) (jT st) (cS st) .none kV doc pm an qI ct) ⟨us,[]⟩=pure (ps.zip us)
theorem Dm.good {c:Ct} {C:Addr} {m qual:Str} {st:Stmt} {N ps:List Str} {k:Nat} {sp:Sp} (D:Dm c C m qual st ps) (S:cW N ps (cS st)) (rT:Bod c N ps st k sp) (len:∀vs H Q E,sp vs H Q E->vs.length=ps.length:=by intro _ _ _ _ h;cases h;subst_vars;rfl):dA c (k+1) C m sp:=by
 obtain⟨f,fd,F,M⟩:=D.ex;refine⟨f,fd,ps,F.ok S len fun qI A outer s H vs Q E hr hsp=>?_,F.binds D.bi,M⟩
 exact rT _ H vs Q E rfl ⟨rfl,fun _=>rfl,rfl⟩ ⟨rfl,rfl,S.nd,⟨rfl,fun _=>rfl,rfl⟩⟩ hr hsp
structure Nm (X:Cx) (i:Nat) (x:Str):Prop where
 n:X.N[i]?=some x
 v:Vis X.env.scope x
 l:Loc X.env.scope x
theorem Nm.of {X:Cx} {N:List Str} {sc:Scope} {i:Nat} {x:Str} (hN:X.N=N) (hS:X.env.scope=sc) (h1:N[i]?=some x) (h2:sc.names.lookup x=some .local\/sc.names.lookup x=some .cell):Nm X i x:=by
 refine⟨by rw[hN];exact h1,?_,?_⟩
 .unfold Vis;rw[hS];rcases h2 with h|h
  .exact .inl h
  .exact .inr (.inl h)
 .unfold Loc;rw[hS];exact h2
theorem U9 {X:Cx} {sc:Scope} {x:Str} (hS:X.env.scope=sc) (h:sc.names.lookup x=some .globalImplicit):Gl X x:=by
 unfold Gl Env.kindOf;rw[hS];exact h
theorem nv {X:Cx} {i:Nat} {x:Str} {pos:Pos} (h:Nm X i x) (hd:(x==("__debug__":Str))=false:=by decide) (hcd:(x==("__classdict__":Str))=false:=by decide):PE X (.Name x pos) (Ms i):=Hl h.n h.v hd hcd
theorem zY {env:Env}:∀{names:List (Str×NameKind)} {x:Str},names.lookup x=some .free->
  (names.map fun (n,k)=>if (k==NameKind.free&&env.scope.kind== .function&&env.kindOf n==some .cell)then (n,NameKind.cell)else (n,k)).lookup x=some .free\/
  (names.map fun (n,k)=>if (k==NameKind.free&&env.scope.kind== .function&&env.kindOf n==some .cell)then (n,NameKind.cell)else (n,k)).lookup x=some .cell
 | [],_,h=>by simp at h
 |(n,k)::r,x,h=>by
  have ih:=@zY env r x;rw[bh];cases hx:x==n with
  |true=>
   simp only[List.lookup_cons,hx]at h;cases h;dsimp only;split
   .right;simp only[List.lookup_cons,hx]
   .left;simp only[List.lookup_cons,hx]
  |false=>
   simp only[List.lookup_cons,hx]at h;have:=ih h;dsimp only;split<;>(simp only[List.lookup_cons,hx];exact this)
section
variable {X:Cx} {s:Shared} {H:Hp} {scope:Scope} {C:Addr} {cl:List (Str×Addr)} {fp:List Addr} {i:Nat} {x:Str} {pos:Pos}
theorem P6 (h:scope.names.lookup x=some .local\/scope.names.lookup x=some .free):Vis (compEnvC scope cl C X.env).scope x:=by
 rcases h with h|h
 .exact .inl (W6 h)
 .rcases zY (env:=X.env) h with h|h
  .exact .inr (.inr h)
  .exact .inr (.inl h)
theorem lS (hN:X.N[i]?=some x) (h:scope.names.lookup x=some .local\/scope.names.lookup x=some .free) (hd:(x==("__debug__":Str))=false:=by decide) (hcd:(x==("__classdict__":Str))=false:=by decide):
  PE (X.blk s H scope (compEnvC scope cl C X.env) fp) (.Name x pos) (Ms i):=Hl (X:=X.blk s H scope (compEnvC scope cl C X.env) fp) hN (P6 h) hd hcd
theorem tH (h:scope.names.lookup x=some .globalImplicit):Gl (X.blk s H scope (compEnvC scope cl C X.env) fp) x:=oG (sc:=X.env.scope) (by decide) h
theorem rb (hnd:X.N.Nodup) (hN:X.N[i]?=some x) (h:scope.names.lookup x=some .local):PG (X.blk s H scope (compEnvC scope cl C X.env) fp) (.Name x pos) (Fb i):=
 J8 (X:=X.blk s H scope (compEnvC scope cl C X.env) fp) hnd hN (.inl (W6 h)) (.inr (W6 h))
theorem P7 (n:Nat) {es:List Expr} {k:Nat} {t:TGs} (a:At X) (h:PGs (X.blk s H scope (compEnvC scope cl C X.env) fp) es t) (hn:(assignEach es (compEnvC scope cl C X.env)).length=n:=by rfl)
  (mB:(assignEach es (compEnvC scope cl C X.env)).findIdx? (·.1)=none:=by rfl):PG (X.blk s H scope (compEnvC scope cl C X.env) fp) (.Tuple es k pos) (Se X.K n t):=Hq (X:=X.blk s H scope (compEnvC scope cl C X.env) fp) a.calm h hn mB
end
theorem P8 {x:Str} {g:TG} {tb:TS} {D:Ends} {σ:St} {H:Hp} (Pv:Nat->St->Hp->Prop) (h0:Pv 0 σ H)
  (hs:∀i c σ H,x.cps[i]?=some c->Pv i σ H->g (.str ⟨#[c]⟩) σ H fun σ2 H2=>tb {D with nx:=Pv (i+1),ct:=Pv (i+1),bk:=D.nx} σ2 H2) (hd:∀σ H,Pv x.cps.size σ H->D.nx σ H):
  ∃W:Nat->Nat->St->Hp->Prop,(∃m,W 0 m σ H)/\∀i m σ H,W i m σ H->
   ((Its x).stop i H/\D.nx σ H)\/((Its x).go i H/\∃N:St->Hp->Prop,(∀σ' H',N σ' H'->∃m',m'<m/\W (i+1) m' σ' H')/\∀v H',(Its x).yld i H v H'->g v σ H' fun σ2 H2=>tb {D with nx:=N,ct:=N,bk:=D.nx} σ2 H2):=by
 refine⟨fun i m σ H=>m=x.cps.size-i/\i<=x.cps.size/\Pv i σ H,⟨x.cps.size,by simp,aO _,h0⟩,?_⟩
 rintro i m σ H ⟨rfl,hi,p⟩;by_cases fH:i<x.cps.size
 .refine .inr ⟨fH,Pv (i+1),fun σ' H' p'=>⟨x.cps.size-(i+1),by omega,rfl,fH,p'⟩,fun v H' y=>?_⟩
  obtain⟨e,c,hc,ev⟩:=y;subst e ev;exact hs i c σ _ hc p
 .have e:i=x.cps.size:=by omega
  subst e;exact .inl ⟨au _,hd σ H p⟩
theorem Ly {x:Str} {g:TG} {tb:TS} {D:Ends} {σ:St} {H:Hp} (Pv:Nat->St->Hp->Prop) (h0:Pv 0 σ H)
  (hs:∀i c σ H t,x.cps[i]?=some c->Pv i σ H->H t=none->g (.ref t) σ (upd H t (.tup [.int (i:Nat),.str ⟨#[c]⟩])) fun σ2 H2=>tb {D with nx:=Pv (i+1),ct:=Pv (i+1),bk:=D.nx} σ2 H2) (hd:∀σ H,Pv x.cps.size σ H->D.nx σ H):
  ∃W:Nat->Nat->St->Hp->Prop,(∃m,W 0 m σ H)/\∀i m σ H,W i m σ H->
   ((Nr x).stop i H/\D.nx σ H)\/((Nr x).go i H/\∃N:St->Hp->Prop,(∀σ' H',N σ' H'->∃m',m'<m/\W (i+1) m' σ' H')/\∀v H',(Nr x).yld i H v H'->g v σ H' fun σ2 H2=>tb {D with nx:=N,ct:=N,bk:=D.nx} σ2 H2):=by
 refine⟨fun i m σ H=>m=x.cps.size-i/\i<=x.cps.size/\Pv i σ H,⟨x.cps.size,by simp,aO _,h0⟩,?_⟩
 rintro i m σ H ⟨rfl,hi,p⟩;by_cases fH:i<x.cps.size
 .refine .inr ⟨fH,Pv (i+1),fun σ' H' p'=>⟨x.cps.size-(i+1),by omega,rfl,fH,p'⟩,fun v H' y=>?_⟩
  obtain⟨t,c,ev,ht,e,hc⟩:=y;subst e ev;exact hs i c σ _ t hc p ht
 .have e:i=x.cps.size:=by omega
  subst e;exact .inl ⟨au _,hd σ H p⟩
theorem Nv {K:PySem.W.Frag} {a:Addr} {xs:List V} {g:TG} {tb:TS} {D:Ends} {σ:St} {H:Hp} (Pv:Nat->St->Hp->Prop) (h0:Pv 0 σ H) (hl:∀i σ H,i<=xs.length->Pv i σ H->SqL K H a xs)
  (hs:∀i x σ H t,xs[i]?=some x->Pv i σ H->H t=none->g (.ref t) σ (upd H t (.tup [.int (i:Nat),x])) fun σ2 H2=>tb {D with nx:=Pv (i+1),ct:=Pv (i+1),bk:=D.nx} σ2 H2) (hd:∀σ H,Pv xs.length σ H->D.nx σ H):
  ∃W:Nat->Nat->St->Hp->Prop,(∃m,W 0 m σ H)/\∀i m σ H,W i m σ H->
   ((Ite K a).stop i H/\D.nx σ H)\/((Ite K a).go i H/\∃N:St->Hp->Prop,(∀σ' H',N σ' H'->∃m',m'<m/\W (i+1) m' σ' H')/\∀v H',(Ite K a).yld i H v H'->g v σ H' fun σ2 H2=>tb {D with nx:=N,ct:=N,bk:=D.nx} σ2 H2):=by
 refine⟨fun i m σ H=>m=xs.length-i/\i<=xs.length/\Pv i σ H,⟨xs.length,by simp,aO _,h0⟩,?_⟩
 rintro i m σ H ⟨rfl,hi,p⟩;have q:=hl i σ H hi p;by_cases fH:i<xs.length
 .refine .inr ⟨⟨xs,xs[i],q,by simp[fH]⟩,Pv (i+1),fun σ' H' p'=>⟨xs.length-(i+1),by omega,rfl,fH,p'⟩,fun v H' y=>?_⟩
  obtain⟨t,x,ev,ht,e,hx⟩:=y;subst e ev;exact hs i x σ _ t (hx xs q) p ht
 .have e:i=xs.length:=by omega
  subst e;exact .inl ⟨⟨xs,q,au _⟩,hd σ H p⟩
theorem S7 {x:Str} {g:TG} {tt:TT} {te:TE} {vs:List Nat} {σ:St} {H1:Hp} {D:Addr} {Qd:Hp->Prop} (Pv:Nat->Hp->Prop) (h0:Pv 0 (upd H1 D (.lst [])))
  (hs:∀i c H,x.cps[i]?=some c->Pv i H->g (.str ⟨#[c]⟩) (wipe σ vs) H fun σ2 H2=>wipe σ2 vs=wipe σ vs/\tt σ2 H2 fun b H3=>
   if b=true then te σ2 H3 fun y H4=>∃acc,H4 D=some (.lst acc)/\acc.length<sizeLine/\Pv (i+1) (upd H4 D (.lst (acc++ [y])))else Pv (i+1) H3) (hd:∀H,Pv x.cps.size H->Qd H):
  ∃W:Nat->Nat->Hp->Prop,(∃m,W 0 m (upd H1 D (.lst [])))/\∀i m H,W i m H->
   ((Its x).stop i H/\Qd H)\/((Its x).go i H/\∃Nx:Hp->Prop,(∀H',Nx H'->∃m',m'<m/\W (i+1) m' H')/\∀v H',(Its x).yld i H v H'->g v (wipe σ vs) H' fun σ2 H2=>wipe σ2 vs=wipe σ vs/\tt σ2 H2 fun b H3=>
    if b=true then te σ2 H3 fun y H4=>∃acc,H4 D=some (.lst acc)/\acc.length<sizeLine/\Nx (upd H4 D (.lst (acc++ [y])))else Nx H3):=by
 refine⟨fun i m H=>m=x.cps.size-i/\i<=x.cps.size/\Pv i H,⟨x.cps.size,by simp,aO _,h0⟩,?_⟩
 rintro i m H ⟨rfl,hi,p⟩;by_cases fH:i<x.cps.size
 .refine .inr ⟨fH,Pv (i+1),fun H' p'=>⟨x.cps.size-(i+1),by omega,rfl,fH,p'⟩,fun v H' y=>?_⟩
  obtain⟨e,c,hc,ev⟩:=y;subst e ev;exact hs i c _ hc p
 .have e:i=x.cps.size:=by omega
  subst e;exact .inl ⟨au _,hd H p⟩
end L2
namespace Sl
open PySem PySem.Spec PyProof.Rows L2
def top (i:Nat):Stmt:=PySem.Challenge.pw_sharedlists_s01_answers.main.body.getD i (.Pass ⟨0,0,0,0⟩)
end Sl
namespace L2
open PySem PySem.Spec PyProof.Rows
section
variable {X:Cx} {N:List Str} {sc:Scope} {x:Str} {pos pos':Pos} {e o:Expr} {te to:TE}
theorem nx (s:Sc X N sc) (i:Nat) (h1:N[i]?=some x:=by rfl):X.N[i]?=some x:=by rw[s.n];exact h1
theorem nq (s:Sc X N sc) (i:Nat) (h1:N[i]?=some x:=by rfl) (h2:sc.names.lookup x=some .local\/sc.names.lookup x=some .cell:=by first|exact .inl rfl|exact .inr rfl):Nm X i x:=.of s.n s.s h1 h2
theorem vr (s:Sc X N sc) (i:Nat) (h1:N[i]?=some x:=by rfl) (h2:sc.names.lookup x=some .local\/sc.names.lookup x=some .cell:=by first|exact .inl rfl|exact .inr rfl) (hd:(x==("__debug__":Str))=false:=by decide) (hcd:(x==("__classdict__":Str))=false:=by decide):
  PE X (.Name x pos) (Ms i):=nv (nq s i h1 h2) hd hcd
theorem gl (s:Sc X N sc) (h:sc.names.lookup x=some .globalImplicit:=by rfl):Gl X x:=U9 s.s h
theorem pSt (s:Sc X N sc) (i:Nat) (he:PE X e te) (h1:N[i]?=some x:=by rfl) (h2:sc.names.lookup x=some .local\/sc.names.lookup x=some .cell:=by first|exact .inl rfl|exact .inr rfl) (hs:swapsWith e (some (.Name x pos')) pos.line X.env=pure false:=by rfl):
  PS X (.Assign [.Name x pos'] e pos) (Sf te (Fb i)):=Sg s.nd (nx s i h1) (nq s i h1 h2).l he hs (.inl (s.a.fn _))
theorem gNm (s:Sc X N sc) (i:Nat) (h1:N[i]?=some x:=by rfl) (h2:sc.names.lookup x=some .local\/sc.names.lookup x=some .cell:=by first|exact .inl rfl|exact .inr rfl):PG X (.Name x pos) (Fb i):=J8 s.nd (nx s i h1) (nq s i h1 h2).l (.inl (s.a.fn _))
theorem pLc {elt tg iter:Expr} {scope:Scope} {wi:TI} {g:TG} (s:Sc X N sc) (own:List (Str×Nat)) (hi:PI X tg iter wi) (hg:∀(s:Shared) (H:Hp) (C:Addr) (cl:List (Str×Addr)) (fp:List Addr),PG (X.blk s H scope (compEnvC scope cl C X.env) fp) tg g)
  (he:∀(s:Shared) (H:Hp) (C:Addr) (cl:List (Str×Addr)) (fp:List Addr),PE (X.blk s H scope (compEnvC scope cl C X.env) fp) elt te) (h:SD N sc scope own=true:=by decide+kernel) (hs:∀x,foldedSetIterable iter X.env x=pure x:=by intro _;rfl):
  PE X (.ListComp elt [⟨tg,iter,[],0⟩] scope pos) (tLc wi g Pu te (own.map (·.2))):=U1 s.a.calm s.nd hi (by rw[s.n,s.s];exact MS h) hg (fun _ _ _ _ _=>Pw) he hs
theorem hmo {k k':Nat} {A:Around} (hr:iI k A) (h:k'<=k:=by decide):iI k' A:=hr.mono h
theorem iK {op:CmpOp} {r:R2} {a b:Expr} {ta tb:TE} (ho:OpR X (compareOp op) r) (ha:PE X a ta) (hb:PE X b tb) (h:op≠ .In:=by decide) (h2:op≠ .NotIn:=by decide):PT X (.Compare a [op] [b] pos) (Ry (tOp r ta tb)):=rW ho ha hb (qP _ h h2)
theorem yn {op:CmpOp} {r:R2} {a b:Expr} {ta tb:TE} (ho:OpR X (compareOp op) r) (ha:PE X a ta) (hb:PE X b tb) (h:op≠ .In:=by decide) (h2:op≠ .NotIn:=by decide):PE X (.Compare a [op] [b] pos) (tOp r ta tb):=yZ ho ha hb (qP _ h h2)
theorem ixL {a b:Expr} {ta tb:TE} (ha:PE X a ta) (hb:PE X b tb) (hs:Di b:=by exact fun _ _=>rfl):PE X (.Subscript a b pos) (tOp (Su X.K) ta tb):=xU Pr ha hb hs
theorem ixT {a b:Expr} {ta tb:TE} (ha:PE X a ta) (hb:PE X b tb) (hs:Di b:=by exact fun _ _=>rfl):PE X (.Subscript a b pos) (tOp (MJ X.K) ta tb):=xU HA ha hb hs
end
theorem fsc {N P:List Str} {sc:Scope} (h1:sc.kind= .function:=by rfl) (h2:sc.isCoroutine=false:=by rfl) (h3:sc.isGenerator=false:=by rfl) (h4:N.Nodup:=by decide+kernel) (h5:N.take P.length=P:=by rfl) (h6:∀x∈P,sc.names.lookup x=some .local\/sc.names.lookup x=some .cell:=by decide+kernel) (h7:∀y∈sc.names,y.2≠ .free:=by decide+kernel):cW N P sc:=⟨h1,h2,h3,h4,h5,h6,h7⟩
end L2
namespace Sl
open PySem PySem.Spec PyProof.Rows L2 TL
def okc (x:Str):Prop:=∀c∈tl x,c∈63::Km.SG
theorem Lz:∀c∈63::Km.SG,Unicode.isDigit c=Km.isD c:=by decide+kernel
theorem LA:∀c∈63::Km.SG,Unicode.isAlpha c=Km.isL c:=by decide+kernel
theorem Va (c:Nat):Km.sg c∈63::Km.SG:=by
 unfold Km.sg;split
 .exact ak _ (by assumption)
 .exact aC
theorem Nw {x:Str} {b:Lo.Bytes} (h:tl x=Km.dQ b):okc x:=by
 intro c hc;rw[h]at hc;obtain⟨d,_,rfl⟩:=bx.mp hc;exact Va _
theorem all_congr {α:Type} {p q:α->Bool}:∀{l:List α},(∀c∈l,p c=q c)->l.all p=l.all q
 | [],_=>rfl
 |a::l,h=>by rw[cC,cC,h a aC,all_congr fun c hc=>h c (ak _ hc)]
theorem Ia {x:Str} (h:okc x):Txt.isdigit x=(decide (1<=(tl x).length)&&(tl x).all Km.isD):=by
 unfold Txt.isdigit;rw[j8,<-Array.all_toList];congr 1;exact all_congr fun c hc=>Lz c (h c hc)
theorem zZ {x:Str} (h:okc x):Txt.isalpha x=(decide (1<=(tl x).length)&&(tl x).all Km.isL):=by
 unfold Txt.isalpha;rw[j8,<-Array.all_toList];congr 1;exact all_congr fun c hc=>LA c (h c hc)
theorem Kz (x:Str):tl (M5 x (some 1) none)=(tl x).drop 1:=by
 show ((x.cps.toList.drop (HT.sIx x.length 0 (some ((1:Nat):Int)))).take (x.length-HT.sIx x.length 0 (some ((1:Nat):Int)))).toArray.toList=_;rw[HT.rX];have e:x.length=x.cps.toList.length:=by simp[Str.length]
 rw[e];cases h:x.cps.toList with
 |nil=>simp[tl,h]
 |cons a r=>
  have:min 1 (a::r).length=1:=by simp
  rw[this];simp[tl,h]
theorem Ny {x y:Str} {n:Nat} (h:okc x) (e:tl y=(tl x).drop n):okc y:=by
 intro c hc;rw[e]at hc;exact h c (bo hc)
theorem DE (x:Str):Txt.startswith x (Str.ofString "-")=decide ((tl x).head?=some 45):=by
 unfold Txt.startswith Builtin.Str.subAt;have e:x.length=(tl x).length:=j8 x;have e1:(Str.ofString "-").length=1:=by decide
 have e2:(Str.ofString "-").cps=#[45]:=by decide
 have e3:x.cps=(tl x).toArray:=rfl;rw[e1,e2,e3,e];cases h:tl x with
 |nil=>simp
 |cons a r=>
  simp only[List.head?_cons];have:((a::r).toArray.extract 0 (0+1))=#[a]:=by simp
  rw[this];by_cases q:a=45
  .subst q;simp
  .simp[q]
end Sl
namespace L2
open PySem PySem.Spec PyProof.Rows
inductive RM (K:PySem.W.Frag) (x:V) (y:V) (H:Hp) (Q:VK):Prop
 |mk:∀p xs,∀(i:Nat) (v:V),x= .ref p->y= .int (i:Int)->SqL K H p xs->xs[i]?=some v->xs.length<=100000->Q v H->RM K x y H Q
theorem CO {X:Cx}:UG X (RM X.K):=by
 intro pins s σ H x y v u Q I rx ry h;obtain⟨p,xs,i,z,rfl,rfl,hq,he,hb,q⟩:=h;cases rx;obtain⟨t,rfl⟩:=ry;obtain⟨eE,r,pl,hz⟩:=I.list hq;obtain⟨w,ew,rw'⟩:=r.get he;have hl:=r.length;have hi:=(aa.mp he).1;exact wpAny_getItem_list pl.isList (by omega) (by omega) (by simpa using ew) ⟨z,H,I,rw',q⟩
structure Da (c:Ct) (y x:Str) (st:Stmt) (ps:List Str) (f:Addr):Prop where
 ex:∃fd,Fun c.K x x st f fd
 mg:c.mg y=some (.ref f)
 bi:∀(kV doc pm:Value) (an:Option Addr) (qI ct:Value) (us:List Value),us.length=ps.length->bindArgs (PySem.W.fnOf x x (lR st) (jT st) (cS st) .none kV doc pm an qI ct) ⟨us,[]⟩=pure (ps.zip us)
theorem Da.good {c:Ct} {y x:Str} {st:Stmt} {N ps:List Str} {f:Addr} {k:Nat} {sp:Sp} (D:Da c y x st ps f) (S:cW N ps (cS st)) (rT:Bod c N ps st k sp) (len:∀vs H Q E,sp vs H Q E->vs.length=ps.length:=by intro _ _ _ _ h;cases h;subst_vars;rfl):Good c (k+1) y f sp:=by
 obtain⟨fd,F⟩:=D.ex;refine⟨fd,ps,F.ok S len fun qI A outer s H vs Q E hr hsp=>?_,F.binds D.bi,F.kp,D.mg⟩
 exact rT _ H vs Q E rfl ⟨rfl,fun _=>rfl,rfl⟩ ⟨rfl,rfl,S.nd,⟨rfl,fun _=>rfl,rfl⟩⟩ hr hsp
theorem boot_all:bootBuiltins "all"=some (.builtin "all"):=by decide+kernel
end L2
namespace Sl
open PySem PySem.Spec PyProof.Rows L2 TL
set_option genInjectivity false in
structure Ad where
 lA:Addr
 gm:Addr
 jo:Addr
 ip:Addr
 iq:Addr
 ir:Addr
 iu:Addr
 iw:Addr
 iy:Addr
 iz:Addr
 iA:Addr
 iB:Addr
 iC:Addr
 gn:Addr
 gp:Addr
 gq:Addr
 gu:Addr
 gv:Addr
 gw:Addr
 gy:Addr
 gz:Addr
 gA:Addr
 gB:Addr
 gC:Addr
 gD:Addr
 gE:Addr
 gF:Addr
 gG:Addr
 gH:Addr
 gI:Addr
 gJ:Addr
 gK:Addr
 gL:Addr
 gM:Addr
 gN:Addr
 gO:Addr
 gP:Addr
 kH:Addr
 fq:Addr
 mF:Addr
 iS:Addr
 iT:Addr
 iU:Addr
 iV:Addr
 iW:Addr
 iX:Addr
 iY:Addr
 dh:Addr
 da:Addr
 cZ:Addr
 dY:Addr
 dF:Addr
 iL:Addr
 mZ:Addr
 mQ:Addr
 sj:Addr
 eM:Addr
 gQ:Addr
 fc:Addr
 u7:Addr
 pj:Addr
 pk:Addr
 pq:Addr
 u9:Addr
 mG:Addr
 fi:Addr
 vc:Addr
 je:Addr
 jf:Addr
 kI:Addr
 kJ:Addr
 gS:Addr
 px:Addr
 fX:Addr
 pz:Addr
 pA:Addr
 mH:Addr
 pB:Addr
 pC:Addr
 ft:Addr
 fL:Addr
 nV:Addr
 vd:Addr
 vf:Addr
 jg:Addr
 hZ:Addr
 eF:Addr
 eZ:Addr
 eG:Addr
 jM:Addr
 gi:Addr
 pD:Addr
 sk:Addr
 kq:Addr
 lB:Addr
 gY:Addr
 kr:Addr
 CP:Addr
 gZ:Addr
 mR:Addr
 ja:Addr
 iM:Addr
 jV:Addr
 mS:Addr
 mT:Addr
 g0:Addr
 fY:Addr
 eT:Addr
 eA:Addr
 gT:Addr
 jq:Addr
 iN:Addr
 fZ:Addr
 jW:Addr
 ku:Addr
 ky:Addr
 lC:Addr
 sq:Addr
 DF:Addr
 pF:Addr
 vg:Addr
 vh:Addr
 mI:Addr
 gR:Addr
 mJ:Addr
 iO:Addr
 jh:Addr
 hJ:Addr
 g8:Addr
 oM:Addr
 oN:Addr
def m3 (A:Ad):List (Key×V):=[(.inr "a number",.ref A.ip),(.inr "()",.ref A.iq),(.inr "dup",.ref A.ir),(.inr "drop",.ref A.iu),(.inr "swap",.ref A.iw),(.inr "over",.ref A.iy),(.inr "rot",.ref A.iz),(.inr "depth",.ref A.iA),(.inr "+",.ref A.iB),(.inr "-",.ref A.iC),(.inr "*",.ref A.gn),(.inr "/",.ref A.gp),(.inr "mod",.ref A.gq),(.inr "<",.ref A.gu),(.inr "=",.ref A.gv),(.inr "same",.ref A.gw),(.inr "pair",.ref A.gy),(.inr "first",.ref A.gz),(.inr "rest",.ref A.gA),(.inr "kind",.ref A.gB),(.inr "@ variable",.ref A.gC),(.inr "! variable",.ref A.gD),(.inr "say",.ref A.gE),(.inr "put",.ref A.gF),(.inr "cr",.ref A.gG),(.inr "if",.ref A.gH),(.inr "else",.ref A.gI),(.inr "end",.ref A.gJ),(.inr "while",.ref A.gK),(.inr "do",.ref A.gL),(.inr ":",.ref A.gM),(.inr "a name",.ref A.gN),(.inr ";",.ref A.gO),(.inr "leave",.ref A.gP)]
def pG:List Str:=[Str.ofString "a number",Str.ofString "()",Str.ofString "dup",Str.ofString "drop",Str.ofString "swap",Str.ofString "over",Str.ofString "rot",Str.ofString "depth",Str.ofString "+",Str.ofString "-",Str.ofString "*",Str.ofString "/",Str.ofString "mod",Str.ofString "<",Str.ofString "=",Str.ofString "same",Str.ofString "pair",Str.ofString "first",Str.ofString "rest",Str.ofString "kind",Str.ofString "@ variable",Str.ofString "! variable",Str.ofString "say",Str.ofString "put",Str.ofString "cr",Str.ofString "if",Str.ofString "else",Str.ofString "end",Str.ofString "while",Str.ofString "do",Str.ofString ":",Str.ofString "a name",Str.ofString ";",Str.ofString "leave"]
theorem Bs (A:Ad):(m3 A).map (·.1)=pG.map Sum.inr:=rfl
def dS (A:Ad):List (Key×V):=[(.inr ":",.ref A.fY),(.inr ";",.ref A.eT),(.inr "if",.ref A.eA),(.inr "else",.ref A.gT),(.inr "while",.ref A.eA),(.inr "do",.ref A.jq),(.inr "end",.ref A.iN),(.inr "leave",.ref A.fZ)]
def oO:List Str:=[Str.ofString ":",Str.ofString ";",Str.ofString "if",Str.ofString "else",Str.ofString "while",Str.ofString "do",Str.ofString "end",Str.ofString "leave"]
theorem sG (A:Ad):(dS A).map (·.1)=oO.map Sum.inr:=rfl
def F8 (A:Ad):List (Key×V):=[(.inl 1,.ref A.iS),(.inl 2,.ref A.iT),(.inl 3,.ref A.iU),(.inl 4,.ref A.iV),(.inl 5,.ref A.iW),(.inl 6,.ref A.iX),(.inl 7,.ref A.iY)]
structure Tx (c:Ct) (A:Ad):Prop where
 Vb:c.mg "all"=none
 Vc:c.mg "any"=none
 ya:c.mg "enumerate"=none
 RN:c.mg "int"=none
 fE:c.mg "len"=none
 S8:c.mg "list"=none
 Vd:c.mg "max"=none
 KA:c.mg "ord"=none
 vj:c.mg "range"=none
 RO:c.mg "str"=none
 Ve:c.mg "zip"=none
 dB:IsC c "NO_FAULT" (.int (0))
 LB:IsC c "NO_WORD" (.int (1))
 gU:IsC c "WRONG_SHAPE" (.int (2))
 z0:IsC c "UNKNOWN_NAME" (.int (3))
 DG:IsC c "NAME_TAKEN" (.int (4))
 yo:IsC c "NUMBER_BEYOND" (.int (5))
 wD:IsC c "TOO_FEW_VALUES" (.int (6))
 DH:IsC c "WRONG_KIND" (.int (7))
 z4:IsC c "NO_VALUE" (.int (8))
 nX:IsC c "DIVIDED_BY_ZERO" (.int (9))
 rf:IsC c "TOO_MANY_UNDER_WAY" (.int (10))
 wF:IsC c "TOO_MANY_WORDS" (.int (11))
 yp:IsC c "TOO_MUCH_SAID" (.int (12))
 z5:IsC c "NUMBER" (.int (0))
 P9:IsC c "EMPTY" (.int (1))
 rg:IsC c "CELL" (.int (2))
 lA:IsC c "ZERO" (.ref A.lA)
 z6:∀H,SqT c.K H A.lA [.int (0),.int (0)]
 gm:IsC c "EMPTY_LIST" (.ref A.gm)
 DI:∀H,SqT c.K H A.gm [.int (1),.int (0)]
 Nz:IsC c "LOWEST" (.int (-9223372036854775808))
 LC:IsC c "HIGHEST" (.int (9223372036854775807))
 nY:IsC c "MOST_SAID" (.int (4096))
 wG:IsC c "MOST_UNDER_WAY" (.int (100))
 rh:IsC c "HIGHEST_BYTE_words" (.int (255))
 Ib:IsC c "LINE_END" (.int (10))
 jo:IsC c "ACTIONS" (.ref A.jo)
 ip:∀H,SqT c.K H A.ip [.str "",.ref A.eM]
 iq:∀H,SqT c.K H A.iq [.str "",.ref A.gQ]
 ir:∀H,SqT c.K H A.ir [.str "v",.ref A.u7]
 iu:∀H,SqT c.K H A.iu [.str "v",.ref A.pj]
 iw:∀H,SqT c.K H A.iw [.str "vv",.ref A.pk]
 iy:∀H,SqT c.K H A.iy [.str "vv",.ref A.pq]
 iz:∀H,SqT c.K H A.iz [.str "vvv",.ref A.u9]
 iA:∀H,SqT c.K H A.iA [.str "",.ref A.mG]
 iB:∀H,SqT c.K H A.iB [.str "nn",.ref A.vc]
 iC:∀H,SqT c.K H A.iC [.str "nn",.ref A.je]
 gn:∀H,SqT c.K H A.gn [.str "nn",.ref A.jf]
 gp:∀H,SqT c.K H A.gp [.str "nn",.ref A.kI]
 gq:∀H,SqT c.K H A.gq [.str "nn",.ref A.kJ]
 gu:∀H,SqT c.K H A.gu [.str "nn",.ref A.px]
 gv:∀H,SqT c.K H A.gv [.str "vv",.ref A.fX]
 gw:∀H,SqT c.K H A.gw [.str "vv",.ref A.pz]
 gy:∀H,SqT c.K H A.gy [.str "vv",.ref A.pA]
 gz:∀H,SqT c.K H A.gz [.str "c",.ref A.mH]
 gA:∀H,SqT c.K H A.gA [.str "c",.ref A.pB]
 gB:∀H,SqT c.K H A.gB [.str "v",.ref A.pC]
 gC:∀H,SqT c.K H A.gC [.str "",.ref A.ft]
 gD:∀H,SqT c.K H A.gD [.str "v",.ref A.fL]
 gE:∀H,SqT c.K H A.gE [.str "v",.ref A.vd]
 gF:∀H,SqT c.K H A.gF [.str "n",.ref A.vf]
 gG:∀H,SqT c.K H A.gG [.str "",.ref A.jg]
 gH:∀H,SqT c.K H A.gH [.str "n",.ref A.eF]
 gI:∀H,SqT c.K H A.gI [.str "",.ref A.hZ]
 gJ:∀H,SqT c.K H A.gJ [.str "",.ref A.hZ]
 gK:∀H,SqT c.K H A.gK [.str "",.ref A.hZ]
 gL:∀H,SqT c.K H A.gL [.str "n",.ref A.eF]
 gM:∀H,SqT c.K H A.gM [.str "",.ref A.hZ]
 gN:∀H,SqT c.K H A.gN [.str "",.ref A.eZ]
 gO:∀H,SqT c.K H A.gO [.str "",.ref A.eG]
 gP:∀H,SqT c.K H A.gP [.str "",.ref A.eG]
 wH:qm c.w c.K A.jo (m3 A)
 tI:IsC c "MOST_CARRIED_OUT" (.int (3000))
 yb:IsC c "VARIABLES" (.int (26))
 yc:IsC c "CAN_GO_ON" (.int (0))
 F9:IsC c "AT_END" (.int (1))
 z7:IsC c "AT_FAULT" (.int (2))
 kH:IsC c "BLANKS" (.ref A.kH)
 Ga:∀H,SqT c.K H A.kH [.int (32),.int (10)]
 Qa:IsC c "SIGNS" (.str "!()*+-/0123456789:;<=@abcdefghijklmnopqrstuvwxyz")
 LD:IsC c "NO_SIGN" (.str "?")
 Bt:IsC c "MOST_DIGITS" (.int (20))
 z8:IsC c "MOST_LETTERS" (.int (16))
 fq:IsC c "SHAPING_WORDS" (.ref A.fq)
 qo:qm c.w c.K A.fq (dS A)
 tJ:IsC c "DONE" (.int (0))
 jr:IsC c "NOT_AS_TOLD" (.int (-1))
 DJ:IsC c "NO_PROGRAM" (.int (-2))
 Gb:IsC c "NOT_RIGHT" (.int (-3))
 vm:IsC c "TOO_LONG_TO_SAY" (.int (-6))
 KD:IsC c "BEGIN" (.int (0))
 z9:IsC c "LONGEST_TEXT" (.int (4096))
 sI:IsC c "HIGHEST_BYTE_runs" (.int (255))
 DK:IsC c "MOST_TO_GO" (.int (3000))
 mF:IsC c "CALLS" (.ref A.mF)
 iS:∀H,SqT c.K H A.iS [.int (1),.ref A.DF]
 iT:∀H,SqT c.K H A.iT [.int (1),.ref A.pF]
 iU:∀H,SqT c.K H A.iU [.int (1),.ref A.vg]
 iV:∀H,SqT c.K H A.iV [.int (1),.ref A.vh]
 iW:∀H,SqT c.K H A.iW [.int (0),.ref A.mI]
 iX:∀H,SqT c.K H A.iX [.int (2),.ref A.gR]
 iY:∀H,SqT c.K H A.iY [.int (0),.ref A.mJ]
 nZ:qm c.w c.K A.mF (F8 A)
 dw:Cls c.K A.dh
 fu:e8 c.K A.dh "firsts"
 iZ:e8 c.K A.dh "rests"
 jm:e8 c.K A.dh "shapes"
 fM:e8 c.K A.dh "shape_numbers"
 fN:e8 c.K A.dh "holds"
 js:e8 c.K A.dh "held"
 cY:Cls c.K A.da
 hR:e8 c.K A.da "program"
 eQ:e8 c.K A.da "cells"
 ff:e8 c.K A.da "stack"
 fU:e8 c.K A.da "variables"
 d8:e8 c.K A.da "variables_not_zero"
 ji:e8 c.K A.da "taken"
 fF:e8 c.K A.da "under_way"
 gW:e8 c.K A.da "output"
 fz:e8 c.K A.da "carried_out"
 fQ:e8 c.K A.da "position"
 eU:e8 c.K A.da "following"
 jX:e8 c.K A.da "fault"
 i3:e8 c.K A.da "fullest"
 de:Cls c.K A.cZ
 jE:e8 c.K A.cZ "length"
 eJ:e8 c.K A.cZ "words"
 iD:e8 c.K A.cZ "bodies"
 fS:e8 c.K A.cZ "names_read"
 dM:e8 c.K A.cZ "waiting"
 dW:e8 c.K A.cZ "targets"
 m4:Cls c.K A.dY
 i4:e8 c.K A.dY "steps"
 jF:e8 c.K A.dY "places"
 hU:Cls c.K A.dF
 eK:e8 c.K A.dF "run"
section
variable {c:Ct} {A:Ad}
abbrev oj:Stmt:=top 22
theorem Aa:cW ["number"] ["number"] (cS oj):=fsc
inductive kK (vs:List V) (H:Hp) (Q:VK) (E:XK):Prop
 |mk:∀z,vs= [.int z]->Q (.bl (Lo.isValue z)) H->kK vs H Q E
theorem Ab (T:Tx c A) (D:Df c "is_in_range" oj ["number"] A.iL):Good c 1 "is_in_range" A.iL kK:=by
 refine D.good Aa ?_;rintro X H _ Q E rfl a sn hr ⟨z,rfl,k⟩;refine⟨_,(cQ (cV (Ff zx zx (pc_ T.Nz (gl sn)) (vr sn 0) (pc_ T.LC (gl sn))))),?_⟩;refine⟨_,rfl,_,_,rfl,rfl,_,rfl,?_⟩;unfold Lo.isValue Lo.WIDEST at k;by_cases h0:(-9223372036854775808:Int)<=z
 .rw[aI h0];refine fm ⟨_,_,rfl,rfl,?_⟩;rw[aI (show (-9223372036854775807-1:Int)<=z from h0),cF]at k;exact k
 .rw[ao h0];refine eY ?_;rw[ao (show¬(-9223372036854775807-1:Int)<=z from h0),X0]at k;exact k
abbrev rj:Stmt:=top 90
theorem DL:cW ["word","digits"] ["word"] (cS rj):=fsc
inductive kL (vs:List V) (H:Hp) (Q:VK) (E:XK):Prop
 |mk:∀x:Str,vs= [.str x]->okc x->x.length<=10000->Q (.bl (Km.isNum (tl x))) H->kL vs H Q E
theorem vp {n:Nat} (h:n<=10000):n<=sizeLine:=ai h (by decide)
theorem DM (T:Tx c A) (D:Df c "is_number" rj ["word"] A.ja):Good c 1 "is_number" A.ja kL:=by
 refine D.good DL ?_;rintro X H _ Q E rfl a sn hr ⟨x,rfl,ok,hl,k⟩;refine⟨_,(cN (pSt sn 1 (lW (fJ (RG PySem.F.slot_str_startswith PySem.F.type_str_startswith Bn (vr sn 0) gk)) (qQ SO (vr sn 0) (oU cT) Dg) (vr sn 0))) (cQ (cV (tj (M4 PySem.F.slot_str_isdigit PySem.F.type_str_isdigit HH (vr sn 1)) (tf (yn zx (dv mC (gl sn) T.fE PySem.boot_len (cK (vr sn 1) cO)) (pc_ T.Bt (gl sn)))))))),?_⟩;refine⟨_,rfl,⟨_,rfl⟩,_,_,rfl,rfl,_,rfl,?_⟩;have fin:∀d:Str,tl d=Km.fK (tl x)->okc d->d.length<=10000->(if Txt.isdigit d=true then Q (.bl (decide ((d.length:Int)<=20))) H else Q (.bl false) H):=by
  intro d e okd hd;rw[Ia okd,e];have hz:d.length=(Km.fK (tl x)).length:=by rw[j8,e]
  unfold Km.isNum Km.mE at k;rw[hz];by_cases h1:(decide (1<=(Km.fK (tl x)).length)&&(Km.fK (tl x)).all Km.isD)=true
  .rw[aq h1];rw[aH]at h1;rw[h1.1,h1.2,cF,cv]at k;have:decide (((Km.fK (tl x)).length:Int)<=20)=decide ((Km.fK (tl x)).length<=20):=by
    by_cases q:(Km.fK (tl x)).length<=20
    .rw[aI q,aI (by omega)]
    .rw[ao q,ao (by omega)]
   rw[this];exact k
  .rw[aj h1];have:(decide (1<=(Km.fK (tl x)).length)&&(decide ((Km.fK (tl x)).length<=20)&&(Km.fK (tl x)).all Km.isD))=false:=by
    rw[bK]at h1;cases p:decide (1<=(Km.fK (tl x)).length)with
    |false=>rfl
    |true=>rw[p,cF]at h1;rw[h1];simp
   rw[this]at k;exact k
 rw[DE];refine uS (fun h=>?_) (fun h=>?_)
 .have h:=aQ h;refine⟨_,rfl,_,rfl,_,rfl,vp hl,_,rfl,⟨_,rfl⟩,_,rfl,rfl,trivial,_,rfl,?_⟩;have e:tl (M5 x (some 1) none)=Km.fK (tl x):=by
   rw[Kz];cases q:tl x with
   |nil=>rw[q]at h;cases h
   |cons y r=>rw[q]at h;injection h with h;subst h;rfl
  have f:=fin _ e (Ny ok (Kz x)) (ai (qW _ _ _) hl);refine uS (fun h1=>?_) (fun h1=>?_)
  .rw[aq h1]at f;exact⟨_,rfl,_,rfl,vp (ai (qW _ _ _) hl),_,_,rfl,rfl,f⟩
  .rw[aj h1]at f;exact f
 .have h:¬(tl x).head?=some 45:=fun q=>h (aI q)
  refine⟨_,rfl,_,rfl,⟨_,rfl⟩,_,rfl,rfl,trivial,_,rfl,?_⟩;have e:tl x=Km.fK (tl x):=by
   cases q:tl x with
   |nil=>rfl
   |cons y r=>
    unfold Km.fK;split
    .rename_i r' e;injection e with e _;rw[q]at h;exact absurd (by rw[e];rfl) h
    .rfl
  have f:=fin _ e ok hl;refine uS (fun h1=>?_) (fun h1=>?_)
  .rw[aq h1]at f;exact⟨_,rfl,_,rfl,vp hl,_,_,rfl,rfl,f⟩
  .rw[aj h1]at f;exact f
abbrev om:Stmt:=top 91
theorem Ac:cW ["word"] ["word"] (cS om):=fsc
inductive kM (vs:List V) (H:Hp) (Q:VK) (E:XK):Prop
 |mk:∀x:Str,vs= [.str x]->okc x->x.length<=10000->Q (.bl (Km.isVar (tl x))) H->kM vs H Q E
theorem NA {d:Nat} (h:d∈63::Km.SG):Txt.isalpha ⟨#[d]⟩=Km.isL d:=by
 rw[zZ (by intro c hc;rw[show c=d by simpa[tl]using hc];exact h)]
 simp[tl]
theorem Ae (T:Tx c A) (D:Df c "is_variable" om ["word"] A.iM):Good c 1 "is_variable" A.iM kM:=by
 refine D.good Ac ?_;rintro X H _ Q E rfl a sn hr ⟨x,rfl,ok,hl,k⟩;refine⟨_,(cQ (cV (tj (yn iR (dv mC (gl sn) T.fE PySem.boot_len (cK (vr sn 0) cO)) cT) (tj (yZ HI (xU Dj (vr sn 0) cT (fun _ _=>rfl)) gk (by with_unfolding_all rfl)) (tf (M4 PySem.F.slot_str_isalpha PySem.F.type_str_isalpha zH (xU Dj (vr sn 0) cT (fun _ _=>rfl)))))))),?_⟩
 refine⟨_,rfl,_,rfl,vp hl,rfl,_,rfl,?_⟩;have hz:=j8 x;refine uS (fun h=>?_) (fun h=>?_)
 .have h:=aQ h;injection h with h;have h2:(tl x).length=2:=by omega
  match q:tl x,h2 with
  | [p,d],_=>
   rw[q]at k;refine⟨_,rfl,_,_,_,rfl,rfl,vp hl,cX (j:=0) (v:=p) (by show (tl x)[0]?=_;rw[q];rfl),_,_,rfl,rfl,_,rfl,?_⟩
   have hp:decide (p∈(Str.ofString "@!").cps.toList)=(p==64||p==33):=by
    have e:(Str.ofString "@!").cps.toList= [64,33]:=by decide
    rw[e];by_cases p1:p=64
    .subst p1;decide
    .by_cases p2:p=33
     .subst p2;decide
     .simp[p1,p2]
   rw[hp];have hd:d∈63::Km.SG:=ok d (by rw[q];simp)
   refine uS (fun h3=>?_) (fun h3=>?_)
   .refine⟨_,rfl,_,_,_,rfl,rfl,vp hl,cX (j:=1) (v:=d) (by show (tl x)[1]?=_;rw[q];rfl),⟨_,rfl⟩,_,rfl,rfl,trivial,?_⟩
    rw[NA hd];have:Km.isVar [p,d]=Km.isL d:=by show ((p==64||p==33)&&Km.isL d)=_;rw[h3];rfl
    rw[this]at k;exact k
   .have:Km.isVar [p,d]=false:=by show ((p==64||p==33)&&Km.isL d)=_;rw[bK]at h3;rw[h3];rfl
    rw[this]at k;exact k
 .have:Km.isVar (tl x)=false:=by
   unfold Km.isVar;split
   .rename_i p d q
    exfalso;apply h
    rw[q]at hz;rw[aI];rw[hz];rfl
   .rfl
  rw[this]at k;exact k
theorem Gd {κ:Type} [DecidableEq κ] (dU:List (κ×V)) (x:κ):(fC dU x).isSome=decide (x∈dU.map (·.1)):=by
 cases e:fC dU x with
 |none=>rw[ao (Fx e)];rfl
 |some v=>rw[aI (y8 e)];rfl
theorem Vf:∀w∈pG.map tl,w∈Km.OPN\/32∈w:=by decide+kernel
theorem Vg:∀w∈Km.OPN,w∈pG.map tl:=by decide+kernel
theorem Af {x:Str} (ok:okc x):(fC (m3 A) (.inr x)).isSome=decide (tl x∈Km.OPN):=by
 rw[Gd,Bs];have e:(Sum.inr x:Key)∈pG.map Sum.inr↔tl x∈Km.OPN:=by
  constructor
  .intro h;obtain⟨y,hy,e⟩:=bx.mp h;injection e with e;subst e
   rcases Vf _ (bx.mpr ⟨y,hy,rfl⟩)with h|h
   .exact h
   .exact absurd (ok 32 h) (by decide)
  .intro h;obtain⟨y,hy,e⟩:=bx.mp (Vg _ h);exact bx.mpr ⟨y,hy,by rw[Dr e]⟩
 exact decide_eq_decide.mpr e
abbrev wI:Stmt:=top 92
theorem Ic:cW ["word"] ["word"] (cS wI):=fsc
def isNm (w:List Nat):Bool:=Km.lets w&&!decide (w∈Km.OPN)
inductive lD (vs:List V) (H:Hp) (Q:VK) (E:XK):Prop
 |mk:∀x:Str,vs= [.str x]->okc x->x.length<=10000->Q (.bl (isNm (tl x))) H->lD vs H Q E
theorem Ie (T:Tx c A) (D:Df c "is_name" wI ["word"] A.jV):Good c 1 "is_name" A.jV lD:=by
 refine D.good Ic ?_;rintro X H _ Q E rfl a sn hr ⟨x,rfl,ok,hl,k⟩;refine⟨_,(cQ (cV (tj (M4 PySem.F.slot_str_isalpha PySem.F.type_str_isalpha zH (vr sn 0)) (tj (yn zx (dv mC (gl sn) T.fE PySem.boot_len (cK (vr sn 0) cO)) (pc_ T.z8 (gl sn))) (tf (Mu (Lx (vr sn 0) (pc_ T.jo (gl sn))))))))),?_⟩;refine⟨_,rfl,⟨_,rfl⟩,_,rfl,rfl,trivial,_,rfl,?_⟩;rw[zZ ok];have hz:=j8 x;unfold isNm Km.lets at k;refine uS (fun h=>?_) (fun h=>?_)
 .rw[aH]at h;rw[h.1,h.2,cF,cv]at k;refine⟨_,rfl,_,rfl,vp hl,_,_,rfl,rfl,_,rfl,?_⟩;refine uS (fun h1=>?_) (fun h1=>?_)
  .have h1:=aQ h1;rw[aI (show (tl x).length<=16 by omega),cF]at k
   refine⟨_,rfl,_,_,rfl,⟨_,.inr x,T.wH,rfl,rfl⟩,?_⟩;rw[Af ok];exact k
  .have h1:¬((x.length:Int)<=16):=fun q=>h1 (aI q)
   rw[ao (show¬(tl x).length<=16 by omega),X0]at k
   exact k
 .rw[bK]at h;have:(decide (1<=(tl x).length)&&(decide ((tl x).length<=16)&&(tl x).all Km.isL))=false:=by
   cases p:decide (1<=(tl x).length)with
   |false=>rfl
   |true=>rw[p,cF]at h;rw[h];simp
  rw[this]at k;exact k
abbrev wJ:Stmt:=top 93
theorem Ig:cW ["word"] ["word"] (cS wJ):=fsc
def LF (w:List Nat):Bool:=decide (w∈Km.OPN)||(Km.isNum w||(isNm w||Km.isVar w))
inductive tK (vs:List V) (H:Hp) (Q:VK) (E:XK):Prop
 |mk:∀x:Str,vs= [.str x]->okc x->x.length<=10000->Q (.bl (LF (tl x))) H->tK vs H Q E
theorem Ih (T:Tx c A) (D:Df c "is_word" wJ ["word"] A.mS) (iE:Good c 1 "is_number" A.ja kL) (ic:Good c 1 "is_name" A.jV lD)
  (jt:Good c 1 "is_variable" A.iM kM):Good c 2 "is_word" A.mS tK:=by
 refine D.good Ig ?_;rintro X H _ Q E rfl a sn hr ⟨x,rfl,ok,hl,k⟩;refine⟨_,(cQ (cV (J7 (Mu (Nu (vr sn 0) (pc_ T.jo (gl sn)))) (J7 (pf_ iE (hmo hr) (gl sn) (cK (vr sn 0) cO)) (J7 (pf_ ic (hmo hr) (gl sn) (cK (vr sn 0) cO)) (tf (pf_ jt (hmo hr) (gl sn) (cK (vr sn 0) cO)))))))),?_⟩;unfold LF at k;refine⟨_,rfl,_,_,rfl,⟨_,.inr x,T.wH,rfl,rfl⟩,_,rfl,?_⟩;rw[Af ok];refine uS (fun h1=>?_) (fun h1=>?_)
 .rw[h1,XX]at k;exact k
 rw[bK]at h1;rw[h1,XD]at k;refine⟨_,rfl,x,rfl,ok,hl,_,rfl,?_⟩;refine uS (fun h2=>?_) (fun h2=>?_)
 .rw[h2,XX]at k;exact k
 rw[bK]at h2;rw[h2,XD]at k;refine⟨_,rfl,x,rfl,ok,hl,_,rfl,?_⟩;refine uS (fun h3=>?_) (fun h3=>?_)
 .rw[h3,XX]at k;exact k
 rw[bK]at h3;rw[h3,XD]at k;exact⟨_,rfl,x,rfl,ok,hl,k⟩
end
theorem hX {α:Type}:∀{l:List α} {i:Nat} {x:α},l[i]?=some x->l.take (i+1)=l.take i++ [x]
 | [],i,x,h=>by simp at h
 |a::l,0,x,h=>by
  have e:a=x:=a9 h;subst e;rfl
 |a::l,i+1,x,h=>by
  have ih:=hX (l:=l) (i:=i) (x:=x) h;show a::l.take (i+1)=a::l.take i++ [x];rw[ih];rfl
theorem _root_.L2.dR.dm {H:Hp} {p:Addr} {o:HO} (h:H p=none):dR H (upd H p o):=fun b u e=>by rw[cR (cM e h)];exact e
theorem pH {σ:L2.St} {H:Hp} {P Q:Hp->Prop} (h:P H):Pu σ H (fun b H3=>if b=true then P H3 else Q H3):=by unfold Pu;exact fm h
section
variable {c:Ct} {A:Ad}
abbrev DN:Stmt:=top 26
theorem NB:cW ["signs","sign"] ["signs"] (cS DN):=fsc
inductive Ag (vs:List V) (H:Hp) (Q:VK) (E:XK):Prop
 |mk:∀x:Str,vs= [.str x]->x.length<=10000->(∀D,H D=none->Q (.ref D) (upd H D (.lst ((tl x).map fun (n:Nat)=>V.int (n:Int)))))->Ag vs H Q E
theorem NC (T:Tx c A) (D:Df c "codes" DN ["signs"] A.sj):Good c 1 "codes" A.sj Ag:=by
 refine D.good NB ?_;rintro X H _ Q E rfl a sn hr ⟨x,rfl,hl,k⟩;refine⟨_,(cQ (cV (pLc sn [("sign",1)] (MZ (vr sn 0)) (fun _ _ _ _ _=>(rb sn.nd (nx sn 1) rfl)) (fun _ _ _ _ _=>(dv uN (tH rfl) T.KA boot_ord (cK (lS (nx sn 1) (.inl rfl)) cO)))))),?_⟩
 have hz:=j8 x;refine⟨_,rfl,_,rfl,fun D hD=>S7 (fun i H'=>H'=upd H D (.lst (((tl x).take i).map fun (n:Nat)=>V.int (n:Int)))) rfl ?_ ?_⟩
 .rintro i ch H' hi rfl;have hi':(tl x)[i]?=some ch:=by rw[<-hi];simp[tl]
  refine⟨rfl,pH ⟨_,rfl,⟨#[ch]⟩,rfl,rfl,_,cP,?_,?_⟩⟩
  .rw[List.length_map,aV];exact aE (Wy _ _) (aE (by omega:(tl x).length<=10000) (by decide))
  .rw[j6,hX hi',aA];rfl
 .rintro H' rfl;have:(tl x).take x.cps.size=tl x:=WO (by simp[tl])
  rw[this];exact k D hD
def sgd:List (Key×V):=Km.SG.map fun (n:Nat)=>(.inl (n:Int),.str ⟨#[n]⟩)
abbrev lE:Stmt:=top 88
theorem vq:cW ["signs","sign"] [] (cS lE):=fsc
inductive kN (vs:List V) (H:Hp) (Q:VK) (E:XK):Prop
 |mk:vs= []->(∀H' p,dR H H'->H p=none->H' p=some (.dK sgd)->Q (.ref p) H')->kN vs H Q E
theorem ND:tl (Str.ofString "!()*+-/0123456789:;<=@abcdefghijklmnopqrstuvwxyz")=Km.SG:=by decide+kernel
theorem NF:Km.SG.Nodup:=by decide+kernel
theorem NG {i n:Nat} (h:Km.SG[i]?=some n):fC ((Km.SG.take i).map fun (n:Nat)=>((.inl (n:Int):Key),V.str ⟨#[n]⟩)) (.inl (n:Int))=none:=by
 cases e:fC ((Km.SG.take i).map fun (n:Nat)=>((.inl (n:Int):Key),V.str ⟨#[n]⟩)) (.inl (n:Int))with
 |none=>rfl
 |some v=>
  have hm:=y8 e;rw[bY]at hm;obtain⟨m,hm2,q⟩:=bx.mp hm;have q:(Sum.inl (m:Int):Key)= .inl (n:Int):=q;injection q with q;have q:m=n:=by omega
  subst q;obtain⟨j,hj⟩:=bQ.mp hm2;have fH:j<i:=by
   have:=(aa.mp hj).1
   rw[aV]at this;omega
  rw[Xy fH]at hj;have:=U6 NF hj h;omega
theorem vw (T:Tx c A) (D:Df c "signs_of_bytes" lE [] A.gZ):Good c 1 "signs_of_bytes" A.gZ kN:=by
 refine D.good vq ?_;rintro X H _ Q E rfl a sn hr ⟨rfl,k⟩;refine⟨_,(cN (pSt sn 0 zG) (cN (qO a.never a.calm (MZ (pc_ T.Qa (gl sn))) (gNm sn 1) (cQ (Kl (CG hr) (vr sn 0) (dv uN (gl sn) T.KA boot_ord (cK (vr sn 1) cO)) (vr sn 1) rfl))) (cQ (cV (vr sn 0))))),?_⟩;intro d hd;refine⟨_,rfl,P8 (fun i σ H'=>∃v,σ= [some (.ref d),v]/\H'=upd H d (.dK ((Km.SG.take i).map fun (n:Nat)=>(.inl (n:Int),.str ⟨#[n]⟩)))) ⟨_,rfl,rfl⟩ ?_ ?_⟩
 .rintro i ch σ H' hi ⟨v,rfl,rfl⟩;have hi':Km.SG[i]?=some ch:=by rw[<-ND,<-hi];simp[tl]
  have hlen:((Km.SG.take i).map fun (n:Nat)=>((.inl (n:Int):Key),V.str ⟨#[n]⟩)).length<sizeLine:=by
   rw[List.length_map,aV];exact aE (Wy _ _) (by decide)
  refine⟨_,rfl,_,rfl,_,rfl,⟨#[ch]⟩,rfl,rfl,d,_,rfl,Lg.k (k:=.inl (ch:Int)) cP hlen,_,rfl,?_⟩;rw[j6,Fq _ (NG hi'),hX hi',aA];rfl
 .rintro σ H' ⟨v,rfl,rfl⟩;refine⟨_,rfl,k _ d (.dm hd) hd ?_⟩;rw[cP];rfl
def iv (b:UInt8):V:=.int (b.toNat:Nat)
abbrev wK:Stmt:=top 89
theorem Ii:cW ["row","signs","byte"] ["row","signs"] (cS wK):=fsc
inductive tL (vs:List V) (H:Hp) (Q:VK) (E:XK):Prop
 |mk:∀(r d:Addr) (bs:Lo.Bytes),vs= [.ref r,.ref d]->H r=some (.lst (bs.map iv))->H d=some (.dK sgd)->bs.length<=10000->(∀H' y,dR H H'->tl y=Km.dQ bs->Q (.str y) H')->tL vs H Q E
theorem LG (l:List Nat):CD [] (l.map fun (n:Nat)=>[n])=l:=by
 induction l with
 |nil=>rfl
 |cons a l ih=>
  cases l with
  |nil=>rfl
  |cons b l=>simp only[bh,CD]at ih⊢;rw[ih];rfl
theorem Qb (n:Nat):(fC sgd (.inl (n:Int))).getD (.str (Str.ofString "?"))= .str ⟨#[Km.sg n]⟩:=by
 unfold Km.sg;split
 .rename_i h
  obtain⟨i,hi⟩:=bQ.mp h;have:fC sgd (.inl (n:Int))=some (.str ⟨#[n]⟩):=by
   have hm:(Sum.inl (n:Int):Key)∈sgd.map (·.1):=by
    unfold sgd;rw[bY];exact bx.mpr ⟨n,h,rfl⟩
   obtain⟨v,hv⟩:∃v,fC sgd (.inl (n:Int))=some v:=by
    cases q:fC sgd (.inl (n:Int))with
    |none=>exact absurd hm (Fx q)
    |some v=>exact⟨v,rfl⟩
   rw[hv];unfold fC at hv;rw[bc]at hv;obtain⟨p,h1,h2⟩:=hv;have h3:=List.find?_some h1;have h4:=Xw h1;unfold sgd at h4;obtain⟨m,_,e2⟩:=bx.mp h4;have h3:p.1= .inl (n:Int):=aQ h3;rw[<-e2]at h3 h2;injection h3 with h3
   have h3:m=n:=by omega
   subst h3;rw[<-h2]
  rw[this];rfl
 .rename_i h
  have:fC sgd (.inl (n:Int))=none:=by
   cases e:fC sgd (.inl (n:Int))with
   |none=>rfl
   |some v=>
    have hm:=y8 e;unfold sgd at hm;rw[bY]at hm;obtain⟨m,hm2,q⟩:=bx.mp hm;have q:(Sum.inl (m:Int):Key)= .inl (n:Int):=q;injection q with q;have q:m=n:=by omega
    subst q;exact absurd hm2 h
  rw[this];decide
theorem Ij (T:Tx c A) (D:Df c "spelled" wK ["row","signs"] A.mR):Good c 1 "spelled" A.mR tL:=by
 refine D.good Ii ?_;rintro X H _ Q E rfl a sn hr ⟨r,d,bs,rfl,hr1,hd1,hl,k⟩;refine⟨_,(cQ (cV (PM gk (pLc sn [("byte",2)] (uK (vr sn 0)) (fun _ _ _ _ _=>(rb sn.nd (nx sn 2) rfl)) (fun _ _ _ _ _=>(MX (CG hr) (lS (nx sn 1) (.inr rfl)) (lS (nx sn 2) (.inl rfl)) (pc_ T.LD (tH rfl)) ⟨rfl,rfl,rfl,rfl⟩)))))),?_⟩
 refine⟨⟨_,rfl⟩,_,rfl,r,rfl,⟨_,SqL.of hr1⟩,fun D hD=>?_⟩
 have ndr:r≠D:=cM hr1 hD;have ndd:d≠D:=cM hd1 hD;refine y4 (K:=X.K) (a:=r) (xs:=bs.map iv) (fun i H'=>H'=upd H D (.lst (((bs.take i).map fun b=>(⟨#[Km.sg b.toNat]⟩:Str)).map V.str))) rfl ?_ ?_ ?_
 .rintro i H' _ rfl;exact SqL.of (by rw[cR ndr];exact hr1)
 .rintro i x H' hi rfl;rw[aF]at hi;obtain⟨b,hb,rfl⟩:=bc.mp hi;have hd2:upd H D (.lst (((bs.take i).map fun b=>(⟨#[Km.sg b.toNat]⟩:Str)).map V.str)) d=some (.dK sgd):=by rw[cR ndd];exact hd1
  refine⟨rfl,pH ⟨_,rfl,d,rfl,.inl ⟨_,.inl hd2⟩,_,rfl,_,sF.k (k:=.inl (b.toNat:Nat)) hd2,_,cP,?_,?_⟩⟩
  .rw[List.length_map,List.length_map,aV];exact aE (Wy _ _) (aE hl (by decide))
  .rw[j6,Qb,hX hb,aA,aA];rfl
 .rintro H' rfl;rw[List.length_map,WY];refine⟨_,D,_,rfl,rfl,.inl (SqL.of cP),?_,k _ _ (.dm hD) ?_⟩
  .have e:∀l:Lo.Bytes,((l.map fun b=>(⟨#[Km.sg b.toNat]⟩:Str)).map (·.length)).sum=l.length:=by
    intro l
    induction l with
    |nil=>rfl
    |cons x l ih=>simp only[bh,List.sum_cons,aG,ih];show 1+l.length=_;omega
   rw[e];have:(Str.ofString "").length=0:=by decide
   rw[this];omega
  .rw[join_eq,Kn,bY];have e0:tl (Str.ofString "")= []:=by decide
   rw[e0];have:(bs.map ((fun x=>tl x)∘fun b=>(⟨#[Km.sg b.toNat]⟩:Str)))=(Km.dQ bs).map fun (n:Nat)=>[n]:=by
    unfold Km.dQ;rw[bY];rfl
   exact(congrArg (CD []) this).trans (LG _)
end
def dZ (t:Lo.Tok):Str:=⟨(Km.dQ t.b).toArray⟩
theorem jj (t:Lo.Tok):tl (dZ t)=Km.dQ t.b:=rfl
def WL (H:Hp):List Addr->List Lo.Tok->Prop:=Paired fun a t=>H a=some (.tup [.int (t.at_:Nat),.str (dZ t)])
def pI (H:Hp) (p:Addr) (l:List Lo.Tok):Prop:=∃as:List Addr,H p=some (.lst (as.map V.ref))/\WL H as l
theorem WL.same {H H':Hp} (s:dR H H') {as:List Addr} {l:List Lo.Tok} (h:WL H as l):WL H' as l:=Paired.jw h fun _ _ e=>s _ _ e
theorem WL.len {H:Hp} {as:List Addr} {l:List Lo.Tok} (h:WL H as l):as.length=l.length:=Paired.length h
theorem WL.get {H:Hp} {as:List Addr} {l:List Lo.Tok} (h:WL H as l) {i:Nat} {t:Lo.Tok} (e:l[i]?=some t):∃a,as[i]?=some a/\H a=some (.tup [.int (t.at_:Nat),.str (dZ t)]):=by
 induction h generalizing i with
 |nil=>simp at e
 |cons h1 h2 ih=>
  cases i with
  |zero=>simp at e;subst e;exact⟨_,rfl,h1⟩
  |succ i=>exact ih (by simpa using e)
def kz (bs:Lo.Bytes) (st i:Nat):Lo.Bytes:=(bs.take i).drop st
def vx (bs:Lo.Bytes) (i st:Nat) (l:List Lo.Tok):Prop:=st<=i/\Lo.wordsOf bs=l++Lo.wordsFrom i (kz bs st i).reverse (bs.drop i)
theorem DP {bs:Lo.Bytes} {st i:Nat} (h:i<=bs.length):(kz bs st i).length=i-st:=by
 unfold kz;rw[aZ,aV];omega
theorem vx.start (bs:Lo.Bytes):vx bs 0 0 []:=⟨au _,by simp[Lo.wordsOf,kz]⟩
theorem NH {bs:Lo.Bytes} {st i:Nat} {b:UInt8} (hb:bs[i]?=some b) (h:st<=i):kz bs st (i+1)=kz bs st i++ [b]:=by
 unfold kz;rw[hX hb,List.drop_append_of_le_length];have:=(aa.mp hb).1;rw[aV];omega
theorem NI (bs:Lo.Bytes) (i:Nat):kz bs i i= []:=by
 unfold kz;rw[W3,aV];omega
theorem vx.step {bs:Lo.Bytes} {i st:Nat} {l:List Lo.Tok} {b:UInt8} (h:vx bs i st l) (hb:bs[i]?=some b) (hw:Lo.isWhite b=false):vx bs (i+1) st l:=by
 refine⟨by have:=h.1;omega,?_⟩
 rw[h.2,Pz.oY hb];congr 1
 conv=>lhs;unfold Lo.wordsFrom
 rw[hw,NH hb h.1];simp
theorem CQ {l:Lo.Bytes}:l.reverse.isEmpty=decide (l.length=0):=by
 cases l<;>simp
theorem vx.blank {bs:Lo.Bytes} {i st:Nat} {l:List Lo.Tok} {b:UInt8} (h:vx bs i st l) (hb:bs[i]?=some b) (hw:Lo.isWhite b=true):
  vx bs (i+1) (i+1) (if st<i then l++ [⟨kz bs st i,st⟩]else l):=by
 refine⟨au _,?_⟩;have hi:=(aa.mp hb).1;have hl:=DP (bs:=bs) (st:=st) (bg hi);have h1:=h.1;rw[h.2,Pz.oY hb,NI]
 conv=>lhs;unfold Lo.wordsFrom
 rw[hw,CQ,hl];by_cases q:st<i
 .rw[aq rfl,aq q,ao (by omega),List.reverse_reverse,aB,hl]
  simp
  omega
 .rw[aq rfl,aj q,aI (by omega)]
  simp
theorem vx.done {bs:Lo.Bytes} {st:Nat} {l:List Lo.Tok} (h:vx bs bs.length st l):Lo.wordsOf bs=if st<bs.length then l++ [⟨kz bs st bs.length,st⟩]else l:=by
 have hl:=DP (bs:=bs) (st:=st) (au _);have h1:=h.1;rw[h.2,WW];unfold Lo.wordsFrom;rw[CQ,hl];by_cases q:st<bs.length
 .rw[aq q,ao (by omega),List.reverse_reverse,aB,hl]
  simp
  omega
 .rw[aj q,aI (by omega)]
  simp
section
variable {c:Ct} {A:Ad}
abbrev NJ:Stmt:=top 87
theorem S9:cW ["text","signs","words","start","place","byte"] ["text"] (cS NJ):=fsc
inductive Ik (vs:List V) (H:Hp) (Q:VK) (E:XK):Prop
 |mk:∀(a:Addr) (bs:Lo.Bytes),vs= [.ref a]->H a=some (.lst (bs.map iv))->bs.length<=4096->(∀H' p,dR H H'->H p=none->pI H' p (Lo.wordsOf bs)->Q (.ref p) H')->Ik vs H Q E
theorem LH (b:UInt8):inV (iv b) [.int 32,.int 10]=Lo.isWhite b:=by
 have:∀n:Nat,n<256->(inV (.int (n:Int)) [.int 32,.int 10]=((UInt8.ofNat n)==32||(UInt8.ofNat n)==10)):=by decide+kernel
 have h:=this b.toNat (by exact b.toNat_lt)
 rw[UInt8.ofNat_toNat]at h;exact h
theorem KG {bs:Lo.Bytes} {i:Nat} {x:V} (h:(bs.map iv++ [V.int 32])[i]?=some x):(∃b,bs[i]?=some b/\x=iv b)\/(i=bs.length/\x= .int 32):=by
 by_cases q:i<bs.length
 .rw[aT (by simpa using q),aF]at h
  obtain⟨b,hb,rfl⟩:=bc.mp h;exact .inl ⟨b,hb,rfl⟩
 .have:=(aa.mp h).1
  rw[List.length_append,List.length_map]at this;have e:i=bs.length:=by simp at this;omega
  subst e;rw[cG (by simp)]at h
  simp at h;exact .inr ⟨rfl,h.symm⟩
theorem LI (bs:Lo.Bytes) {st i:Nat} (h1:st<=i) (h2:i<=bs.length):uO (bs.map iv) (some (st:Int)) (some (i:Int))=(kz bs st i).map iv:=by
 unfold uO kz;rw[HT.rX,HT.rX,List.length_map,WM h2,WM (ai h1 h2),<-X2,<-List.map_take,List.drop_take]
theorem NL {bs:Lo.Bytes} {i st:Nat} {l:List Lo.Tok} (h:vx bs i st l):l.length<=(Lo.wordsOf bs).length:=by
 rw[h.2,List.length_append];omega
theorem wL:∀(r:Lo.Bytes) (p:Nat) (now:Lo.Bytes),(Lo.wordsFrom p now r).length<=r.length+1
 | [],p,now=>by unfold Lo.wordsFrom;split<;>simp
 |c::r,p,now=>by
  unfold Lo.wordsFrom;have h1:=wL r (p+1) [];have h2:=wL r (p+1) (c::now);split
  .split
   .simp only[aG];omega
   .simp only[aG];omega
  .simp only[aG];omega
theorem Ta (T:Tx c A) (D:Df c "cut" NJ ["text"] A.CP) (lF:Good c 1 "signs_of_bytes" A.gZ kN) (wM:Good c 1 "spelled" A.mR tL):
  Good c 2 "cut" A.CP Ik:=by
 refine D.good S9 ?_;rintro X H _ Q E rfl a sn hr ⟨ad,bs,rfl,ha,hl,k⟩;refine⟨_,(cN (pSt sn 1 (Ws lF (hmo hr) (gl sn))) (cN (pSt sn 2 (eX cO)) (cN (pSt sn 3 cT) (cN (qO a.never a.calm (PH (gl sn) T.ya (cK (fB MO (vr sn 0) (eX (cK (ixT (pc_ T.kH (gl sn)) cT) cO))) cO)) (Hq a.calm (oz (gNm sn 4) (oz (gNm sn 5) Dd))) (cQ (dX (rW Le (vr sn 5) (pc_ T.kH (gl sn)) (by with_unfolding_all rfl)) (cN (dX (iK L2.mV (vr sn 3) (vr sn 4)) (cQ (dH (jJ PySem.F.plainAttrs_list PySem.F.slot_list_append PySem.F.type_list_append fh (vr sn 2) (cK (h9 (cK (vr sn 3) (cK (pf_ wM (hmo hr) (gl sn) (cK (qQ y3 (vr sn 0) (oU (vr sn 3)) (oU (vr sn 4))) (cK (vr sn 1) cO))) cO))) cO)))) dr) (cQ (pSt sn 3 (fB iH (vr sn 4) cT)))) dr))) (cQ (cV (vr sn 2))))))),?_⟩
 refine⟨rfl,fun H1 sg s1 nsg hsg=>⟨aO _,fun w hw=>?_⟩⟩
 have ha1:=s1 _ _ ha;have nw_a:ad≠w:=cM ha1 hw;have nw_sg:sg≠w:=cM hsg hw;have nw0:H w=none:=s1.free hw;have hlw:(Lo.wordsOf bs).length<=4097:=by have:=wL bs 0 [];unfold Lo.wordsOf;omega
 refine⟨_,rfl,_,_,_,_,rfl,rfl,T.Ga _,cX (j:=0) rfl,sz,fun q hq=>?_⟩
 have nq_w:w≠q:=cM (cP (H:=H1) (o:=.lst [])) hq;have hq1:H1 q=none:=by rw[cR nq_w.symm]at hq;exact hq
 have ha2:upd (upd H1 w (.lst [])) q (.lst [V.int 32]) ad=some (.lst (bs.map iv)):=by
  rw[cR (cM ha1 hq1),cR nw_a];exact ha1
 refine⟨ad,q,_,_,rfl,rfl,ha2,cP,?_,fun e he=>?_⟩
 .rw[List.length_map];exact ai (Nat.add_le_add_right hl _) (by decide)
 have he':=he;have ne_q:q≠e:=cM cP he;rw[cR ne_q.symm]at he';have ne_w:w≠e:=cM (cP (H:=H1) (o:=.lst [])) he';rw[cR ne_w.symm]at he';have ne0:H e=none:=s1.free he';refine⟨e,_,rfl,SqL.of cP,Nv (K:=X.K) (a:=e) (xs:=bs.map iv++ [V.int 32]) (fun i σ H'=>∃(v4 v5:Option V) (st:Nat) (as:List Addr) (l:List Lo.Tok),σ= [some (.ref ad),some (.ref sg),some (.ref w),some (.int (st:Int)),v4,v5]/\
  dR H H'/\H' ad=some (.lst (bs.map iv))/\H' sg=some (.dK sgd)/\H' w=some (.lst (as.map V.ref))/\H' e=some (.lst (bs.map iv++ [V.int 32]))/\WL H' as l/\
  (if i<=bs.length then vx bs i st l else l=Lo.wordsOf bs)) ?_ ?_ ?_ ?_⟩
 .refine⟨none,none,0,[],[],rfl,fun b o eb=>?_,?_,?_,?_,cP,.nil,?_⟩
  .rw[cR (cM eb ne0),cR (cM (s1 _ _ eb) hq1),cR (cM eb nw0)];exact s1 _ _ eb
  .rw[cR (cM ha1 he')];exact ha2
  .rw[cR (cM hsg he'),cR (cM hsg hq1),cR nw_sg];exact hsg
  .rw[cR ne_w,cR nq_w,cP];rfl
  .rw[aq (aO _)];exact vx.start bs
 .rintro i σ H' _ ⟨v4,v5,st,as,l,rfl,_,_,_,_,h5,_⟩;exact SqL.of h5
 .rintro i x σ H' t hx ⟨v4,v5,st,as,l,rfl,sH,h2,h3,h4,h5,hW,hC⟩ ht;have nt0:H t=none:=sH.free ht;have nt_w:w≠t:=cM h4 ht;have nt_e:e≠t:=cM h5 ht;have nt_sg:sg≠t:=cM h3 ht;have nt_a:ad≠t:=cM h2 ht;have hile:i<=bs.length:=by
   have:=(aa.mp hx).1
   simp at this;omega
  rw[aq hile]at hC;have hx':inV x [.int 32,.int 10]=(if h:i<bs.length then Lo.isWhite bs[i]else true):=by
   rcases KG hx with⟨b,hb,rfl⟩|⟨rfl,rfl⟩
   .obtain⟨fH,eb⟩:=aa.mp hb;rw[dif_pos fH,eb];exact LH b
   .rw[dif_neg (bG _)];decide
  have hfx:uP x=true:=by
   rcases KG hx with⟨b,hb,rfl⟩|⟨rfl,rfl⟩<;>rfl
  refine⟨t,_,rfl,SqT.of cP,rfl,_,_,rfl,_,_,rfl,rfl,?_⟩;refine⟨_,rfl,_,_,rfl,.inr (T.Ga _),hfx,rfl,_,rfl,?_⟩;have hle:l.length<=4097:=ai (NL hC) hlw;refine uS (fun hb=>?_) (fun hb=>?_)
  .have hbl:inV x [.int 32,.int 10]=true:=hb;have hfin:∀l',(l'=if st<i then l++ [⟨kz bs st i,st⟩]else l)->(if i+1<=bs.length then vx bs (i+1) (i+1) l' else l'=Lo.wordsOf bs):=by
    rintro l' rfl;by_cases fH:i<bs.length
    .rw[aq (by omega)]
     rw[hbl,dif_pos fH]at hx';exact hC.blank (af fH) hx'.symm
    .have:i=bs.length:=by omega
     subst this;rw[aj (by omega)]
     exact hC.done.symm
   refine⟨_,rfl,_,rfl,_,_,rfl,rfl,_,rfl,?_⟩;refine uS (fun fH=>?_) (fun fH=>?_)
   .have fH:st<i:=by have:=aQ fH;omega
    refine⟨_,rfl,.inl ⟨rfl,_,SqL.of (by rw[cR nt_w];exact h4)⟩,_,rfl,_,rfl,_,rfl,_,rfl,_,rfl,_,rfl,ad,_,rfl,SqL.of (by rw[cR nt_a];exact h2),fun z hz=>?_⟩
    rw[LI bs (by omega) hile]at*
    have nz_t:t≠z:=cM cP hz;rw[cR nz_t.symm]at hz;have nz0:H z=none:=sH.free hz;have nz_w:=cM h4 hz;have nz_e:=cM h5 hz;have nz_sg:=cM h3 hz;have nz_a:=cM h2 hz;refine⟨_,rfl,z,sg,kz bs st i,rfl,cP,by rw[cR nz_sg,cR nt_sg];exact h3,?_,fun H3 y s3 hy=>?_⟩
    .rw[DP hile];omega
    have ey:y=dZ ⟨kz bs st i,st⟩:=Dr hy;subst ey;have g4:H3 w=some (.lst (as.map V.ref)):=s3 _ _ (by rw[cR nz_w,cR nt_w];exact h4)
    have g5:H3 e=some (.lst (bs.map iv++ [V.int 32])):=s3 _ _ (by rw[cR nz_e,cR nt_e];exact h5)
    have g3:H3 sg=some (.dK sgd):=s3 _ _ (by rw[cR nz_sg,cR nt_sg];exact h3)
    have g2:H3 ad=some (.lst (bs.map iv)):=s3 _ _ (by rw[cR nz_a,cR nt_a];exact h2)
    have sH3:dR H' H3:=fun b o eb=>s3 _ _ (by rw[cR (cM eb hz),cR (cM eb ht)];exact eb)
    refine⟨sz,fun u hu=>?_⟩
    have nu_w:=cM g4 hu;have nu0:H u=none:=(sH.trans sH3).free hu;have sH4:dR H3 (upd H3 u (.tup [.int (st:Int),.str (dZ ⟨kz bs st i,st⟩)])):=.dm hu;refine⟨w,_,_,rfl,rfl,sH4 _ _ g4,?_,_,rfl,_,_,rfl,rfl,?_⟩
    .rw[List.length_map,hW.len];exact aE hle (by decide)
    have nwo:∀b o,(upd H3 u (.tup [.int (st:Int),.str (dZ ⟨kz bs st i,st⟩)])) b=some o->b≠w->upd (upd H3 u (.tup [.int (st:Int),.str (dZ ⟨kz bs st i,st⟩)])) w (.lst (as.map V.ref++ [V.ref u])) b=some o:=fun b o eb nb=>by rw[cR nb];exact eb
    refine⟨_,_,i+1,as++ [u],l++ [⟨kz bs st i,st⟩],rfl,fun b o eb=>?_,?_,?_,?_,?_,?_,hfin _ (by rw[aq fH])⟩
    .exact nwo _ _ (sH4 _ _ (sH3 _ _ (sH _ _ eb))) (cM eb nw0)
    .exact nwo _ _ (sH4 _ _ g2) nw_a
    .exact nwo _ _ (sH4 _ _ g3) nw_sg
    .rw[cP,aA];rfl
    .exact nwo _ _ (sH4 _ _ g5) ne_w.symm
    .refine Paired.snoc ?_ ?_
     .refine Paired.jw hW fun b t' eb=>?_
      exact nwo _ _ (sH4 _ _ (sH3 _ _ eb)) (neo eb h4)
     .exact nwo _ _ cP (cM g4 hu).symm
   .have fH:¬st<i:=fun z=>fH (aI (by omega))
    refine⟨_,rfl,_,_,rfl,rfl,_,_,i+1,as,l,rfl,fun b o eb=>?_,?_,?_,?_,?_,?_,hfin _ (by rw[aj fH])⟩
    .rw[cR (cM eb nt0)];exact sH _ _ eb
    .rw[cR nt_a];exact h2
    .rw[cR nt_sg];exact h3
    .rw[cR nt_w];exact h4
    .rw[cR nt_e];exact h5
    .exact hW.same (.dm ht)
  .have hbl:inV x [.int 32,.int 10]=false:=by
    cases q:inV x [.int 32,.int 10]with
    |false=>rfl
    |true=>exact absurd q hb
   rw[hbl]at hx';by_cases fH:i<bs.length
   .rw[dif_pos fH]at hx';refine⟨_,_,st,as,l,rfl,fun b o eb=>?_,?_,?_,?_,?_,?_,?_⟩
    .rw[cR (cM eb nt0)];exact sH _ _ eb
    .rw[cR nt_a];exact h2
    .rw[cR nt_sg];exact h3
    .rw[cR nt_w];exact h4
    .rw[cR nt_e];exact h5
    .exact hW.same (.dm ht)
    .rw[aq (by omega)];exact hC.step (af fH) hx'.symm
   .rw[dif_neg fH]at hx';cases hx'
 .rintro σ H' ⟨v4,v5,st,as,l,rfl,sH,h2,h3,h4,h5,hW,hC⟩;rw[aj (by rw[List.length_append,List.length_map];show¬bs.length+1<=bs.length;omega)]at hC
  subst hC;exact⟨_,rfl,k H' w sH nw0 ⟨as,h4,hW⟩⟩
end
section
variable {c:Ct} {A:Ad}
abbrev wN:Stmt:=top 94
theorem Il:cW ["word","target"] ["word","target"] (cS wN):=fsc
def tM (x:Str):Str:=match Km.ko (tl x)with
 | .number _=>Str.ofString "a number"
 | .get _=>Str.ofString "@ variable"
 | .set _=>Str.ofString "! variable"
 | .name=>Str.ofString "a name"
 |_=>x
def jY (x:Str) (t:Int):Int:=match Km.ko (tl x)with
 | .number z=>z
 | .get n=>(n:Int)
 | .set n=>(n:Int)
 |_=>t
inductive tN (vs:List V) (H:Hp) (Q:VK) (E:XK):Prop
 |mk:∀(x:Str) (t:Int),vs= [.str x,.int t]->okc x->x.length<=10000->(∀p,H p=none->Q (.ref p) (upd H p (.tup [.str (tM x),.int (jY x t)])))->tN vs H Q E
theorem rk (l:List Nat):NumText.digitsVal l=Km.u1 l:=by
 unfold NumText.digitsVal Km.u1;congr 1
 funext n d
 omega
theorem NM {x:Str} (h:Km.isNum (tl x)=true):intText? x=some (Km.FV (tl x))/\x.length<=640:=by
 have hz:=j8 x;unfold Km.isNum at h;have all:∀l:List Nat,Km.mE l=true->NumText.AllDigits l/\l≠ []/\l.length<=20:=by
  intro l hl;unfold Km.mE at hl;simp only[aH,aY]at hl;refine⟨fun n hn=>?_,by intro e;rw[e]at hl;simp at hl,hl.2.1⟩
  have:=bJ.mp hl.2.2 n hn
  unfold Km.isD at this;simpa using this
 obtain⟨a1,a2,a3⟩:=all _ h;by_cases q:∃r,tl x=45::r
 .obtain⟨r,q⟩:=q;rw[q]at a1 a2 a3;have e:Km.fK (45::r)=r:=rfl;rw[e]at a1 a2 a3;have hl:x.length<=21:=by rw[hz,q];simp;exact a3
  refine⟨?_,by omega⟩
  rw[intText_neg q a1 a2 (by omega),q]
  show _=some (-(Km.u1 r:Int));rw[rk]
 .have e:Km.fK (tl x)=tl x:=by
   unfold Km.fK;split
   .rename_i r e;exact absurd ⟨r,e⟩ q
   .rfl
  have e2:Km.FV (tl x)=(Km.u1 (tl x):Int):=by
   unfold Km.FV;split
   .rename_i r e;exact absurd ⟨r,e⟩ q
   .rfl
  rw[e]at a1 a2 a3;refine⟨?_,by omega⟩
  rw[intText_digits a1 a2 (by omega),e2,<-rk]
theorem Im (T:Tx c A) (D:Df c "step_of" wN ["word","target"] A.mT) (iE:Good c 1 "is_number" A.ja kL) (ic:Good c 1 "is_name" A.jV lD)
  (jt:Good c 1 "is_variable" A.iM kM):Good c 2 "step_of" A.mT tN:=by
 refine D.good Il ?_;rintro X H _ Q E rfl a sn hr ⟨x,t,rfl,ok,hl,k⟩;refine⟨_,(cN (dX (fJ (pf_ iE (hmo hr) (gl sn) (cK (vr sn 0) cO))) (cQ (cV (h9 (cK gk (cK (mP uR (gl sn) T.RN boot_int (cK (vr sn 0) cO)) cO))))) dr) (cN (dX (fJ (pf_ jt (hmo hr) (gl sn) (cK (vr sn 0) cO))) (cQ (cV (h9 (cK (fB tp (xU Dj (vr sn 0) cT (fun _ _=>rfl)) gk) (cK (fB md (dv uN (gl sn) T.KA boot_ord (cK (xU Dj (vr sn 0) cT (fun _ _=>rfl)) cO)) (dv uN (gl sn) T.KA boot_ord (cK gk cO))) cO))))) dr) (cN (dX (fJ (pf_ ic (hmo hr) (gl sn) (cK (vr sn 0) cO))) (cQ (cV (h9 (cK gk (cK (vr sn 1) cO))))) dr) (cQ (cV (h9 (cK (vr sn 0) (cK (vr sn 1) cO)))))))),?_⟩
 have two:2<=sizeLine:=by decide
 refine⟨_,rfl,x,rfl,ok,hl,_,rfl,?_⟩;have key:∀y n,tM x=y->jY x t=n->∀p,H p=none->Q (.ref p) (upd H p (.tup [.str y,.int n])):=by
  rintro y n rfl rfl p hp;exact k p hp
 have dd:∀{b:Bool} {P R:Prop},(b=true->P)->(b=false->R)->if b=true then P else R:=by
  intro b P R h1 h2;cases b
  .exact eY (h2 rfl)
  .exact fm (h1 rfl)
 have last:Km.isNum (tl x)=false->Km.isVar (tl x)=false->isNm (tl x)=false->tM x=x/\jY x t=t:=by
  intro h1 h2 h3;unfold tM jY;cases Km.kc (tl x)with
  |num e h=>rw[h]at h1;cases h1
  |op n e _ _ _=>rw[e];exact⟨rfl,rfl⟩
  |get d e hw hL=>rw[hw]at h2;simp[Km.isVar,hL]at h2
  |set d e hw hL=>rw[hw]at h2;simp[Km.isVar,hL]at h2
  |name e h _ _ _=>unfold isNm at h3;rw[h]at h3;rename_i hn _ _;rw[ao hn]at h3;cases h3
  |none_ e _ _ _ _=>rw[e];exact⟨rfl,rfl⟩
 refine dd (fun h1=>?_) (fun h1=>?_)
 .obtain⟨e1,e2⟩:=NM h1;refine⟨_,rfl,x,_,rfl,e1,e2,two,fun p hp=>key _ _ ?_ ?_ p hp⟩
  .unfold tM;cases Km.kc (tl x)with
   |num e h=>rw[e]
   |op n e _ h _=>rw[h1]at h;cases h
   |get d e hw hL=>rw[hw]at h1;simp[Km.isNum,Km.fK,Km.mE,Km.isD]at h1
   |set d e hw hL=>rw[hw]at h1;simp[Km.isNum,Km.fK,Km.mE,Km.isD]at h1
   |name e _ _ h _=>rw[h1]at h;cases h
   |none_ e _ _ h _=>rw[h1]at h;cases h
  .unfold jY;cases Km.kc (tl x)with
   |num e h=>rw[e]
   |op n e _ h _=>rw[h1]at h;cases h
   |get d e hw hL=>rw[hw]at h1;simp[Km.isNum,Km.fK,Km.mE,Km.isD]at h1
   |set d e hw hL=>rw[hw]at h1;simp[Km.isNum,Km.fK,Km.mE,Km.isD]at h1
   |name e _ _ h _=>rw[h1]at h;cases h
   |none_ e _ _ h _=>rw[h1]at h;cases h
 refine⟨_,rfl,x,rfl,ok,hl,_,rfl,dd (fun h2=>?_) (fun h2=>?_)⟩
 .obtain⟨p0,d0,ew,hp0,hL⟩:∃p d,tl x= [p,d]/\(p=64\/p=33)/\Km.isL d=true:=by
   unfold Km.isVar at h2;split at h2
   .rename_i p d e
    simp only[aH,Xc,cA]at h2;exact⟨p,d,e,h2.1,h2.2⟩
   .cases h2
  have l97:97<=d0:=by unfold Km.isL at hL;simp at hL;exact hL.1
  refine⟨_,rfl,_,_,_,rfl,rfl,vp hl,cX (j:=0) (v:=p0) (by show (tl x)[0]?=_;rw[ew];rfl),_,_,rfl,rfl,(by show 1+9<=sizeLine;decide),?_⟩
  refine⟨_,rfl,_,_,_,rfl,rfl,vp hl,cX (j:=1) (v:=d0) (by show (tl x)[1]?=_;rw[ew];rfl),_,rfl,rfl,_,rfl,(by decide),_,_,rfl,rfl,two,fun p hp=>key _ _ ?_ ?_ p hp⟩
  .unfold tM;rcases hp0 with rfl|rfl
   .have e:Km.ko (tl x)= .get (d0-97):=by rw[ew];show (if Km.isL d0=true then Lo.Kind.get (d0-97)else .none_)=_;rw[aq hL]
    rw[e];show Str.ofString "@ variable"=_;decide
   .have e:Km.ko (tl x)= .set (d0-97):=by rw[ew];show (if Km.isL d0=true then Lo.Kind.set (d0-97)else .none_)=_;rw[aq hL]
    rw[e];show Str.ofString "! variable"=_;decide
  .unfold jY;have en:((#[d0]:Array Nat).getD 0 0:Nat)=d0:=rfl;rcases hp0 with rfl|rfl
   .have e:Km.ko (tl x)= .get (d0-97):=by rw[ew];show (if Km.isL d0=true then Lo.Kind.get (d0-97)else .none_)=_;rw[aq hL]
    rw[e];show ((d0-97:Nat):Int)=(d0:Int)-97;omega
   .have e:Km.ko (tl x)= .set (d0-97):=by rw[ew];show (if Km.isL d0=true then Lo.Kind.set (d0-97)else .none_)=_;rw[aq hL]
    rw[e];show ((d0-97:Nat):Int)=(d0:Int)-97;omega
 refine⟨_,rfl,x,rfl,ok,hl,_,rfl,dd (fun h3=>?_) (fun h3=>?_)⟩
 .have e:Km.ko (tl x)= .name:=by
   unfold isNm at h3;rw[aH]at h3;have h4:tl x∉Km.OPN:=by intro q;rw[aI q]at h3;exact absurd h3.2 (by decide)
   cases Km.kc (tl x)with
   |num e h=>rw[h]at h1;cases h1
   |op n e h _ _=>exact absurd (aP h) h4
   |get d e hw hL=>rw[hw]at h2;simp[Km.isVar,hL]at h2
   |set d e hw hL=>rw[hw]at h2;simp[Km.isVar,hL]at h2
   |name e _ _ _ _=>exact e
   |none_ e h _ _ _=>rw[h]at h3;exact absurd h3.1 (by decide)
  refine⟨_,rfl,two,fun p hp=>key _ _ ?_ ?_ p hp⟩
  .unfold tM;rw[e]
  .unfold jY;rw[e]
 .obtain⟨e1,e2⟩:=last h1 h2 h3;exact⟨_,rfl,_,rfl,two,fun p hp=>key _ _ e1 e2 p hp⟩
end
def dj (S:List Addr) (H H':Hp):Prop:=∀b o,H b=some o->b∉S->H' b=some o
theorem dj.refl (S:List Addr) (H:Hp):dj S H H:=fun _ _ e _=>e
theorem dj.trans {S:List Addr} {H H1 H2:Hp} (a:dj S H H1) (b:dj S H1 H2):dj S H H2:=fun c o e n=>b c o (a c o e n) n
theorem dj.of {S:List Addr} {H H':Hp} (s:dR H H'):dj S H H':=fun b o e _=>s b o e
theorem dj.d7 {S:List Addr} {H H':Hp} {a:Addr} {o:HO} (k:dj S H H') (h:a∈S):dj S H (upd H' a o):=fun b u e n=>by
 rw[cR (fun q=>n (by rw[q];exact h))];exact k b u e n
theorem kui {S:List Addr} {H:Hp} {a:Addr} {o:HO} (h:a∈S:=by simp):dj S H (upd H a o):=dj.d7 (dj.refl _ _) h
theorem dj.dm {S:List Addr} {H H':Hp} {a:Addr} {o:HO} (k:dj S H H') (h:H a=none):dj S H (upd H' a o):=fun b u e n=>by
 rw[cR (cM e h)];exact k b u e n
structure RL where
 r:Addr
 dx:Addr
 w:Addr
 b:Addr
 nr:Addr
 wt:Addr
 tg:Addr
def Wt (L:RL) (n:Int):List (Str×V):=[("length",.int n),("words",.ref L.w),("bodies",.ref L.b),("names_read",.ref L.nr),("waiting",.ref L.wt),("targets",.ref L.tg)]
def mu (L:RL):List Addr:=[L.wt,L.tg,L.nr]
def CS (H:Hp):List Addr->List (Str×Nat)->Prop:=Paired fun a e=>H a=some (.tup [.str e.1,.int (e.2:Nat)])
theorem CS.same {H H':Hp} (s:dR H H') {as:List Addr} {l:List (Str×Nat)} (h:CS H as l):CS H' as l:=Paired.jw h fun _ _ e=>s _ _ e
theorem fR {α β:Type} {G:α->β->Prop}:∀{as:List α} {l:List β} {e:β},Paired G as (l++ [e])->∃ig a,as=ig++ [a]/\Paired G ig l/\G a e
 |as,[],e,h=>by
  cases h with
  |cons h1 h2=>cases h2;exact⟨[],_,rfl,.nil,h1⟩
 |as,x::l,e,h=>by
  cases h with
  |cons h1 h2=>
   obtain⟨ig,a,rfl,h3,h4⟩:=fR h2;exact⟨_::ig,a,rfl,.cons h1 h3,h4⟩
structure RdL (A:Ad) (H:Hp) (L:RL) (n:Int) (l:List Lo.Tok) (kb kn:List (Key×V)) (es:List (Str×Nat)) (tg:List Nat):Prop where
 ins:H L.r=some (.ins A.cZ L.dx (Wt L n))
 words:pI H L.w l
 bod:H L.b=some (.dK kb)
 nam:H L.nr=some (.dK kn)
 wts:∃as:List Addr,H L.wt=some (.lst (as.map V.ref))/\CS H as es.reverse
 tgs:H L.tg=some (.lst (tg.map fun (n:Nat)=>V.int (n:Int)))
 d1:L.wt≠L.tg
 d2:L.w≠L.wt
 d3:L.w≠L.tg
 d4:L.b≠L.nr
theorem RdL.same {A:Ad} {H H':Hp} {L:RL} {n:Int} {l:List Lo.Tok} {kb kn:List (Key×V)} {es:List (Str×Nat)} {tg:List Nat} (h:RdL A H L n l kb kn es tg) (s:dR H H'):RdL A H' L n l kb kn es tg:=by
 obtain⟨as,h1,h2⟩:=h.words;obtain⟨bs,h3,h4⟩:=h.wts;exact⟨s _ _ h.ins,⟨as,s _ _ h1,h2.same s⟩,s _ _ h.bod,s _ _ h.nam,⟨bs,s _ _ h3,h4.same s⟩,s _ _ h.tgs,h.d1,h.d2,h.d3,h.d4⟩
theorem RdL.NN {A:Ad} {H:Hp} {L:RL} {n:Int} {l:List Lo.Tok} {kb kn:List (Key×V)} {es es':List (Str×Nat)} {tg:List Nat} {as:List Addr} (h:RdL A H L n l kb kn es tg) (he:CS H as es'.reverse):
  RdL A (upd H L.wt (.lst (as.map V.ref))) L n l kb kn es' tg:=by
 obtain⟨ws,h1,h2⟩:=h.words;obtain⟨bs,h3,h4⟩:=h.wts;have no:∀b o,H b=some o->(∀xs,o≠ .lst xs)->upd H L.wt (.lst (as.map V.ref)) b=some o:=fun b o e q=>by rw[cR (sS e h3 (q _))];exact e
 refine⟨no _ _ h.ins (fun _ q=>by cases q),⟨ws,by rw[cR h.d2];exact h1,Paired.jw h2 fun _ _ e=>no _ _ e (fun _ q=>by cases q)⟩,no _ _ h.bod (fun _ q=>by cases q),no _ _ h.nam (fun _ q=>by cases q),
  ⟨as,cP,Paired.jw he fun _ _ e=>no _ _ e (fun _ q=>by cases q)⟩,by rw[cR h.d1.symm];exact h.tgs,h.d1,h.d2,h.d3,h.d4⟩
theorem RdL.tO {A:Ad} {H:Hp} {L:RL} {n:Int} {l:List Lo.Tok} {kb kn:List (Key×V)} {es:List (Str×Nat)} {tg tg':List Nat} (h:RdL A H L n l kb kn es tg):
  RdL A (upd H L.tg (.lst (tg'.map fun (n:Nat)=>V.int (n:Int)))) L n l kb kn es tg':=by
 obtain⟨ws,h1,h2⟩:=h.words;obtain⟨bs,h3,h4⟩:=h.wts;have no:∀b o,H b=some o->(∀xs,o≠ .lst xs)->upd H L.tg (.lst (tg'.map fun (n:Nat)=>V.int (n:Int))) b=some o:=fun b o e q=>by rw[cR (sS e h.tgs (q _))];exact e
 exact⟨no _ _ h.ins (fun _ q=>by cases q),⟨ws,by rw[cR h.d3];exact h1,Paired.jw h2 fun _ _ e=>no _ _ e (fun _ q=>by cases q)⟩,no _ _ h.bod (fun _ q=>by cases q),no _ _ h.nam (fun _ q=>by cases q),
  ⟨bs,by rw[cR h.d1];exact h3,Paired.jw h4 fun _ _ e=>no _ _ e (fun _ q=>by cases q)⟩,cP,h.d1,h.d2,h.d3,h.d4⟩
theorem RdL.Tb {A:Ad} {H:Hp} {L:RL} {n:Int} {l:List Lo.Tok} {kb kn kn':List (Key×V)} {es:List (Str×Nat)} {tg:List Nat} (h:RdL A H L n l kb kn es tg):
  RdL A (upd H L.nr (.dK kn')) L n l kb kn' es tg:=by
 obtain⟨ws,h1,h2⟩:=h.words;obtain⟨bs,h3,h4⟩:=h.wts;have no:∀b o,H b=some o->(∀xs,o≠ .dK xs)->upd H L.nr (.dK kn') b=some o:=fun b o e q=>by rw[cR (sS e h.nam (q _))];exact e
 exact⟨no _ _ h.ins (fun _ q=>by cases q),⟨ws,no _ _ h1 (fun _ q=>by cases q),Paired.jw h2 fun _ _ e=>no _ _ e (fun _ q=>by cases q)⟩,by rw[cR h.d4];exact h.bod,cP,
  ⟨bs,no _ _ h3 (fun _ q=>by cases q),Paired.jw h4 fun _ _ e=>no _ _ e (fun _ q=>by cases q)⟩,no _ _ h.tgs (fun _ q=>by cases q),h.d1,h.d2,h.d3,h.d4⟩
section
variable {c:Ct} {A:Ad}
abbrev ka:Stmt:=inClass (top 96) 1
theorem sJ:cW ["self","index"] ["self","index"] (cS ka):=fsc
inductive jN (A:Ad) (vs:List V) (H:Hp) (Q:VK) (E:XK):Prop
 |mk:∀L n l kb kn es tg k x,vs= [.ref (RL.r L),.int ((k:Nat):Int)]->RdL A H L n l kb kn es tg->l[k]?=some x->Q (.str (dZ x)) H->jN A vs H Q E
theorem Ge (T:Tx c A) (D:Dm c A.cZ "spelling" "Reading.spelling" ka ["self","index"]):dA c 1 A.cZ "spelling" (jN A):=by
 refine D.good sJ ?_;rintro X H _ Q E rfl a sn hr ⟨L,n,l,kb,kn,es,tg,k,x,rfl,R,hx,k⟩;refine⟨_,(cQ (cV (ixT (ixL (df (vr sn 0) rfl) (vr sn 1)) cT))),?_⟩;obtain⟨as,h1,h2⟩:=R.words;obtain⟨ax,h3,h4⟩:=h2.get hx;exact⟨_,rfl,L.r,_,L.dx,_,_,rfl,R.ins,T.de,T.eJ,rfl,_,rfl,L.w,_,_,_,rfl,rfl,SqL.of h1,cX (v:=V.ref ax) (by rw[aF,h3];rfl),ax,_,_,_,rfl,rfl,SqT.of h4,cX (j:=1) rfl,k⟩
abbrev jO:Stmt:=inClass (top 96) 2
theorem qp:cW ["self","spelling"] ["self","spelling"] (cS jO):=fsc
inductive ju (A:Ad) (vs:List V) (H:Hp) (Q:VK) (E:XK):Prop
 |mk:∀L n l kb kn es tg s,vs= [.ref (RL.r L),.str s]->RdL A H L n l kb kn es tg->es.length<=10000->Q (.bl (es.head?.any fun e=>e.1==s)) H->ju A vs H Q E
theorem Bu (T:Tx c A) (D:Dm c A.cZ "waits_last" "Reading.waits_last" jO ["self","spelling"]):dA c 1 A.cZ "waits_last" (ju A):=by
 refine D.good qp ?_;rintro X H _ Q E rfl a sn hr ⟨L,n,l,kb,kn,es,tg,s,rfl,R,hl,k⟩;refine⟨_,(cQ (cV (tj (yn oA (dv dk (gl sn) T.fE PySem.boot_len (cK (df (vr sn 0) rfl) cO)) cT) (tf (yn iR (ixT (ixL (df (vr sn 0) rfl) (Rw Mz cT)) cT) (vr sn 1)))))),?_⟩;obtain⟨as,h1,h2⟩:=R.wts;refine⟨_,rfl,L.r,_,L.dx,_,_,rfl,R.ins,T.de,T.dM,rfl,L.wt,_,rfl,.inl (SqL.of h1),_,_,rfl,rfl,_,rfl,?_⟩;have hlen:(as.map V.ref).length=es.length:=by rw[List.length_map,Paired.length h2,aB]
 rw[hlen];cases es with
 |nil=>
  rw[ao (by simp)]
  exact eY k
 |cons e es=>
  rw[aI (by simp)]
  rw[aX]at h2;obtain⟨ig,ae,rfl,h3,h4⟩:=fR h2;refine fm ⟨_,rfl,L.r,_,L.dx,_,_,rfl,R.ins,T.de,T.dM,rfl,_,rfl,L.wt,_,_,_,rfl,rfl,SqL.of h1,?_,ae,_,_,_,rfl,rfl,SqT.of h4,cX (j:=0) rfl,_,rfl,rfl,?_⟩
  .rw[aA];exact Fj _ _
  .rw[rV];exact k
abbrev m6:Stmt:=inClass (top 96) 3
theorem yq:cW ["self","index"] ["self","index"] (cS m6):=fsc
inductive sr (A:Ad) (vs:List V) (H:Hp) (Q:VK) (E:XK):Prop
 |mk:∀L n l kb kn es tg k x,vs= [.ref (RL.r L),.int ((k:Nat):Int)]->RdL A H L n l kb kn es tg->l[k]?=some x->es.length<=10000->(∀H',RdL A H' L n l kb kn ((dZ x,k)::es) tg->dj (mu L) H H'->Q .non H')->sr A vs H Q E
theorem Qc (T:Tx c A) (D:Dm c A.cZ "wait" "Reading.wait" m6 ["self","index"]) (dG:dA c 1 A.cZ "spelling" (jN A)):dA c 2 A.cZ "wait" (sr A):=by
 refine D.good yq ?_;rintro X H _ Q E rfl a sn hr ⟨L,n,l,kb,kn,es,tg,i,x,rfl,R,hx,hl,k⟩;refine⟨_,(cQ (dH (jJ PySem.F.plainAttrs_list PySem.F.slot_list_append PySem.F.type_list_append fh (df (vr sn 0) rfl) (cK (h9 (cK (pm_ T.de dG (hmo hr) (vr sn 0) (cK (vr sn 1) cO)) (cK (vr sn 1) cO))) cO)))),?_⟩;obtain⟨as,h1,h2⟩:=R.wts;refine⟨_,rfl,L.r,_,L.dx,_,_,rfl,R.ins,T.de,T.dM,rfl,.inl ⟨rfl,_,SqL.of h1⟩,_,rfl,L.r,L.dx,_,rfl,R.ins,rfl,_,rfl,L,n,l,kb,kn,es,tg,i,x,rfl,R,hx,_,rfl,sz,fun p hp=>?_⟩
 have nw:L.wt≠p:=cM h1 hp;have s1:dR H (upd H p (.tup [.str (dZ x),.int (i:Int)])):=.dm hp;refine⟨L.wt,_,_,rfl,rfl,s1 _ _ h1,?_,?_⟩
 .rw[List.length_map,Paired.length h2,aB];exact aE hl (by decide)
 have e:as.map V.ref++ [V.ref p]=(as++ [p]).map V.ref:=by rw[aA];rfl
 rw[e];refine k _ ((R.same s1).NN ?_) (dj.d7 (dj.of s1) (by simp[mu]))
 rw[aX];exact Paired.snoc (h2.same s1) cP
abbrev lG:Stmt:=inClass (top 96) 4
theorem vy:cW ["self","entry"] ["self"] (cS lG):=fsc
inductive sy (A:Ad) (vs:List V) (H:Hp) (Q:VK) (E:XK):Prop
 |mk:∀L n l kb kn e es tg,vs= [.ref (RL.r L)]->RdL A H L n l kb kn (e::es) tg->(∀H',RdL A H' L n l kb kn es tg->dj (mu L) H H'->Q (.int (e.2:Nat)) H')->sy A vs H Q E
theorem LJ (T:Tx c A) (D:Dm c A.cZ "waited" "Reading.waited" lG ["self"]):dA c 1 A.cZ "waited" (sy A):=by
 refine D.good vy ?_;rintro X H _ Q E rfl a sn hr ⟨L,n,l,kb,kn,e,es,tg,rfl,R,k⟩;refine⟨_,(cN (pSt sn 1 (tq PySem.F.plainAttrs_list PySem.F.slot_list_pop PySem.F.type_list_pop wj (df (vr sn 0) rfl))) (cQ (cV (ixT (vr sn 1) cT)))),?_⟩;obtain⟨as,h1,h2⟩:=R.wts;rw[aX]at h2;obtain⟨ig,ae,rfl,h3,h4⟩:=fR h2;rw[aA]at h1;refine⟨_,rfl,L.r,_,L.dx,_,_,rfl,R.ins,T.de,T.dM,rfl,.inl ⟨rfl,_,SqL.of h1⟩,L.wt,_,V.ref ae,rfl,rfl,h1,?_,?_⟩
 .simp
 have e1:(ig.map V.ref++ [ae].map V.ref).dropLast=ig.map V.ref:=by
  show (ig.map V.ref++ [V.ref ae]).dropLast=_;rw[bU]
 rw[e1];have R':=R.NN (es':=es) h3;refine⟨_,rfl,ae,_,_,_,rfl,rfl,SqT.of (by rw[cR (neo h4 h1)];exact h4),cX (j:=1) rfl,?_⟩
 exact k _ R' (dj.d7 (dj.refl _ _) (by simp[mu]))
end
theorem NP:∀n,n<30->(match Km.OPN[n]? with|some w=>(match Km.ko w with| .op m=>m==n|_=>false)|none=>false)=true:=by decide+kernel
theorem DQ {b:Lo.Bytes} {n:Nat}:Lo.kindOf b= .op n↔Km.OPN[n]?=some (Km.dQ b):=by
 rw[Km.il]
 constructor
 .intro h;cases Km.kc (Km.dQ b)with
  |num e _=>rw[e]at h;cases h
  |op m e h1 _ _=>rw[e]at h;injection h with h;subst h;exact h1
  |get d e _ _=>rw[e]at h;cases h
  |set d e _ _=>rw[e]at h;cases h
  |name e _ _ _ _=>rw[e]at h;cases h
  |none_ e _ _ _ _=>rw[e]at h;cases h
 .intro h;have hn:n<30:=(aa.mp h).1;have:=NP n hn;rw[h]at this;dsimp only at this;split at this
  .rename_i m e;rw[e,eq_of_beq this]
  .cases this
theorem CT (t:Lo.Tok):(dZ t==Str.ofString ":")=Lo.isOp Lo.COLON t:=by
 have e:Lo.isOp Lo.COLON t=true↔dZ t=Str.ofString ":":=by
  rw[Pz.qZ,DQ];have e1:Km.OPN[Lo.COLON]?=some [58]:=by decide+kernel
  have e2:tl (Str.ofString ":")= [58]:=by decide
  rw[e1]
  constructor
  .intro h;injection h with h;exact Dr (by rw[jj,e2,h])
  .intro h;rw[<-e2,<-h,jj]
 cases q:Lo.isOp Lo.COLON t with
 |true=>rw[e.mp q];exact bT _
 |false=>
  refine aW.mpr fun h=>?_
  rw[e.mpr h]at q;cases q
section
variable {c:Ct} {A:Ad}
abbrev ia:Stmt:=inClass (top 96) 5
theorem m7:cW ["self","index"] ["self","index"] (cS ia):=fsc
inductive ke (A:Ad) (vs:List V) (H:Hp) (Q:VK) (E:XK):Prop
 |mk:∀L n l kb kn es tg k x,vs= [.ref (RL.r L),.int ((k:Nat):Int)]->RdL A H L n l kb kn es tg->l[k]?=some x->Q (.bl (Lo.defines l k)) H->ke A vs H Q E
theorem tP (T:Tx c A) (D:Dm c A.cZ "is_behind_colon" "Reading.is_behind_colon" ia ["self","index"]) (dG:dA c 1 A.cZ "spelling" (jN A)):
  dA c 2 A.cZ "is_behind_colon" (ke A):=by
 refine D.good m7 ?_;rintro X H _ Q E rfl a sn hr ⟨L,n,l,kb,kn,es,tg,i,x,rfl,R,hx,k⟩;refine⟨_,(cQ (cV (tj (yn oA (vr sn 1) cT) (tf (yn iR (pm_ T.de dG (hmo hr) (vr sn 0) (cK (fB md (vr sn 1) cT) cO)) gk))))),?_⟩;refine⟨_,rfl,_,_,rfl,rfl,_,rfl,?_⟩;cases i with
 |zero=>
  rw[ao (by simp)]
  rw[Pz.oX]at k;exact eY k
 |succ i=>
  rw[aI (by omega)]
  have fH:=(aa.mp hx).1;obtain⟨y,hy⟩:∃y,l[i]?=some y:=⟨_,af (by omega)⟩
  rw[Pz.mD hy,<-CT]at k;have e:((i+1:Nat):Int)-1=(i:Int):=by omega
  refine fm ⟨_,rfl,L.r,L.dx,_,rfl,R.ins,rfl,_,rfl,_,_,rfl,rfl,L,n,l,kb,kn,es,tg,i,y,by show [V.ref L.r,V.int (((i+1:Nat):Int)-1)]=_;rw[e],R,hy,rfl,?_⟩
  rw[rV];exact k
def fst (l:List Lo.Tok) (m:Nat) (x:Str):Option Nat:=(List.range m).find? fun j=>Lo.defines l j&&(match l[j]? with
 |some t=>dZ t==x
 |none=>false)
def RP (l:List Lo.Tok) (kb:List (Key×V)):Prop:=∀x:Str,fC kb (.inr x)=(fst l l.length x).map fun j=>V.int ((j+1:Nat):Int)
theorem Ah (l:List Lo.Tok) (m:Nat) (x:Str):fst l (m+1) x=(match fst l m x with
  |some j=>some j
  |none=>if (Lo.defines l m&&(match l[m]? with|some t=>dZ t==x|none=>false))=true then some m else none):=by
 unfold fst;rw[Xe,List.find?_append];cases (List.range m).find? _ with
 |some j=>rfl
 |none=>
  rw[Option.none_or,List.find?_singleton]
theorem CU {a b:Lo.Bytes} (h:Km.dQ a=Km.dQ b) (hb:Lo.kindOf b= .name):a=b:=by
 have hl:Km.lets (Km.dQ b)=true:=by
  rw[Km.il]at hb;cases Km.kc (Km.dQ b)with
  |num e _=>rw[e]at hb;cases hb
  |op m e h1 _ _=>rw[e]at hb;cases hb
  |get d e _ _=>rw[e]at hb;cases hb
  |set d e _ _=>rw[e]at hb;cases hb
  |name e h _ _ _=>exact h
  |none_ e _ _ _ _=>rw[e]at hb;cases hb
 have hs:∀n∈Km.dQ b,n∈Km.SG:=by
  intro n hn;unfold Km.lets at hl;simp only[aH]at hl;have:=bJ.mp hl.2.2 n hn;have e:=Km.Dx this;unfold Km.sg at e;split at e
  .assumption
  .subst e;exact absurd this (by decide)
 have h1:=(Km.r8 a hs).mp h;have h2:=(Km.r8 b hs).mp rfl;exact Km.toNat_inj (h1.trans h2.symm)
theorem NQ {l:List Lo.Tok} {t:Lo.Tok} (ht:Lo.kindOf t.b= .name):fst l l.length (dZ t)=Lo.bodyOf l t.b:=by
 rw[Pz.wA];unfold fst;congr 1
 funext j
 unfold Pz.tw;congr 1;cases l[j]? with
 |none=>rfl
 |some u=>
  dsimp only;by_cases q:u.b=t.b
  .have h1:dZ u=dZ t:=by unfold dZ;rw[q]
   have h2:Lo.isName u=true:=Pz.jd.mpr (by rw[q];exact ht)
   rw[h1,h2,q];simp
  .have h1:dZ u≠dZ t:=fun e=>q (CU (by have:=congrArg tl e;exact this) ht)
   rw[aW.mpr h1,aW.mpr q,Xu]
abbrev lH:Stmt:=top 98
theorem vz:cW ["words","bodies","index"] ["words"] (cS lH):=fsc
inductive kQ (vs:List V) (H:Hp) (Q:VK) (E:XK):Prop
 |mk:∀(w:Addr) (l:List Lo.Tok),vs= [.ref w]->pI H w l->l.length<=5000->(∀H' p kb,dR H H'->H p=none->H' p=some (.dK kb)->RP l kb->Q (.ref p) H')->kQ vs H Q E
theorem vA (T:Tx c A) (D:Df c "bodies_by_name" lH ["words"] A.g0):Good c 1 "bodies_by_name" A.g0 kQ:=by
 refine D.good vz ?_;rintro X H _ Q E rfl a sn hr ⟨w,l,rfl,⟨as,h1,h2⟩,hl,k⟩;refine⟨_,(cN (pSt sn 1 zG) (cN (qO a.never a.calm (K7 (gl sn) T.vj (cK cT (cK (dv dk (gl sn) T.fE PySem.boot_len (cK (vr sn 0) cO)) cO))) (gNm sn 2) (cQ (dX (iK iR (ixT (ixL (vr sn 0) (fB md (vr sn 2) cT)) cT) gk) (cQ (dH (HY (vr sn 1) (ixT (ixL (vr sn 0) (vr sn 2)) cT) (fB iH (vr sn 2) cT) ⟨rfl,rfl,rfl,rfl⟩))) dr))) (cQ (cV (vr sn 1))))),?_⟩;intro d hd;have nwd:w≠d:=cM h1 hd;have hlen:(as.map V.ref).length=l.length:=by rw[List.length_map,h2.len]
 refine⟨_,rfl,w,_,rfl,.inl (SqL.of (by rw[cR nwd];exact h1)),1,((as.map V.ref).length:Int),rfl,⟨by omega,by omega,by omega,by rw[hlen];omega⟩,?_⟩
 rw[hlen];have wd:∀(H':Hp),(∃o,H'=upd H d o)->H' w=some (.lst (as.map V.ref))/\WL H' as l:=by
  rintro H' ⟨o,rfl⟩;exact⟨by rw[cR nwd];exact h1,h2.same (.dm hd)⟩
 refine wc (lo:=1) (n:=((l.length:Int)-1).toNat) (fun i σ H'=>∃(v:Option V) (kb:List (Key×V)),σ= [some (.ref w),some (.ref d),v]/\H'=upd H d (.dK kb)/\kb.length<=i/\∀x:Str,fC kb (.inr x)=(fst l (i+1) x).map fun j=>V.int ((j+1:Nat):Int)) ?_ ?_ ?_
 .refine⟨none,[],rfl,rfl,au _,fun x=>?_⟩
  have:fst l 1 x=none:=by
   unfold fst;rw[Xm];intro j hj;have:j=0:=by simpa using hj
   subst this;rw[Pz.oX];simp
  rw[this];rfl
 .rintro i σ H' hi ⟨v,kb,rfl,rfl,hkl,hk⟩;have hi1:i+1<l.length:=by omega
  obtain⟨y,hy⟩:∃y,l[i]?=some y:=⟨_,af (by omega)⟩
  obtain⟨z,hz⟩:∃z,l[i+1]?=some z:=⟨_,af hi1⟩;obtain⟨g1,g2⟩:=wd (upd H d (.dK kb)) ⟨_,rfl⟩;obtain⟨ay,e3,e4⟩:=g2.get hy;obtain⟨az,e5,e6⟩:=g2.get hz;have ei:(1:Int)+(i:Int)-1=(i:Int):=by omega
  have ei2:(1:Int)+(i:Int)=((i+1:Nat):Int):=by omega
  refine⟨_,rfl,_,rfl,_,_,rfl,rfl,w,_,_,_,rfl,rfl,SqL.of g1,by rw[ei];exact cX (v:=V.ref ay) (by rw[aF,e3];rfl),ay,_,_,_,rfl,rfl,SqT.of e4,cX (j:=1) rfl,rfl,_,rfl,?_⟩
  rw[rV,CT];have hdef:=Pz.mD hy;refine uS (fun hc=>?_) (fun hc=>?_)
  .refine⟨_,rfl,d,rfl,.inl ⟨_,.inl cP⟩,_,rfl,_,rfl,w,_,_,_,rfl,rfl,SqL.of g1,by rw[ei2];exact cX (v:=V.ref az) (by rw[aF,e5];rfl),az,_,_,_,rfl,rfl,SqT.of e6,cX (j:=1) rfl,_,rfl,_,_,rfl,rfl,kb,.inr (dZ z),cP,?_,rfl,fun v hv=>?_,fun hv=>?_⟩
   .exact aE (ai hkl (by omega:i<=5000)) (by decide)
   .refine⟨_,kb,rfl,rfl,by omega,fun x=>?_⟩
    rw[hk x,Ah l (i+1) x];cases q:fst l (i+1) x with
    |some j=>rfl
    |none=>
     rw[hdef,hc,hz];dsimp only;by_cases qx:dZ z=x
     .subst qx;rw[hk,q]at hv;cases hv
     .simp[aW.mpr qx]
   .refine⟨_,kb++ [(.inr (dZ z),V.int (1+(i:Int)+1))],rfl,by rw[j6],by rw[List.length_append];simp;omega,fun x=>?_⟩
    rw[wq _ _ _ _ hv,Ah l (i+1) x,hdef,hc,hz];dsimp only;by_cases qx:x=dZ z
    .subst qx;rw[aq rfl];have:fst l (i+1) (dZ z)=none:=by
      have:=hk (dZ z)
      rw[hv]at this;cases q:fst l (i+1) (dZ z)with
      |none=>rfl
      |some j=>rw[q]at this;cases this
     rw[this];simp;omega
    .have qx':(Sum.inr x:Key)≠ .inr (dZ z):=fun e=>qx (by injection e)
     rw[aj qx',hk x];cases q:fst l (i+1) x with
     |some j=>rfl
     |none=>simp[aW.mpr (fun e=>qx e.symm)]
  .refine⟨_,kb,rfl,rfl,by omega,fun x=>?_⟩
   rw[bK]at hc;rw[hk x,Ah l (i+1) x,hdef,hc];cases fst l (i+1) x<;>rfl
 .rintro σ H' ⟨v,kb,rfl,rfl,hkl,hk⟩;refine⟨_,rfl,k _ d kb (.dm hd) hd cP fun x=>?_⟩
  rw[hk x];cases l with
  |nil=>rfl
  |cons t l=>
   have:(((t::l).length:Int)-1).toNat+1=(t::l).length:=by simp
   rw[this]
end
def jG:Pz.Ent->List (Str×Nat)
 | .colon i=>[(Str.ofString ":",i)]
 | .iff i=>[(Str.ofString "if",i)]
 | .kl i e=>[(Str.ofString "else",e),(Str.ofString "if",i)]
 | .whl i=>[(Str.ofString "while",i)]
 | .j5 i d=>[(Str.ofString "do",d),(Str.ofString "while",i)]
def flat (w:List Pz.Ent):List (Str×Nat):=w.flatMap jG
def Vh (kn:List (Key×V)) (names:List Lo.Bytes):Prop:=∀t:Lo.Tok,Lo.kindOf t.b= .name->(fC kn (.inr (dZ t))).isSome=decide (t.b∈names)
structure qr (A:Ad) (H:Hp) (L:RL) (n:Int) (l:List Lo.Tok) (m:Nat) (st:Pz.RS):Prop where
 ex:∃kb kn,RdL A H L n l kb kn (flat st.wait) st.tg/\RP l kb/\Vh kn st.names/\kn.length<=m
 fl:(flat st.wait).length<=m
 tl:st.tg.length=l.length
 ix:∀e∈flat st.wait,e.2<l.length
section
variable {c:Ct} {A:Ad}
abbrev kf:Stmt:=inClass (top 96) 0
theorem sL:cW ["self","text"] ["self","text"] (cS kf):=fsc
inductive mh (A:Ad) (vs:List V) (H:Hp) (Q:VK) (E:XK):Prop
 |mk:∀(x dx a:Addr) (bs:Lo.Bytes),vs= [.ref x,.ref a]->H x=some (.ins A.cZ dx [])->H a=some (.lst (bs.map iv))->bs.length<=4096->(∀H' L,RL.r L=x->qr A H' L (bs.length:Int) (Lo.wordsOf bs) 0 (Pz.st0 (Lo.wordsOf bs))->(∀b o,H b=some o->b≠x->H' b=some o)->(∀p∈mu L,H p=none)->Q .non H')->mh A vs H Q E
theorem yr (T:Tx c A) (D:Dm c A.cZ "__init__" "Reading.__init__" kf ["self","text"]) (NR:Good c 2 "cut" A.CP Ik) (lI:Good c 1 "bodies_by_name" A.g0 kQ):
  dA c 3 A.cZ "__init__" (mh A):=by
 refine D.good sL ?_;rintro X H _ Q E rfl a sn hr ⟨x,dx,ad,bs,rfl,hx,ha,hl,k⟩;refine⟨_,(cN (eP (vr sn 0) (dv dk (gl sn) T.fE PySem.boot_len (cK (vr sn 1) cO)) rfl) (cN (eP (vr sn 0) (pf_ NR (hmo hr) (gl sn) (cK (vr sn 1) cO)) rfl) (cN (eP (vr sn 0) (pf_ lI (hmo hr) (gl sn) (cK (df (vr sn 0) rfl) cO)) rfl) (cN (eP (vr sn 0) zG rfl) (cN (eP (vr sn 0) (eX cO) rfl) (cQ (eP (vr sn 0) (mP (Br a.calm) (gl sn) T.S8 boot_list (cK (mP Lw (gl sn) T.vj boot_range (cK cT (cK (fB iH (dv dk (gl sn) T.fE PySem.boot_len (cK (df (vr sn 0) rfl) cO)) cT) cO))) cO)) rfl))))))),?_⟩;have nax:ad≠x:=neo ha hx;have stp:∀(H:Hp) (o:HO),(upd H x o) x=some o/\∀b u,H b=some u->b≠x->upd H x o b=some u:=fun H o=>⟨cP,fun b u e n=>by rw[cR n];exact e⟩
 have new:∀(H:Hp) (p:Addr) (o:HO),H p=none->upd H p o p=some o/\dR H (upd H p o):=fun H p o h=>⟨cP,.dm h⟩
 have hlw:(Lo.wordsOf bs).length<=4097:=by have:=wL bs 0 [];unfold Lo.wordsOf;omega
 refine⟨_,rfl,ad,_,rfl,.inl (SqL.of ha),_,rfl,x,_,dx,_,rfl,hx,T.de,T.jE,(by decide),?_⟩
 rw[List.length_map];have q:=stp H (.ins A.cZ dx (dE "length" (V.int (bs.length:Int)) []));generalize upd H x (.ins A.cZ dx (dE "length" (V.int (bs.length:Int)) []))=H1 at q⊢;obtain⟨hx1,f1⟩:=q;refine⟨_,rfl,ad,bs,rfl,f1 _ _ ha nax,hl,fun H2 pw s2 npw hW=>⟨_,rfl,x,_,dx,_,rfl,s2 _ _ hx1,T.de,T.eJ,(by show 1<1000;decide),?_⟩⟩
 obtain⟨ws,hw1,hw2⟩:=hW;have nwx:pw≠x:=sS hw1 (s2 _ _ hx1) (fun q=>by cases q)
 have hx2:=s2 _ _ hx1;have q:=stp H2 (.ins A.cZ dx (dE "words" (.ref pw) (dE "length" (V.int (bs.length:Int)) [])));generalize upd H2 x (.ins A.cZ dx (dE "words" (.ref pw) (dE "length" (V.int (bs.length:Int)) [])))=H3 at q⊢;obtain⟨hx3,f3⟩:=q;have hW3:pI H3 pw (Lo.wordsOf bs):=⟨ws,f3 _ _ hw1 nwx,Paired.jw hw2 fun b t e=>f3 _ _ e (neo e hx2)⟩
 have g3:∀b u,H b=some u->b≠x->H3 b=some u:=fun b u e n=>f3 _ _ (s2 _ _ (f1 _ _ e n)) n
 clear hw1 hw2 f3 hx2 s2 f1 hx1 npw;refine⟨_,rfl,x,_,dx,_,_,rfl,hx3,T.de,T.eJ,rfl,pw,_,rfl,hW3,by omega,fun H4 pb kb s4 npb hb4 hB=>⟨_,rfl,x,_,dx,_,rfl,s4 _ _ hx3,T.de,T.iD,(by show 2<1000;decide),?_⟩⟩
 have hx4:=s4 _ _ hx3;have nbx:pb≠x:=neo hb4 hx4;have q:=stp H4 (.ins A.cZ dx (dE "bodies" (.ref pb) (dE "words" (.ref pw) (dE "length" (V.int (bs.length:Int)) []))));generalize upd H4 x (.ins A.cZ dx (dE "bodies" (.ref pb) (dE "words" (.ref pw) (dE "length" (V.int (bs.length:Int)) []))))=H5 at q⊢;obtain⟨hx5,f5⟩:=q;obtain⟨ws,hw1,hw2⟩:=hW3;have hW5:pI H5 pw (Lo.wordsOf bs):=⟨ws,f5 _ _ (s4 _ _ hw1) nwx,Paired.jw hw2 fun b t e=>f5 _ _ (s4 _ _ e) (neo e hx3)⟩
 have hb5:=f5 _ _ hb4 nbx;have g5:∀b u,H b=some u->b≠x->H5 b=some u:=fun b u e n=>f5 _ _ (s4 _ _ (g3 _ _ e n)) n
 clear hw1 hw2 f5 hx4 hb4 s4 g3 hx3 npb;intro pn hpn;have q:=new H5 pn (.dK []) hpn;generalize upd H5 pn (.dK [])=H6 at q⊢;obtain⟨hn6,s6⟩:=q;have nnx:pn≠x:=(cM hx5 hpn).symm;have hn0:H pn=none:=by
  cases e:H pn with
  |none=>rfl
  |some o=>rw[g5 _ _ e nnx]at hpn;cases hpn
 refine⟨_,rfl,x,_,dx,_,rfl,s6 _ _ hx5,T.de,T.fS,(by show 3<1000;decide),?_⟩
 have q:=stp H6 (.ins A.cZ dx (dE "names_read" (.ref pn) (dE "bodies" (.ref pb) (dE "words" (.ref pw) (dE "length" (V.int (bs.length:Int)) [])))));generalize upd H6 x (.ins A.cZ dx (dE "names_read" (.ref pn) (dE "bodies" (.ref pb) (dE "words" (.ref pw) (dE "length" (V.int (bs.length:Int)) [])))))=H7 at q⊢;obtain⟨hx7,f7⟩:=q;have hx6:=s6 _ _ hx5;obtain⟨ws,hw1,hw2⟩:=hW5;have hW7:pI H7 pw (Lo.wordsOf bs):=⟨ws,f7 _ _ (s6 _ _ hw1) nwx,Paired.jw hw2 fun b t e=>f7 _ _ (s6 _ _ e) (neo e hx5)⟩
 have hb7:=f7 _ _ (s6 _ _ hb5) nbx;have hn7:=f7 _ _ hn6 nnx;have nbn:pb≠pn:=cM hb5 hpn;have g7:∀b u,H b=some u->b≠x->H7 b=some u:=fun b u e n=>f7 _ _ (s6 _ _ (g5 _ _ e n)) n
 clear hw1 hw2 f7 hx6 hb5 hn6 s6 g5 hx5 hpn;refine⟨aO _,fun pt hpt=>?_⟩
 have q:=new H7 pt (.lst []) hpt;generalize upd H7 pt (.lst [])=H8 at q⊢;obtain⟨ht8,s8⟩:=q;have ntx:pt≠x:=(cM hx7 hpt).symm;have ht0:H pt=none:=by
  cases e:H pt with
  |none=>rfl
  |some o=>rw[g7 _ _ e ntx]at hpt;cases hpt
 refine⟨_,rfl,x,_,dx,_,rfl,s8 _ _ hx7,T.de,T.dM,(by show 4<1000;decide),?_⟩
 have q:=stp H8 (.ins A.cZ dx (dE "waiting" (.ref pt) (dE "names_read" (.ref pn) (dE "bodies" (.ref pb) (dE "words" (.ref pw) (dE "length" (V.int (bs.length:Int)) []))))));generalize upd H8 x (.ins A.cZ dx (dE "waiting" (.ref pt) (dE "names_read" (.ref pn) (dE "bodies" (.ref pb) (dE "words" (.ref pw) (dE "length" (V.int (bs.length:Int)) []))))))=H9 at q⊢;obtain⟨hx9,f9⟩:=q;have hx8:=s8 _ _ hx7;obtain⟨ws,hw1,hw2⟩:=hW7;have hW9:pI H9 pw (Lo.wordsOf bs):=⟨ws,f9 _ _ (s8 _ _ hw1) nwx,Paired.jw hw2 fun b t e=>f9 _ _ (s8 _ _ e) (neo e hx7)⟩
 have hb9:=f9 _ _ (s8 _ _ hb7) nbx;have hn9:=f9 _ _ (s8 _ _ hn7) nnx;have ht9:=f9 _ _ ht8 ntx;have nwt:pw≠pt:=cM hw1 hpt;have g9:∀b u,H b=some u->b≠x->H9 b=some u:=fun b u e n=>f9 _ _ (s8 _ _ (g7 _ _ e n)) n
 clear hw1 hw2 f9 hx8 hb7 hn7 ht8 s8 g7 hx7 hpt;obtain⟨ws,hw1,hw2⟩:=hW9;refine⟨_,rfl,x,_,dx,_,_,rfl,hx9,T.de,T.eJ,rfl,pw,_,rfl,.inl (SqL.of hw1),_,_,rfl,rfl,_,_,rfl,fun pr hpr=>?_⟩
 have q:=new H9 pr (.rng 1 ((ws.map V.ref).length+1)) hpr;generalize upd H9 pr (.rng 1 ((ws.map V.ref).length+1))=H10 at q⊢;obtain⟨hr10,s10⟩:=q;have hlen:((ws.map V.ref).length:Int)=(Lo.wordsOf bs).length:=by rw[List.length_map,hw2.len]
 refine⟨pr,_,_,rfl,hr10,⟨by omega,by omega,by omega,by omega⟩,by rw[hlen];omega,fun pg hpg=>?_⟩
 have etg:((List.range (((ws.map V.ref).length:Int)+1-1).toNat).map fun (i:Nat)=>V.int (1+(i:Int)))=(Pz.st0 (Lo.wordsOf bs)).tg.map fun (n:Nat)=>V.int (n:Int):=by
  unfold Pz.st0;rw[bY,hlen];have:(((Lo.wordsOf bs).length:Int)+1-1).toNat=(Lo.wordsOf bs).length:=by omega
  rw[this];apply Wz;intro i _;show V.int (1+(i:Int))=V.int ((i+1:Nat):Int);congr 1;omega
 rw[etg];have q:=new H10 pg (.lst ((Pz.st0 (Lo.wordsOf bs)).tg.map fun (n:Nat)=>V.int (n:Int))) hpg
 generalize upd H10 pg (.lst ((Pz.st0 (Lo.wordsOf bs)).tg.map fun (n:Nat)=>V.int (n:Int)))=H11 at q⊢
 obtain⟨hg11,s11⟩:=q;have ngx:pg≠x:=(cM (s10 _ _ hx9) hpg).symm;have hg0:H pg=none:=by
  cases e:H pg with
  |none=>rfl
  |some o=>rw[s10 _ _ (g9 _ _ e ngx)]at hpg;cases hpg
 refine⟨_,rfl,x,_,dx,_,rfl,s11 _ _ (s10 _ _ hx9),T.de,T.dW,(by show 5<1000;decide),?_⟩
 have sx:dR H9 H11:=s10.trans s11;have q:=stp H11 (.ins A.cZ dx (dE "targets" (.ref pg) (dE "waiting" (.ref pt) (dE "names_read" (.ref pn) (dE "bodies" (.ref pb) (dE "words" (.ref pw) (dE "length" (V.int (bs.length:Int)) [])))))));generalize upd H11 x (.ins A.cZ dx (dE "targets" (.ref pg) (dE "waiting" (.ref pt) (dE "names_read" (.ref pn) (dE "bodies" (.ref pb) (dE "words" (.ref pw) (dE "length" (V.int (bs.length:Int)) [])))))))=H12 at q⊢;obtain⟨hx12,f12⟩:=q;have hx11:=sx _ _ hx9;refine k H12 ⟨x,dx,pw,pb,pn,pt,pg⟩ rfl ⟨⟨kb,[],⟨hx12,⟨ws,f12 _ _ (sx _ _ hw1) nwx,Paired.jw hw2 fun b t e=>f12 _ _ (sx _ _ e) (neo e hx9)⟩,f12 _ _ (sx _ _ hb9) nbx,f12 _ _ (sx _ _ hn9) nnx,
  ⟨[],f12 _ _ (sx _ _ ht9) ntx,.nil⟩,f12 _ _ hg11 ngx,?_,nwt,?_,nbn⟩,hB,fun t _=>?_,au _⟩,au _,?_,fun e he=>by simp[Pz.st0,flat]at he⟩ (fun b u e n=>f12 _ _ (sx _ _ (g9 _ _ e n)) n) (fun p hp=>?_)
 .exact cM (s10 _ _ ht9) hpg
 .exact cM (s10 _ _ hw1) hpg
 .simp[Pz.st0,fC]
 .simp[Pz.st0]
 .simp only[mu,ag,aJ,bw]at hp;rcases hp with rfl|rfl|rfl
  .exact ht0
  .exact hg0
  .exact hn0
end
theorem fj {x:Lo.Tok} {n:Nat} {s:Str} (h:Lo.kindOf x.b= .op n) (e:Km.OPN[n]?=some (tl s)):dZ x=s:=by
 have:=DQ.mp h
 rw[e]at this;injection this with this;exact Dr (by rw[jj];exact this.symm)
def Res (A:Ad) (H:Hp) (L:RL) (n:Int) (l:List Lo.Tok) (m:Nat) (Q:VK) (r:Except Nat Pz.RS):Prop:=match r with
 | .error e=>∀H',dj (mu L) H H'->Q (.int ((e:Nat):Int)) H'
 | .ok st=>∀H',qr A H' L n l (m+1) st->dj (mu L) H H'->Q (.int 0) H'
inductive iF (A:Ad) (S:Nat->Prop) (vs:List V) (H:Hp) (Q:VK) (E:XK):Prop
 |mk:∀L n l m st k x j,vs= [.ref (RL.r L),.int ((k:Nat):Int)]->qr A H L n l m st->l[k]?=some x->Lo.kindOf x.b= .op j->S j->m<=5000->l.length<=5000->Res A H L n l m Q (Pz.jc k j st)->iF A S vs H Q E
theorem jZ (e:Pz.Ent) (w:List Pz.Ent):flat (e::w)=jG e++flat w:=rfl
theorem Gf (e:Pz.Ent) (w:List Pz.Ent):0<(flat (e::w)).length:=by
 rw[jZ,List.length_append];cases e<;>simp[jG]<;>omega
theorem qr.mono {A:Ad} {H:Hp} {L:RL} {n:Int} {l:List Lo.Tok} {m m':Nat} {st:Pz.RS} (h:qr A H L n l m st) (hm:m<=m'):qr A H L n l m' st:=by
 obtain⟨⟨kb,kn,h1,h2,h3,h4⟩,h5,h6,h7⟩:=h;exact⟨⟨kb,kn,h1,h2,h3,by omega⟩,by omega,h6,h7⟩
theorem rl (tg:List Nat) (i v:Nat):(tg.map fun (n:Nat)=>V.int (n:Int)).set i (V.int (v:Int))=(tg.set i v).map fun (n:Nat)=>V.int (n:Int):=by
 rw[List.map_set]
theorem pJ {n i:Nat} (h:i<n):ixN n ((i:Nat):Int)=some i:=by
 unfold ixN;rw[aq (by omega),aq (by omega)];simp
theorem dd {b:Bool} {P R:Prop} (h1:b=true->P) (h2:b=false->R):if b=true then P else R:=by
 cases b
 .exact eY (h2 rfl)
 .exact fm (h1 rfl)
theorem ddn {b:Bool} {P R:Prop} (h1:b=false->P) (h2:b=true->R):if (!b)=true then P else R:=by
 cases b
 .exact fm (h1 rfl)
 .exact eY (h2 rfl)
section
variable {c:Ct} {A:Ad}
abbrev pK:Stmt:=top 99
theorem Bv:cW ["reading","index"] ["reading","index"] (cS pK):=fsc
theorem Bw (T:Tx c A) (D:Df c "read_colon" pK ["reading","index"] A.fY) (eS:dA c 2 A.cZ "wait" (sr A)):
  Good c 3 "read_colon" A.fY (iF A (·=27)):=by
 refine D.good Bv ?_;rintro X H _ Q E rfl a sn hr ⟨L,n,l,m,st,i,x,j,rfl,R,hx,hk,rfl,hm,hl,k⟩;refine⟨_,(cN (dX (iK oA (dv dk (gl sn) T.fE PySem.boot_len (cK (df (vr sn 0) rfl) cO)) cT) (cQ (cV (pc_ T.gU (gl sn)))) dr) (cN (dH (pm_ T.de eS (hmo hr) (vr sn 0) (cK (vr sn 1) cO))) (cQ (cV (pc_ T.dB (gl sn)))))),?_⟩;obtain⟨⟨kb,kn,R1,hB,hNm,hkn⟩,hfl,uH,v9⟩:=R;obtain⟨as,h1,h2⟩:=R1.wts;have hlen:(as.map V.ref).length=(flat st.wait).length:=by rw[List.length_map,Paired.length h2,aB]
 have hi:=(aa.mp hx).1;refine⟨_,rfl,L.r,_,L.dx,_,_,rfl,R1.ins,T.de,T.dM,rfl,L.wt,_,rfl,.inl (SqL.of h1),_,_,rfl,rfl,_,rfl,?_⟩;rw[hlen];have k:Res A H L n l m Q (Pz.km i st):=k;unfold Pz.km at k;refine dd (fun h=>?_) (fun h=>?_)
 .have h:=aQ h;split at k
  .rename_i e;rw[e]at h;simp[flat]at h
  .exact k H (.refl _ _)
 .have h:=bj h;split at k
  .rename_i e
   rw[e]at R1 hfl;refine⟨_,rfl,L.r,L.dx,_,rfl,R1.ins,rfl,_,rfl,L,n,l,kb,kn,[],st.tg,i,x,rfl,R1,hx,by simp,fun H1 R2 K=>?_⟩
   rw[fj (s:=Str.ofString ":") hk (by decide+kernel)]at R2
   refine k H1 ⟨⟨kb,kn,R2,hB,hNm,by omega⟩,by simp[flat,jG],uH,fun e he=>?_⟩ K
   simp[flat,jG]at he;subst he;exact hi
  .rename_i nM
   cases e:st.wait with
   |nil=>exact absurd e nM
   |cons b w=>rw[e]at h;have:=Gf b w;omega
abbrev m8:Stmt:=top 101
theorem yt:cW ["reading","index"] ["reading","index"] (cS m8):=fsc
theorem yu (T:Tx c A) (D:Df c "read_opening" m8 ["reading","index"] A.eA) (eS:dA c 2 A.cZ "wait" (sr A)):
  Good c 3 "read_opening" A.eA (iF A (fun j=>j=22\/j=25)):=by
 refine D.good yt ?_;rintro X H _ Q E rfl a sn hr ⟨L,n,l,m,st,i,x,j,rfl,R,hx,hk,hj,hm,hl,k⟩;refine⟨_,(cN (dH (pm_ T.de eS (hmo hr) (vr sn 0) (cK (vr sn 1) cO))) (cQ (cV (pc_ T.dB (gl sn))))),?_⟩;obtain⟨⟨kb,kn,R1,hB,hNm,hkn⟩,hfl,uH,v9⟩:=R;have hi:=(aa.mp hx).1;refine⟨_,rfl,L.r,L.dx,_,rfl,R1.ins,rfl,_,rfl,L,n,l,kb,kn,flat st.wait,st.tg,i,x,rfl,R1,hx,by omega,fun H1 R2 K=>?_⟩
 have fin:∀en:Pz.Ent,jG en= [(dZ x,i)]->qr A H1 L n l (m+1) {st with wait:=en::st.wait}:=by
  intro en he;have ef:flat (en::st.wait)=(dZ x,i)::flat st.wait:=by rw[jZ,he];rfl
  refine⟨⟨kb,kn,by rw[ef];exact R2,hB,hNm,by omega⟩,by rw[ef];simp;omega,uH,fun e h=>?_⟩
  rw[ef]at h;rcases ag.mp h with rfl|h
  .exact hi
  .exact v9 e h
 rcases hj with rfl|rfl
 .exact k H1 (fin (.iff i) (by rw[fj (s:=Str.ofString "if") hk (by decide+kernel)];rfl)) K
 .exact k H1 (fin (.whl i) (by rw[fj (s:=Str.ofString "while") hk (by decide+kernel)];rfl)) K
abbrev lJ:Stmt:=top 100
theorem vB:cW ["reading","index"] ["reading","index"] (cS lJ):=fsc
theorem vC (T:Tx c A) (D:Df c "read_semicolon" lJ ["reading","index"] A.eT) (dC:dA c 1 A.cZ "waits_last" (ju A))
  (eV:dA c 1 A.cZ "waited" (sy A)):Good c 2 "read_semicolon" A.eT (iF A (·=28)):=by
 refine D.good vB ?_;rintro X H _ Q E rfl a sn hr ⟨L,n,l,m,st,i,x,j,rfl,R,hx,hk,rfl,hm,hl,k⟩;refine⟨_,(cN (dX (lr (fJ (pm_ T.de dC (hmo hr) (vr sn 0) (cK gk cO)))) (cQ (cV (pc_ T.gU (gl sn)))) dr) (cN (qM (fB iH (vr sn 1) cT) (qL (df (vr sn 0) rfl) (F7 T.de eV (hmo hr) (vr sn 0)) set_list (fun _=>rfl))) (cQ (cV (pc_ T.dB (gl sn)))))),?_⟩
 obtain⟨⟨kb,kn,R1,hB,hNm,hkn⟩,hfl,uH,v9⟩:=R;have hi:=(aa.mp hx).1;refine⟨_,rfl,L.r,L.dx,_,rfl,R1.ins,rfl,L,n,l,kb,kn,flat st.wait,st.tg,Str.ofString ":",rfl,R1,by omega,_,rfl,?_⟩
 have k:Res A H L n l m Q (Pz.lY i st):=k;unfold Pz.lY at k;split at k
 .rename_i o r e
  rw[e,jZ]at R1 hfl v9;rw[e,jZ];refine ddn (fun h=>?_) (fun _=>?_)
  .have h:(Str.ofString ":"==Str.ofString ":")=false:=h;rw[bT]at h;cases h
  .refine⟨_,rfl,_,_,rfl,rfl,_,rfl,L.r,_,L.dx,_,_,rfl,R1.ins,T.de,T.dW,rfl,_,rfl,L.r,L.dx,_,rfl,R1.ins,rfl,L,n,l,kb,kn,_,flat r,st.tg,rfl,R1,fun H1 R2 K=>?_⟩
   have ho:o<l.length:=v9 (Str.ofString ":",o) (by simp[jG])
   refine⟨L.tg,_,_,o,rfl,rfl,R2.tgs,pJ (by rw[List.length_map,uH];exact ho),?_⟩
   rw[show (st.tg.map fun (n:Nat)=>V.int (n:Int)).set o ((fun (i j:Int)=>V.int (i+j)) (i:Int) 1)=(st.tg.set o (i+1)).map fun (n:Nat)=>V.int (n:Int)from rl st.tg o (i+1)]
   refine k _ ⟨⟨kb,kn,R2.tO,hB,hNm,by omega⟩,?_,by simp[uH],fun e he=>v9 e (ba _ he)⟩ (dj.d7 K (by simp[mu]))
   have:(jG (Pz.Ent.colon o)++flat r).length<=m:=hfl
   rw[List.length_append]at this;show (flat r).length<=m+1;omega
 .rename_i nM
  have hno:((flat st.wait).head?.any fun e=>e.1==Str.ofString ":")=false:=by
   cases e:st.wait with
   |nil=>rfl
   |cons b w=>
    cases b with
    |colon o=>exact absurd e (nM o w)
    |iff o=>rfl
    |kl o e'=>rfl
    |whl o=>rfl
    |j5 o d=>rfl
  rw[hno];exact fm (k H (.refl _ _))
end
def hw (w:List Pz.Ent) (s:Str):Bool:=(flat w).head?.any fun e=>e.1==s
theorem Gg (o:Nat) (r:List Pz.Ent):hw (.iff o::r) (Str.ofString "if")=true:=bT _
theorem DR (o e:Nat) (r:List Pz.Ent):hw (.kl o e::r) (Str.ofString "else")=true:=bT _
theorem NS (o:Nat) (r:List Pz.Ent):hw (.whl o::r) (Str.ofString "while")=true:=bT _
theorem Vi (o d:Nat) (r:List Pz.Ent):hw (.j5 o d::r) (Str.ofString "do")=true:=bT _
section
variable {c:Ct} {A:Ad}
abbrev rm:Stmt:=top 102
theorem DS:cW ["reading","index"] ["reading","index"] (cS rm):=fsc
theorem DT (T:Tx c A) (D:Df c "read_else" rm ["reading","index"] A.gT) (dC:dA c 1 A.cZ "waits_last" (ju A))
  (eS:dA c 2 A.cZ "wait" (sr A)):Good c 3 "read_else" A.gT (iF A (·=23)):=by
 refine D.good DS ?_;rintro X H _ Q E rfl a sn hr ⟨L,n,l,m,st,i,x,j,rfl,R,hx,hk,rfl,hm,hl,k⟩;refine⟨_,(cN (dX (lr (fJ (pm_ T.de dC (hmo hr) (vr sn 0) (cK gk cO)))) (cQ (cV (pc_ T.gU (gl sn)))) dr) (cN (qM (fB iH (vr sn 1) cT) (qL (df (vr sn 0) rfl) (ixT (ixL (df (vr sn 0) rfl) (Rw Mz cT)) cT) set_list (fun _=>rfl))) (cN (dH (pm_ T.de eS (hmo hr) (vr sn 0) (cK (vr sn 1) cO))) (cQ (cV (pc_ T.dB (gl sn))))))),?_⟩
 obtain⟨⟨kb,kn,R1,hB,hNm,hkn⟩,hfl,uH,v9⟩:=R;have hi:=(aa.mp hx).1;refine⟨_,rfl,L.r,L.dx,_,rfl,R1.ins,rfl,L,n,l,kb,kn,flat st.wait,st.tg,Str.ofString "if",rfl,R1,by omega,_,rfl,?_⟩
 have k:Res A H L n l m Q (Pz.lX i st):=k;unfold Pz.lX at k;split at k
 .rename_i o r e
  rw[e,jZ]at R1 hfl v9;rw[e];refine ddn (fun h=>?_) (fun _=>?_)
  .rw[show ((flat (Pz.Ent.iff o::r)).head?.any fun e=>e.1==Str.ofString "if")=true from Gg o r]at h;cases h
  .obtain⟨as,h1,h2⟩:=R1.wts;have h2:CS H as ((flat r).reverse++ [(Str.ofString "if",o)]):=by
    have:(jG (Pz.Ent.iff o)++flat r).reverse=(flat r).reverse++ [(Str.ofString "if",o)]:=by simp[jG]
    rw[this]at h2;exact h2
   obtain⟨ig,ae,rfl,h3,h4⟩:=fR h2;rw[aA]at h1;have ho:o<l.length:=v9 (Str.ofString "if",o) (by simp[jG])
   refine⟨_,rfl,_,_,rfl,rfl,_,rfl,L.r,_,L.dx,_,_,rfl,R1.ins,T.de,T.dW,rfl,_,rfl,L.r,_,L.dx,_,_,rfl,R1.ins,T.de,T.dM,rfl,_,rfl,L.wt,_,_,_,rfl,rfl,SqL.of h1,Fj _ _,ae,_,_,_,rfl,rfl,SqT.of h4,cX (j:=1) rfl,
    L.tg,_,_,o,rfl,rfl,R1.tgs,pJ (by rw[List.length_map,uH];exact ho),?_⟩
   rw[show (st.tg.map fun (n:Nat)=>V.int (n:Int)).set o ((fun (i j:Int)=>V.int (i+j)) (i:Int) 1)=(st.tg.set o (i+1)).map fun (n:Nat)=>V.int (n:Int)from rl st.tg o (i+1)]
   have R2:=R1.tO (tg':=st.tg.set o (i+1));refine⟨_,rfl,L.r,L.dx,_,rfl,R2.ins,rfl,_,rfl,L,n,l,kb,kn,_,_,i,x,rfl,R2,hx,by omega,fun H1 R3 K=>?_⟩
   rw[fj (s:=Str.ofString "else") hk (by decide+kernel)]at R3
   refine k H1 ⟨⟨kb,kn,R3,hB,hNm,by omega⟩,?_,by simp[uH],fun e he=>?_⟩ ((dj.d7 (dj.refl _ _) (by simp[mu])).trans K)
   .show (jG (Pz.Ent.kl o i)++flat r).length<=m+1;rw[List.length_append]at hfl⊢;simp[jG]at hfl⊢;omega
   .have he:e∈(Str.ofString "else",i)::(jG (Pz.Ent.iff o)++flat r):=he;rcases ag.mp he with rfl|he
    .exact hi
    .exact v9 e he
 .rename_i nM
  have hno:((flat st.wait).head?.any fun e=>e.1==Str.ofString "if")=false:=by
   cases e:st.wait with
   |nil=>rfl
   |cons b w=>
    cases b with
    |colon o=>rfl
    |iff o=>exact absurd e (nM o w)
    |kl o e'=>rfl
    |whl o=>rfl
    |j5 o d=>rfl
  rw[hno];exact fm (k H (.refl _ _))
abbrev wO:Stmt:=top 103
theorem Io:cW ["reading","index"] ["reading","index"] (cS wO):=fsc
theorem Ip (T:Tx c A) (D:Df c "read_do" wO ["reading","index"] A.jq) (dC:dA c 1 A.cZ "waits_last" (ju A))
  (eS:dA c 2 A.cZ "wait" (sr A)):Good c 3 "read_do" A.jq (iF A (·=26)):=by
 refine D.good Io ?_;rintro X H _ Q E rfl a sn hr ⟨L,n,l,m,st,i,x,j,rfl,R,hx,hk,rfl,hm,hl,k⟩;refine⟨_,(cN (dX (lr (fJ (pm_ T.de dC (hmo hr) (vr sn 0) (cK gk cO)))) (cQ (cV (pc_ T.gU (gl sn)))) dr) (cN (dH (pm_ T.de eS (hmo hr) (vr sn 0) (cK (vr sn 1) cO))) (cQ (cV (pc_ T.dB (gl sn)))))),?_⟩;obtain⟨⟨kb,kn,R1,hB,hNm,hkn⟩,hfl,uH,v9⟩:=R;have hi:=(aa.mp hx).1;refine⟨_,rfl,L.r,L.dx,_,rfl,R1.ins,rfl,L,n,l,kb,kn,flat st.wait,st.tg,Str.ofString "while",rfl,R1,by omega,_,rfl,?_⟩
 have k:Res A H L n l m Q (Pz.qY i st):=k;unfold Pz.qY at k;split at k
 .rename_i o r e
  rw[e,jZ]at R1 hfl v9;rw[e];refine ddn (fun h=>?_) (fun _=>?_)
  .rw[show ((flat (Pz.Ent.whl o::r)).head?.any fun e=>e.1==Str.ofString "while")=true from NS o r]at h;cases h
  .refine⟨_,rfl,L.r,L.dx,_,rfl,R1.ins,rfl,_,rfl,L,n,l,kb,kn,_,_,i,x,rfl,R1,hx,by omega,fun H1 R3 K=>?_⟩
   rw[fj (s:=Str.ofString "do") hk (by decide+kernel)]at R3
   refine k H1 ⟨⟨kb,kn,R3,hB,hNm,by omega⟩,?_,uH,fun e he=>?_⟩ K
   .show (jG (Pz.Ent.j5 o i)++flat r).length<=m+1;rw[List.length_append]at hfl⊢;simp[jG]at hfl⊢;omega
   .have he:e∈(Str.ofString "do",i)::(jG (Pz.Ent.whl o)++flat r):=he;rcases ag.mp he with rfl|he
    .exact hi
    .exact v9 e he
 .rename_i nM
  have hno:((flat st.wait).head?.any fun e=>e.1==Str.ofString "while")=false:=by
   cases e:st.wait with
   |nil=>rfl
   |cons b w=>
    cases b with
    |colon o=>rfl
    |iff o=>rfl
    |kl o e'=>rfl
    |whl o=>exact absurd e (nM o w)
    |j5 o d=>rfl
  rw[hno];exact fm (k H (.refl _ _))
abbrev tQ:Stmt:=top 104
theorem Gh:cW ["reading","index"] ["reading","index"] (cS tQ):=fsc
theorem Gi (T:Tx c A) (D:Df c "read_end" tQ ["reading","index"] A.iN) (dC:dA c 1 A.cZ "waits_last" (ju A))
  (eV:dA c 1 A.cZ "waited" (sy A)):Good c 2 "read_end" A.iN (iF A (·=24)):=by
 refine D.good Gh ?_;rintro X H _ Q E rfl a sn hr ⟨L,n,l,m,st,i,x,j,rfl,R,hx,hk,rfl,hm,hl,k⟩;refine⟨_,(cN (dX (fJ (pm_ T.de dC (hmo hr) (vr sn 0) (cK gk cO))) (cN (qM (fB iH (vr sn 1) cT) (qL (df (vr sn 0) rfl) (F7 T.de eV (hmo hr) (vr sn 0)) set_list (fun _=>rfl))) (cQ (cV (pc_ T.dB (gl sn))))) dr) (cN (dX (fJ (pm_ T.de dC (hmo hr) (vr sn 0) (cK gk cO))) (cN (qM (fB iH (vr sn 1) cT) (qL (df (vr sn 0) rfl) (F7 T.de eV (hmo hr) (vr sn 0)) set_list (fun _=>rfl))) (cN (dH (F7 T.de eV (hmo hr) (vr sn 0))) (cQ (cV (pc_ T.dB (gl sn)))))) dr) (cN (dX (fJ (pm_ T.de dC (hmo hr) (vr sn 0) (cK gk cO))) (cN (qM (fB iH (vr sn 1) cT) (qL (df (vr sn 0) rfl) (F7 T.de eV (hmo hr) (vr sn 0)) set_list (fun _=>rfl))) (cN (qM (F7 T.de eV (hmo hr) (vr sn 0)) (qL (df (vr sn 0) rfl) (vr sn 1) set_list (fun _=>rfl))) (cQ (cV (pc_ T.dB (gl sn)))))) dr) (cQ (cV (pc_ T.gU (gl sn))))))),?_⟩
 obtain⟨⟨kb,kn,R1,hB,hNm,hkn⟩,hfl,uH,v9⟩:=R;have hi:=(aa.mp hx).1;have k:Res A H L n l m Q (Pz.nQ i st):=k;unfold Pz.nQ at k;have sets:∀o,(st.tg.map fun (n:Nat)=>V.int (n:Int)).set o ((fun (i j:Int)=>V.int (i+j)) (i:Int) 1)=(st.tg.set o (i+1)).map fun (n:Nat)=>V.int (n:Int):=fun o=>rl st.tg o (i+1)
 refine⟨_,rfl,L.r,L.dx,_,rfl,R1.ins,rfl,L,n,l,kb,kn,flat st.wait,st.tg,Str.ofString "if",rfl,R1,by omega,_,rfl,?_⟩
 have second:∀b,hw st.wait (Str.ofString "if")=b->_:=fun b e=>e
 split at k
 .rename_i o r e
  rw[e,jZ]at R1 hfl v9;rw[e,show ((flat (Pz.Ent.iff o::r)).head?.any fun e=>e.1==Str.ofString "if")=true from Gg o r]
  have ho:o<l.length:=v9 (Str.ofString "if",o) (by simp[jG])
  refine fm ⟨_,rfl,_,_,rfl,rfl,_,rfl,L.r,_,L.dx,_,_,rfl,R1.ins,T.de,T.dW,rfl,_,rfl,L.r,L.dx,_,rfl,R1.ins,rfl,L,n,l,kb,kn,_,flat r,st.tg,rfl,R1,fun H1 R2 K=>?_⟩
  refine⟨L.tg,_,_,o,rfl,rfl,R2.tgs,pJ (by rw[List.length_map,uH];exact ho),?_⟩
  rw[sets];refine k _ ⟨⟨kb,kn,R2.tO,hB,hNm,by omega⟩,?_,by simp[uH],fun e he=>v9 e (ba _ he)⟩ (dj.d7 K (by simp[mu]))
  rw[List.length_append]at hfl;show (flat r).length<=m+1;omega
 .rename_i o e' r e
  rw[e,jZ]at R1 hfl v9;rw[e,show ((flat (Pz.Ent.kl o e'::r)).head?.any fun e=>e.1==Str.ofString "if")=false from rfl]
  have ho:e'<l.length:=v9 (Str.ofString "else",e') (by simp[jG])
  refine eY ⟨_,rfl,L.r,L.dx,_,rfl,R1.ins,rfl,L,n,l,kb,kn,_,st.tg,Str.ofString "else",rfl,R1,by omega,_,rfl,?_⟩
  rw[show ((jG (Pz.Ent.kl o e')++flat r).head?.any fun e=>e.1==Str.ofString "else")=true from DR o e' r]
  refine fm ⟨_,rfl,_,_,rfl,rfl,_,rfl,L.r,_,L.dx,_,_,rfl,R1.ins,T.de,T.dW,rfl,_,rfl,L.r,L.dx,_,rfl,R1.ins,rfl,L,n,l,kb,kn,_,(Str.ofString "if",o)::flat r,st.tg,rfl,R1,fun H1 R2 K=>?_⟩
  refine⟨L.tg,_,_,e',rfl,rfl,R2.tgs,pJ (by rw[List.length_map,uH];exact ho),?_⟩
  rw[sets];have R3:=R2.tO (tg':=st.tg.set e' (i+1));refine⟨_,rfl,L.r,L.dx,_,rfl,R3.ins,rfl,L,n,l,kb,kn,_,flat r,_,rfl,R3,fun H2 R4 K2=>?_⟩
  refine k _ ⟨⟨kb,kn,R4,hB,hNm,by omega⟩,?_,by simp[uH],fun e he=>v9 e (ba _ he)⟩ ((dj.d7 K (by simp[mu])).trans K2)
  rw[List.length_append]at hfl;show (flat r).length<=m+1;omega
 .rename_i o d r e
  rw[e,jZ]at R1 hfl v9;rw[e,show ((flat (Pz.Ent.j5 o d::r)).head?.any fun e=>e.1==Str.ofString "if")=false from rfl]
  have ho:d<l.length:=v9 (Str.ofString "do",d) (by simp[jG])
  refine eY ⟨_,rfl,L.r,L.dx,_,rfl,R1.ins,rfl,L,n,l,kb,kn,_,st.tg,Str.ofString "else",rfl,R1,by omega,_,rfl,?_⟩
  rw[show ((jG (Pz.Ent.j5 o d)++flat r).head?.any fun e=>e.1==Str.ofString "else")=false from rfl]
  refine eY ⟨_,rfl,L.r,L.dx,_,rfl,R1.ins,rfl,L,n,l,kb,kn,_,st.tg,Str.ofString "do",rfl,R1,by omega,_,rfl,?_⟩
  rw[show ((jG (Pz.Ent.j5 o d)++flat r).head?.any fun e=>e.1==Str.ofString "do")=true from Vi o d r]
  refine fm ⟨_,rfl,_,_,rfl,rfl,_,rfl,L.r,_,L.dx,_,_,rfl,R1.ins,T.de,T.dW,rfl,_,rfl,L.r,L.dx,_,rfl,R1.ins,rfl,L,n,l,kb,kn,_,(Str.ofString "while",o)::flat r,st.tg,rfl,R1,fun H1 R2 K=>?_⟩
  refine⟨L.tg,_,_,d,rfl,rfl,R2.tgs,pJ (by rw[List.length_map,uH];exact ho),?_⟩
  rw[sets];have R3:=R2.tO (tg':=st.tg.set d (i+1));refine⟨_,rfl,L.r,L.dx,_,rfl,R3.ins,rfl,L,n,l,kb,kn,_,flat r,_,rfl,R3,fun H2 R4 K2=>?_⟩
  refine⟨_,rfl,L.r,_,L.dx,_,_,rfl,R4.ins,T.de,T.dW,rfl,_,rfl,L.tg,_,_,i,rfl,rfl,R4.tgs,pJ (by rw[List.length_map,bF,uH];exact hi),?_⟩
  rw[show ((st.tg.set d (i+1)).map fun (n:Nat)=>V.int (n:Int)).set i (V.int (((Str.ofString "while",o):Str×Nat).2:Int))=((st.tg.set d (i+1)).set i o).map fun (n:Nat)=>V.int (n:Int)from rl _ i o]
  refine k _ ⟨⟨kb,kn,R4.tO,hB,hNm,by omega⟩,?_,by simp[uH],fun e he=>v9 e (ba _ he)⟩ (dj.d7 ((dj.d7 K (by simp[mu])).trans K2) (by simp[mu]))
  rw[List.length_append]at hfl;show (flat r).length<=m+1;omega
 .rename_i n1 n2 n3
  have t:∀s:Str,(s=Str.ofString "if"\/s=Str.ofString "else"\/s=Str.ofString "do")->((flat st.wait).head?.any fun e=>e.1==s)=false:=by
   intro s hs;cases e:st.wait with
   |nil=>rfl
   |cons b w=>
    cases b with
    |colon o=>rcases hs with rfl|rfl|rfl<;>rfl
    |iff o=>exact absurd e (n1 o w)
    |kl o e'=>exact absurd e (n2 o e' w)
    |whl o=>rcases hs with rfl|rfl|rfl<;>rfl
    |j5 o d=>exact absurd e (n3 o d w)
  rw[t _ (.inl rfl)];refine eY ⟨_,rfl,L.r,L.dx,_,rfl,R1.ins,rfl,L,n,l,kb,kn,_,st.tg,Str.ofString "else",rfl,R1,by omega,_,rfl,?_⟩
  rw[t _ (.inr (.inl rfl))];refine eY ⟨_,rfl,L.r,L.dx,_,rfl,R1.ins,rfl,L,n,l,kb,kn,_,st.tg,Str.ofString "do",rfl,R1,by omega,_,rfl,?_⟩
  rw[t _ (.inr (.inr rfl))];exact eY (k H (.refl _ _))
end
theorem Gj (a b:List Pz.Ent):flat (a++b)=flat a++flat b:=by unfold flat;rw[List.flatMap_append]
theorem NU {w:List Pz.Ent} (h:w≠ []):∃e rest,(flat w).reverse=e::rest/\(e.1==Str.ofString ":")=Pz.fI w:=by
 have hl:=W7 h;have hi:Pz.fI w=(w.getLast h).kF:=by unfold Pz.fI;rw[List.getLast?_eq_some_getLast h]
 have hf:(flat w).reverse=(jG (w.getLast h)).reverse++(flat w.dropLast).reverse:=by
  conv=>lhs;rw[<-hl]
  rw[Gj,WA];simp[flat]
 rw[hi,hf];cases w.getLast h with
 |colon o=>exact⟨_,_,rfl,bT _⟩
 |iff o=>exact⟨_,_,rfl,rfl⟩
 |kl o e=>exact⟨_,_,rfl,rfl⟩
 |whl o=>exact⟨_,_,rfl,rfl⟩
 |j5 o d=>exact⟨_,_,rfl,rfl⟩
theorem Gk (t:Lo.Tok):isNm (Km.dQ t.b)=Lo.isName t:=by
 have e:Lo.isName t=true↔isNm (Km.dQ t.b)=true:=by
  rw[Pz.jd,Km.il];unfold isNm;cases Km.kc (Km.dQ t.b)with
  |num e h=>
   rw[e]
   constructor
   .intro q;cases q
   .intro q
    exfalso
    rw[aH]at q;have hl:=q.1;generalize Km.dQ t.b=w at h hl;unfold Km.lets at hl;simp only[aH,aY]at hl;unfold Km.isNum Km.mE at h;simp only[aH,aY]at h;cases w with
    |nil=>simp at hl
    |cons a r=>
     have ha:Km.isL a=true:=bJ.mp hl.2.2 a aC;unfold Km.fK at h;split at h
     .rename_i r' e';injection e' with e' _;subst e';exact absurd ha (by decide)
     .have hd:Km.isD a=true:=bJ.mp h.2.2 a aC;unfold Km.isL at ha;unfold Km.isD at hd;simp at ha hd;omega
  |op n e h _ _=>rw[e,aI (aP h)];simp
  |get d e hw _=>
   rw[e,hw]
   constructor
   .intro q;cases q
   .intro q;rw[aH]at q;exact absurd q.1 (by simp[Km.lets,Km.isL])
  |set d e hw _=>
   rw[e,hw]
   constructor
   .intro q;cases q
   .intro q;rw[aH]at q;exact absurd q.1 (by simp[Km.lets,Km.isL])
  |name e h1 h2 _ _=>rw[e,h1,ao h2];simp
  |none_ e h1 _ _ _=>rw[e,h1];simp
 cases q:Lo.isName t with
 |true=>exact e.mp q
 |false=>
  cases q2:isNm (Km.dQ t.b)with
  |false=>rfl
  |true=>rw[e.mpr q2]at q;cases q
section
variable {c:Ct} {A:Ad}
abbrev pL:Stmt:=top 105
theorem Bx:cW ["reading","index"] ["reading","index"] (cS pL):=fsc
theorem By (T:Tx c A) (D:Df c "read_leave" pL ["reading","index"] A.fZ):Good c 1 "read_leave" A.fZ (iF A (·=29)):=by
 refine D.good Bx ?_;rintro X H _ Q E rfl a sn hr ⟨L,n,l,m,st,i,x,j,rfl,R,hx,hk,rfl,hm,hl,k⟩;refine⟨_,(cN (dX (Mv (iK iR (dv dk (gl sn) T.fE PySem.boot_len (cK (df (vr sn 0) rfl) cO)) cT) (Hn (iK Cw (ixT (ixL (df (vr sn 0) rfl) cT) cT) gk))).pt (cQ (cV (pc_ T.gU (gl sn)))) dr) (cQ (cV (pc_ T.dB (gl sn))))),?_⟩;have R0:=R;obtain⟨⟨kb,kn,R1,hB,hNm,hkn⟩,hfl,uH,v9⟩:=R;obtain⟨as,h1,h2⟩:=R1.wts;have hlen:(as.map V.ref).length=(flat st.wait).length:=by rw[List.length_map,Paired.length h2,aB]
 have k:Res A H L n l m Q (Pz.jU st):=k;unfold Pz.jU at k;refine⟨_,rfl,L.r,_,L.dx,_,_,rfl,R1.ins,T.de,T.dM,rfl,L.wt,_,rfl,.inl (SqL.of h1),rfl,_,rfl,?_⟩;rw[hlen];by_cases hw:st.wait= []
 .rw[hw]at k⊢;rw[aj (by decide)]at k
  rw[show decide (V.int (((flat []).length:Nat):Int)=V.int 0)=true by decide]
  exact fm (fm (k H (.refl _ _)))
 .obtain⟨e,rest,he,hb⟩:=NU hw;have hpos:(flat st.wait).length≠0:=by
   intro q;have:=congrArg List.length he;rw[aB,q]at this;simp at this
  rw[show decide (V.int (((flat st.wait).length:Nat):Int)=V.int 0)=false from ao (fun q=>hpos (by injection q with q;omega))]
  rw[he]at h2;cases h2 with
  |cons h3 h4=>
   refine eY ⟨_,rfl,L.r,_,L.dx,_,_,rfl,R1.ins,T.de,T.dM,rfl,L.wt,_,_,_,rfl,rfl,SqL.of h1,cX (j:=0) rfl,_,_,_,_,rfl,rfl,SqT.of h3,cX (j:=0) rfl,rfl,_,rfl,?_⟩;rw[rV,hb];refine ddn (fun q=>?_) (fun q=>?_)
   .rw[q]at k;rw[aj (by decide)]at k
    exact k H (.refl _ _)
   .rw[q,aq rfl]at k;exact k H (R0.mono (X1 _)) (.refl _ _)
abbrev pM:Stmt:=top 107
theorem Bz:cW ["reading","index","name"] ["reading","index"] (cS pM):=fsc
inductive Ai (A:Ad) (vs:List V) (H:Hp) (Q:VK) (E:XK):Prop
 |mk:∀L n l m st k x,vs= [.ref (RL.r L),.int ((k:Nat):Int)]->qr A H L n l m st->l[k]?=some x->(Lo.Tok.b x).length<=10000->m<=5000->Res A H L n l m Q (Pz.jn x st)->Ai A vs H Q E
theorem Aj (t:Lo.Tok):(dZ t).length=t.b.length:=by rw[j8,jj];unfold Km.dQ;rw[List.length_map]
theorem vD (t:Lo.Tok):okc (dZ t):=Nw (jj t)
theorem BA (T:Tx c A) (D:Df c "read_named" pM ["reading","index"] A.jW) (dG:dA c 1 A.cZ "spelling" (jN A)) (ic:Good c 1 "is_name" A.jV lD):
  Good c 2 "read_named" A.jW (Ai A):=by
 refine D.good Bz ?_;rintro X H _ Q E rfl a sn hr ⟨L,n,l,m,st,i,x,rfl,R,hx,hxl,hm,k⟩;refine⟨_,(cN (pSt sn 2 (pm_ T.de dG (hmo hr) (vr sn 0) (cK (vr sn 1) cO))) (cN (dX (lr (fJ (pf_ ic (hmo hr) (gl sn) (cK (vr sn 2) cO)))) (cQ (cV (pc_ T.gU (gl sn)))) dr) (cN (dX (C9 (SH (CG hr) (vr sn 2) (df (vr sn 0) rfl))) (cQ (cV (pc_ T.DG (gl sn)))) dr) (cN (Kl (CG hr) (df (vr sn 0) rfl) (vr sn 2) E8 rfl) (cQ (cV (pc_ T.dB (gl sn)))))))),?_⟩;obtain⟨⟨kb,kn,R1,hB,hNm,hkn⟩,hfl,uH,v9⟩:=R;refine⟨_,rfl,L.r,L.dx,_,rfl,R1.ins,rfl,_,rfl,L,n,l,kb,kn,_,_,i,x,rfl,R1,hx,_,rfl,dZ x,rfl,vD x,by rw[Aj];exact hxl,_,rfl,?_⟩
 rw[jj,Gk];unfold Pz.jn at k;refine ddn (fun q=>?_) (fun q=>?_)
 .rw[q,aj (by decide)]at k
  exact k H (.refl _ _)
 rw[q,aq rfl]at k;have hkind:=Pz.jd.mp q;refine⟨_,rfl,_,rfl,L.r,_,L.dx,_,_,rfl,R1.ins,T.de,T.fS,rfl,L.nr,_,rfl,sF.k (k:=.inr (dZ x)) R1.nam,_,rfl,?_⟩;rw[hNm x hkind];refine uS (fun hb=>?_) (fun hb=>?_)
 .rw[aq (aQ hb)]at k;exact k H (.refl _ _)
 .have hb:¬x.b∈st.names:=fun z=>hb (aI z)
  rw[aj hb]at k;refine⟨_,rfl,L.r,_,L.dx,_,_,rfl,R1.ins,T.de,T.fS,rfl,_,rfl,L.nr,_,rfl,Lg.k (k:=.inr (dZ x)) R1.nam (aE (ai hkn hm) (by decide)),?_⟩
  refine k _ ⟨⟨kb,_,R1.Tb,hB,fun t ht=>?_,?_⟩,by show (flat st.wait).length<=m+1;omega,uH,v9⟩ (dj.d7 (dj.refl _ _) (by simp[mu]))
  .rw[MT];by_cases qt:t.b=x.b
   .have:dZ t=dZ x:=by unfold dZ;rw[qt]
    rw[this,aq rfl];exact(aI (by show t.b∈x.b::st.names;rw[qt];exact aC)).symm
   .have nM:(Sum.inr (dZ t):Key)≠ .inr (dZ x):=fun e=>qt (CU (by injection e with e;exact congrArg tl e) hkind)
    rw[aj nM,hNm t ht];exact decide_eq_decide.mpr ⟨fun h=>ak _ h,fun h=>by
     rcases ag.mp h with h|h
     .exact absurd h qt
     .exact h⟩
  .exact ai (qV _ _ _) (by omega)
abbrev rp:Stmt:=top 108
theorem DU:cW ["reading","index","name"] ["reading","index"] (cS rp):=fsc
inductive DV (A:Ad) (vs:List V) (H:Hp) (Q:VK) (E:XK):Prop
 |mk:∀L n l m st k x,vs= [.ref (RL.r L),.int ((k:Nat):Int)]->qr A H L n l m st->l[k]?=some x->Lo.kindOf (Lo.Tok.b x)= .name->Res A H L n l m Q (Pz.kG l k x st)->DV A vs H Q E
theorem DW (T:Tx c A) (D:Df c "read_name" rp ["reading","index"] A.ku) (dG:dA c 1 A.cZ "spelling" (jN A)):Good c 2 "read_name" A.ku (DV A):=by
 refine D.good DU ?_;rintro X H _ Q E rfl a sn hr ⟨L,n,l,m,st,i,x,rfl,R,hx,hk,k⟩;refine⟨_,(cN (pSt sn 2 (pm_ T.de dG (hmo hr) (vr sn 0) (cK (vr sn 1) cO))) (cN (dX (C9 (Lj (CG hr) (vr sn 2) (df (vr sn 0) rfl))) (cQ (cV (pc_ T.z0 (gl sn)))) dr) (cN (qM (PD (CG hr) (df (vr sn 0) rfl) (vr sn 2) (fun _ _=>rfl)) (qL (df (vr sn 0) rfl) (vr sn 1) set_list (fun _=>rfl))) (cQ (cV (pc_ T.dB (gl sn))))))),?_⟩
 obtain⟨⟨kb,kn,R1,hB,hNm,hkn⟩,hfl,uH,v9⟩:=R;have hi:=(aa.mp hx).1;have hb:fC kb (.inr (dZ x))=(Lo.bodyOf l x.b).map fun j=>V.int ((j+1:Nat):Int):=by rw[hB (dZ x),NQ hk]
 refine⟨_,rfl,L.r,L.dx,_,rfl,R1.ins,rfl,_,rfl,L,n,l,kb,kn,_,_,i,x,rfl,R1,hx,_,rfl,_,rfl,L.r,_,L.dx,_,_,rfl,R1.ins,T.de,T.iD,rfl,L.b,_,rfl,sF.k (k:=.inr (dZ x)) R1.bod,_,rfl,?_⟩;unfold Pz.kG at k;cases e:Lo.bodyOf l x.b with
 |none=>
  rw[e]at hb k;rw[hb];exact fm (k H (.refl _ _))
 |some j=>
  rw[e]at hb k;rw[hb];have hd:sF H L.b (.str (dZ x)) (some (V.int ((j+1:Nat):Int))):=by
   have:=sF.k (k:=.inr (dZ x)) R1.bod
   rw[hb]at this;exact this
  refine eY ⟨_,rfl,L.r,_,L.dx,_,_,rfl,R1.ins,T.de,T.iD,rfl,_,rfl,L.b,_,rfl,hd,_,rfl,L.r,_,L.dx,_,_,rfl,R1.ins,T.de,T.dW,rfl,_,rfl,L.tg,_,_,i,rfl,rfl,R1.tgs,pJ (by rw[List.length_map,uH];exact hi),?_⟩
  rw[rl];exact k _ ⟨⟨kb,kn,R1.tO,hB,hNm,by omega⟩,by show (flat st.wait).length<=m+1;omega,by simp[uH],v9⟩ (dj.d7 (dj.refl _ _) (by simp[mu]))
end
theorem NV:∀y∈oO,∃j,j<30/\22<=j/\Km.OPN[j]?=some (tl y):=by decide+kernel
theorem NW {A:Ad} {x:Lo.Tok} (h:∀j,Lo.kindOf x.b= .op j->j<22):fC (dS A) (.inr (dZ x))=none:=by
 cases e:fC (dS A) (.inr (dZ x))with
 |none=>rfl
 |some v=>
  have hm:=y8 e;rw[sG]at hm;obtain⟨y,hy,q⟩:=bx.mp hm;injection q with q;obtain⟨j,h1,h2,h3⟩:=NV y hy
  rw[q,jj]at h3;have:=h j (DQ.mpr h3);omega
theorem NX (A:Ad):
  fC (dS A) (.inr (Str.ofString "if"))=some (.ref A.eA)/\fC (dS A) (.inr (Str.ofString "else"))=some (.ref A.gT)/\
  fC (dS A) (.inr (Str.ofString "end"))=some (.ref A.iN)/\fC (dS A) (.inr (Str.ofString "while"))=some (.ref A.eA)/\
  fC (dS A) (.inr (Str.ofString "do"))=some (.ref A.jq)/\fC (dS A) (.inr (Str.ofString ":"))=some (.ref A.fY)/\
  fC (dS A) (.inr (Str.ofString ";"))=some (.ref A.eT)/\fC (dS A) (.inr (Str.ofString "leave"))=some (.ref A.fZ):=
 ⟨rfl,rfl,rfl,rfl,rfl,rfl,rfl,rfl⟩
theorem dO {X:Cx} {k k':Nat} {x:Str} {f:Addr} {sp:Sp} (G:Good (ct X) k x f sp) (hr:iI k' X.A) (h:k<=k'):Can X f sp/\PySem.W.keepIn X.K (.ref f)=true:=by
 obtain⟨fd,ps,h1,h2,h3,h4⟩:=G;exact⟨⟨k,fd,ps,h1,hr.mono h,h2⟩,h3⟩
theorem mV {b:Lo.Bytes} {j:Nat} (h:Lo.kindOf b= .op j):j<30:=(aa.mp (DQ.mp h)).1
section
variable {c:Ct} {A:Ad}
abbrev rq:Stmt:=top 109
theorem DX:cW ["reading","index","word","reader"] ["reading","index"] (cS rq):=fsc
inductive pN (A:Ad) (vs:List V) (H:Hp) (Q:VK) (E:XK):Prop
 |mk:∀L n l m st k x,vs= [.ref (RL.r L),.int ((k:Nat):Int)]->qr A H L n l m st->l[k]?=some x->(Lo.Tok.b x).length<=10000->m<=5000->l.length<=5000->Res A H L n l m Q (Pz.step l k x st)->pN A vs H Q E
theorem DY (T:Tx c A) (D:Df c "read_word" rq ["reading","index"] A.ky) (dG:dA c 1 A.cZ "spelling" (jN A))
  (ib:dA c 2 A.cZ "is_behind_colon" (ke A)) (wQ:Good c 2 "is_word" A.mS tK) (ic:Good c 1 "is_name" A.jV lD)
  (iE:Good c 1 "is_number" A.ja kL) (jv:Good c 1 "is_in_range" A.iL kK) (pO:Good c 2 "read_named" A.jW (Ai A))
  (rA:Good c 2 "read_name" A.ku (DV A)) (G27:Good c 3 "read_colon" A.fY (iF A (·=27))) (G28:Good c 2 "read_semicolon" A.eT (iF A (·=28)))
  (G22:Good c 3 "read_opening" A.eA (iF A (fun j=>j=22\/j=25))) (G23:Good c 3 "read_else" A.gT (iF A (·=23))) (G26:Good c 3 "read_do" A.jq (iF A (·=26)))
  (G24:Good c 2 "read_end" A.iN (iF A (·=24))) (G29:Good c 1 "read_leave" A.fZ (iF A (·=29))):Good c 4 "read_word" A.ky (pN A):=by
 refine D.good DX ?_;rintro X H _ Q E rfl a sn hr ⟨L,n,l,m,st,i,x,rfl,R0,hx,hxl,hm,hl,k⟩;refine⟨_,(cN (pSt sn 2 (pm_ T.de dG (hmo hr) (vr sn 0) (cK (vr sn 1) cO))) (cN (dX (lr (fJ (pf_ wQ (hmo hr) (gl sn) (cK (vr sn 2) cO)))) (cQ (cV (pc_ T.LB (gl sn)))) dr) (cN (dX (fJ (pm_ T.de ib (hmo hr) (vr sn 0) (cK (vr sn 1) cO))) (cQ (cV (pf_ pO (hmo hr) (gl sn) (cK (vr sn 0) (cK (vr sn 1) cO))))) dr) (cN (dX (C9 (Nu (vr sn 2) (pc_ T.fq (gl sn)))) (cN (pSt sn 3 (zg (pc_ T.fq (gl sn)) (vr sn 2) (fun _ _=>rfl))) (cQ (cV (zX 3 (cK (vr sn 0) (cK (vr sn 1) cO)) (nx sn 3) (nq sn 3).v)))) dr) (cN (dX (fJ (pf_ ic (hmo hr) (gl sn) (cK (vr sn 2) cO))) (cQ (cV (pf_ rA (hmo hr) (gl sn) (cK (vr sn 0) (cK (vr sn 1) cO))))) dr) (cN (dX (Ho (fJ (pf_ iE (hmo hr) (gl sn) (cK (vr sn 2) cO))) (Dc (lr (fJ (pf_ jv (hmo hr) (gl sn) (cK (mP uR (gl sn) T.RN boot_int (cK (vr sn 2) cO)) cO)))))).pt (cQ (cV (pc_ T.yo (gl sn)))) dr) (cQ (cV (pc_ T.dB (gl sn)))))))))),?_⟩
 have R:=R0;obtain⟨⟨kb,kn,R1,hB,hNm,hkn⟩,hfl,uH,v9⟩:=R;have hwl:(dZ x).length<=10000:=by rw[Aj];exact hxl
 refine⟨_,rfl,L.r,L.dx,_,rfl,R1.ins,rfl,_,rfl,L,n,l,kb,kn,_,_,i,x,rfl,R1,hx,_,rfl,dZ x,rfl,vD x,hwl,_,rfl,?_⟩;rw[jj];have kO:=Km.il x.b;unfold Pz.step at k;by_cases kC:Lo.kindOf x.b= .none_
 .rw[kC]at k;have:LF (Km.dQ x.b)=false:=by
   rw[kO]at kC;unfold LF isNm;cases Km.kc (Km.dQ x.b)with
   |num e _=>rw[e]at kC;cases kC
   |op j e _ _ _=>rw[e]at kC;cases kC
   |get d e _ _=>rw[e]at kC;cases kC
   |set d e _ _=>rw[e]at kC;cases kC
   |name e _ _ _ _=>rw[e]at kC;cases kC
   |none_ e h1 h2 h3 h4=>rw[ao h2,h1,h3,h4];rfl
  rw[this];exact fm (k H (.refl _ _))
 have hwd:LF (Km.dQ x.b)=true:=by
  rw[kO]at kC;unfold LF isNm;cases Km.kc (Km.dQ x.b)with
  |num e h=>rw[h];simp
  |op j e h _ _=>rw[aI (aP h)];rfl
  |get d e hw hL=>rw[hw];simp[Km.isVar,hL]
  |set d e hw hL=>rw[hw];simp[Km.isVar,hL]
  |name e h1 h2 _ _=>rw[h1,ao h2];simp
  |none_ e _ _ _ _=>exact absurd e kC
 rw[hwd];refine eY ⟨_,rfl,L.r,L.dx,_,rfl,R1.ins,rfl,_,rfl,L,n,l,kb,kn,_,_,i,x,rfl,R1,hx,_,rfl,?_⟩;have k:Res A H L n l m Q (if Lo.defines l i=true then Pz.jn x st else match Lo.kindOf x.b with
   | .op j=>Pz.jc i j st
   | .name=>Pz.kG l i x st
   | .number z=>if Lo.isValue z=true then .ok st else .error 5
   |_=>.ok st):=by
  revert k
  cases e:Lo.kindOf x.b with
  |none_=>exact absurd e kC
  |_=>exact fun z=>z
 refine dd (fun hd=>?_) (fun hd=>?_)
 .rw[hd,aq rfl]at k;exact⟨_,rfl,_,rfl,L,n,l,m,st,i,x,rfl,R0,hx,hxl,hm,k⟩
 rw[hd,aj (by decide)]at k
 refine⟨_,rfl,_,_,rfl,⟨_,.inr (dZ x),T.qo,rfl,rfl⟩,_,rfl,?_⟩;by_cases hsh:∃j,Lo.kindOf x.b= .op j/\22<=j
 .obtain⟨j,hj,hj22⟩:=hsh;have hj30:=mV hj;rw[hj]at k;have k:Res A H L n l m Q (Pz.jc i j st):=k;obtain⟨p1,p2,p3,p4,p5,p6,p7,p8⟩:=NX A;have cs:j=22\/j=23\/j=24\/j=25\/j=26\/j=27\/j=28\/j=29:=by omega
  obtain⟨f,S,hv,hS',hG⟩:∃(f:Addr) (S:Nat->Prop),fC (dS A) (.inr (dZ x))=some (.ref f)/\S j/\Can X f (iF A S)/\PySem.W.keepIn X.K (.ref f)=true:=by
   rcases cs with rfl|rfl|rfl|rfl|rfl|rfl|rfl|rfl
   .exact⟨A.eA,_,by rw[fj (s:=Str.ofString "if") hj (by decide+kernel)];exact p1,.inl rfl,dO G22 hr (by decide)⟩
   .exact⟨A.gT,(·=23),by rw[fj (s:=Str.ofString "else") hj (by decide+kernel)];exact p2,rfl,dO G23 hr (by decide)⟩
   .exact⟨A.iN,(·=24),by rw[fj (s:=Str.ofString "end") hj (by decide+kernel)];exact p3,rfl,dO G24 hr (by decide)⟩
   .exact⟨A.eA,_,by rw[fj (s:=Str.ofString "while") hj (by decide+kernel)];exact p4,.inr rfl,dO G22 hr (by decide)⟩
   .exact⟨A.jq,(·=26),by rw[fj (s:=Str.ofString "do") hj (by decide+kernel)];exact p5,rfl,dO G26 hr (by decide)⟩
   .exact⟨A.fY,(·=27),by rw[fj (s:=Str.ofString ":") hj (by decide+kernel)];exact p6,rfl,dO G27 hr (by decide)⟩
   .exact⟨A.eT,(·=28),by rw[fj (s:=Str.ofString ";") hj (by decide+kernel)];exact p7,rfl,dO G28 hr (by decide)⟩
   .exact⟨A.fZ,(·=29),by rw[fj (s:=Str.ofString "leave") hj (by decide+kernel)];exact p8,rfl,dO G29 hr (by decide)⟩
  rw[hv];refine fm ⟨_,rfl,_,_,rfl,⟨_,.inr (dZ x),T.qo,rfl,hv.symm⟩,f,rfl,hG.2,_,rfl,_,rfl,iF A S,hG.1,?_⟩;exact⟨L,n,l,m,st,i,x,j,rfl,R0,hx,hj,hS',hm,hl,k⟩
 .rw[NW (A:=A) (fun j hj=>by
   by_cases q:22<=j
   .exact absurd ⟨j,hj,q⟩ hsh
   .omega)]
  refine eY ⟨_,rfl,dZ x,rfl,vD x,hwl,_,rfl,?_⟩;rw[jj,Gk];refine dd (fun hn=>?_) (fun hn=>?_)
  .have hk:=Pz.jd.mp hn;rw[hk]at k;exact⟨_,rfl,_,rfl,L,n,l,m,st,i,x,rfl,R0,hx,hk,k⟩
  have okk:∀gg:Pz.RS,gg=st->Res A H L n l m Q (.ok gg)->Q (.int 0) H:=by
   rintro gg rfl k;exact k H (R0.mono (X1 _)) (.refl _ _)
  refine⟨_,rfl,dZ x,rfl,vD x,hwl,_,rfl,?_⟩;rw[jj];refine dd (fun v7=>?_) (fun v7=>?_)
  .obtain⟨e1,e2⟩:=NM (x:=dZ x) (by rw[jj];exact v7)
   have hk:Lo.kindOf x.b= .number (Km.FV (Km.dQ x.b)):=by
    rw[kO];cases Km.kc (Km.dQ x.b)with
    |num e _=>exact e
    |op j e _ h _=>rw[v7]at h;cases h
    |get d e hw hL=>rw[hw]at v7;simp[Km.isNum,Km.fK,Km.mE,Km.isD]at v7
    |set d e hw hL=>rw[hw]at v7;simp[Km.isNum,Km.fK,Km.mE,Km.isD]at v7
    |name e _ _ h _=>rw[v7]at h;cases h
    |none_ e _ _ h _=>rw[v7]at h;cases h
   rw[hk]at k;have k:Res A H L n l m Q (if Lo.isValue (Km.FV (Km.dQ x.b))=true then .ok st else .error 5):=k
   refine⟨_,rfl,dZ x,_,rfl,e1,e2,_,rfl,_,rfl,?_⟩;rw[jj];refine ddn (fun hv=>?_) (fun hv=>?_)
   .rw[hv]at k;exact k H (.refl _ _)
   .rw[hv]at k;exact okk st rfl k
  .refine eY (okk st rfl ?_)
   revert k
   cases e:Lo.kindOf x.b with
   |none_=>exact absurd e kC
   |number z=>
    exfalso
    rw[kO]at e;cases Km.kc (Km.dQ x.b)with
    |num e' h=>rw[h]at v7;cases v7
    |op j e' _ _ _=>rw[e']at e;cases e
    |get d e' _ _=>rw[e']at e;cases e
    |set d e' _ _=>rw[e']at e;cases e
    |name e' _ _ _ _=>rw[e']at e;cases e
    |none_ e' _ _ _ _=>rw[e']at e;cases e
   |name=>rw[Pz.jd.mpr e]at hn;cases hn
   |get d=>exact fun z=>z
   |set d=>exact fun z=>z
   |op j=>
    have hj:j<22:=by
     by_cases q:22<=j
     .exact absurd ⟨j,e,q⟩ hsh
     .omega
    intro z;have z:Res A H L n l m Q (Pz.jc i j st):=z;unfold Pz.jc at z;rw[aj (by omega),aj (by omega),aj (by omega),aj (by omega),aj (by omega),aj (by omega),aj (by omega),aj (by omega)]at z
    exact z
end
theorem qr.same {A:Ad} {H H':Hp} {L:RL} {n:Int} {l:List Lo.Tok} {m:Nat} {st:Pz.RS} (h:qr A H L n l m st) (s:dR H H'):qr A H' L n l m st:=by
 obtain⟨⟨kb,kn,h1,h2,h3,h4⟩,h5,h6,h7⟩:=h;exact⟨⟨kb,kn,h1.same s,h2,h3,h4⟩,h5,h6,h7⟩
section
variable {c:Ct} {A:Ad}
abbrev tR:Stmt:=top 110
theorem Gm:cW ["reading","index","fault"] ["reading"] (cS tR):=fsc
inductive rB (A:Ad) (vs:List V) (H:Hp) (Q:VK) (E:XK):Prop
 |mk:∀L n l,vs= [.ref (RL.r L)]->qr A H L n l 0 (Pz.st0 l)->(∀t∈l,(Lo.Tok.b t).length<=10000)->l.length<=5000->(match Pz.readAll l with| .error (e,j)=>∀H' p t,l[j]?=some t->dj (mu L) H H'->H' p=some (.tup [.int ((e:Nat):Int),.int ((t.at_:Nat):Int)])->Q (.ref p) H'| .ok st=>∀H' p,qr A H' L n l l.length st->dj (mu L) H H'->H' p=some (.tup (if st.wait.isEmpty=true then [.int 0,.int 0]else [.int 2,.int n]))->Q (.ref p) H')->rB A vs H Q E
theorem Gn (T:Tx c A) (D:Df c "read_all" tR ["reading"] A.lC) (rC:Good c 4 "read_word" A.ky (pN A)):Good c 5 "read_all" A.lC (rB A):=by
 refine D.good Gm ?_;rintro X H _ Q E rfl a sn hr ⟨L,n,l,rfl,R0,hbl,hl,k⟩;refine⟨_,(cN (qO a.never a.calm (wb (gl sn) T.vj (cK (dv dk (gl sn) T.fE PySem.boot_len (cK (df (vr sn 0) rfl) cO)) cO)) (gNm sn 1) (cN (pSt sn 2 (pf_ rC (hmo hr) (gl sn) (cK (vr sn 0) (cK (vr sn 1) cO)))) (cQ (dX (iK Cw (vr sn 2) (pc_ T.dB (gl sn))) (cQ (cV (h9 (cK (vr sn 2) (cK (ixT (ixL (df (vr sn 0) rfl) (vr sn 1)) cT) cO))))) dr)))) (cN (dX (iK oA (dv dk (gl sn) T.fE PySem.boot_len (cK (df (vr sn 0) rfl) cO)) cT) (cQ (cV (h9 (cK (pc_ T.gU (gl sn)) (cK (df (vr sn 0) rfl) cO))))) dr) (cQ (cV (h9 (cK (pc_ T.dB (gl sn)) (cK cT cO))))))),?_⟩;have two:2<=sizeLine:=by decide
 have wat:∀{H':Hp} {m:Nat} {st:Pz.RS},qr A H' L n l m st->∃kb kn,RdL A H' L n l kb kn (flat st.wait) st.tg:=fun R=>let ⟨⟨kb,kn,h,_⟩,_,_,_⟩:=R;⟨kb,kn,h⟩
 obtain⟨kb0,kn0,R1⟩:=wat R0;obtain⟨ws,hw1,hw2⟩:=R1.words;have hlen:(ws.map V.ref).length=l.length:=by rw[List.length_map,hw2.len]
 refine⟨_,rfl,L.r,_,L.dx,_,_,rfl,R1.ins,T.de,T.eJ,rfl,L.w,_,rfl,.inl (SqL.of hw1),_,rfl,by omega,by rw[hlen];omega,?_⟩
 rw[hlen,show ((l.length:Nat):Int).toNat=l.length from by simp]
 refine wc (lo:=0) (n:=l.length) (fun i σ H'=>∃(v w:Option V) (st:Pz.RS),σ= [some (.ref L.r),v,w]/\qr A H' L n l i st/\dj (mu L) H H'/\Pz.scan l (l.length-i) i st=Pz.readAll l) ?_ ?_ ?_
 .exact⟨none,none,_,rfl,R0,.refl _ _,rfl⟩
 .rintro i σ H' hi ⟨v,w,st,rfl,R,K,hs⟩;obtain⟨x,hx⟩:∃x,l[i]?=some x:=⟨_,af hi⟩;have ei:(0:Int)+(i:Int)=(i:Int):=by omega
  rw[ei];have hs':(match Pz.step l i x st with
    | .error e=>Except.error (e,i)
    | .ok gg=>Pz.scan l (l.length-(i+1)) (i+1) gg)=Pz.readAll l:=by
   rw[<-hs];have:l.length-i=(l.length-(i+1))+1:=by omega
   rw[this]
   conv=>rhs;unfold Pz.scan
   rw[hx]
   try rfl
  refine⟨_,rfl,_,rfl,L,n,l,i,st,i,x,rfl,R,hx,hbl x (aP hx),by omega,hl,?_⟩
  cases e:Pz.step l i x st with
  |error q=>
   rw[e]at hs';intro H1 K1;have hq:q≠0:=Pz.FJ e;refine⟨_,rfl,rfl,_,rfl,?_⟩;rw[show decide (V.int ((q:Nat):Int)=V.int 0)=false from ao (fun z=>hq (by injection z with z;omega))]
   rw[<-hs']at k;have Kw:∀b o,H b=some o->b∉mu L->H1 b=some o:=K.trans K1;have nw:L.w∉mu L:=by
    simp only[mu,ag,aJ,bw,X3];exact⟨R1.d2,R1.d3,neo hw1 R1.nam⟩
   have nr:L.r∉mu L:=by
    obtain⟨as,g1,_⟩:=R1.wts;simp only[mu,ag,aJ,bw,X3];exact⟨neo R1.ins g1,neo R1.ins R1.tgs,neo R1.ins R1.nam⟩
   obtain⟨ax,g3,g4⟩:=hw2.get hx;have na:ax∉mu L:=by
    obtain⟨as,g1,_⟩:=R1.wts;simp only[mu,ag,aJ,bw,X3];exact⟨neo g4 g1,neo g4 R1.tgs,neo g4 R1.nam⟩
   refine fm ⟨_,rfl,_,rfl,L.r,_,L.dx,_,_,rfl,Kw _ _ R1.ins nr,T.de,T.eJ,rfl,_,rfl,L.w,_,_,_,rfl,rfl,SqL.of (Kw _ _ hw1 nw),cX (v:=V.ref ax) (by rw[aF,g3];rfl),ax,_,_,_,rfl,rfl,SqT.of (Kw _ _ g4 na),cX (j:=0) rfl,two,fun p hp=>?_⟩
   exact k _ p x hx (fun b o eb nb=>by
    have:=Kw b o eb nb
    rw[cR (cM this hp)];exact this) cP
  |ok gg=>
   rw[e]at hs';intro H1 R2 K1;refine⟨_,rfl,rfl,_,rfl,eY ⟨_,_,gg,rfl,R2,K.trans K1,hs'⟩⟩
 .rintro σ H' ⟨v,w,st,rfl,R,K,hs⟩;rw[Nat.sub_self]at hs;have hs:Except.ok st=Pz.readAll l:=hs;rw[<-hs]at k;obtain⟨kb,kn,R2⟩:=wat R;obtain⟨as,g1,g2⟩:=R2.wts;have hlen2:(as.map V.ref).length=(flat st.wait).length:=by rw[List.length_map,Paired.length g2,aB]
  refine⟨_,rfl,L.r,_,L.dx,_,_,rfl,R2.ins,T.de,T.dM,rfl,L.wt,_,rfl,.inl (SqL.of g1),_,_,rfl,rfl,_,rfl,?_⟩;rw[hlen2];refine dd (fun h=>?_) (fun h=>?_)
  .have h:=aQ h;have nM:st.wait.isEmpty=false:=by
    cases q:st.wait with
    |nil=>rw[q]at h;simp[flat]at h
    |cons b w=>rfl
   refine⟨_,rfl,L.r,_,L.dx,_,_,rfl,R2.ins,T.de,T.jE,rfl,two,fun p hp=>?_⟩
   have s:dR H' (upd H' p (.tup [.int 2,.int n])):=.dm hp;exact k _ p (R.same s) (K.trans (.of s)) (by rw[nM,cP];rfl)
  .have h:=bj h;have nM:st.wait.isEmpty=true:=by
    cases q:st.wait with
    |nil=>rfl
    |cons b w=>rw[q]at h;have:=Gf b w;omega
   refine⟨two,fun p hp=>?_⟩
   have s:dR H' (upd H' p (.tup [.int 0,.int 0])):=.dm hp;exact k _ p (R.same s) (K.trans (.of s)) (by rw[nM,cP];rfl)
end
end Sl
namespace L2
open PySem PySem.Spec PyProof.Rows
theorem Tc {K:PySem.W.Frag} {a b:Addr} {xs ys:List V} (hxy:xs.length=ys.length) {g:TG} {tt:TT} {te:TE} {vs:List Nat} {σ:L2.St} {H1:Hp} {D:Addr} {Qd:Hp->Prop} (Pv:Nat->Hp->Prop) (h0:Pv 0 (upd H1 D (.lst [])))
  (hl:∀i H,i<=xs.length->Pv i H->SqL K H a xs/\SqL K H b ys)
  (hs:∀i x y H t,xs[i]?=some x->ys[i]?=some y->Pv i H->H t=none->g (.ref t) (wipe σ vs) (upd H t (.tup [x,y])) fun σ2 H2=>wipe σ2 vs=wipe σ vs/\tt σ2 H2 fun b H3=>
   if b=true then te σ2 H3 fun y H4=>∃acc,H4 D=some (.lst acc)/\acc.length<sizeLine/\Pv (i+1) (upd H4 D (.lst (acc++ [y])))else Pv (i+1) H3) (hd:∀H,Pv xs.length H->Qd H):
  ∃W:Nat->Nat->Hp->Prop,(∃m,W 0 m (upd H1 D (.lst [])))/\∀i m H,W i m H->
   ((Itz K a b).stop i H/\Qd H)\/((Itz K a b).go i H/\∃Nx:Hp->Prop,(∀H',Nx H'->∃m',m'<m/\W (i+1) m' H')/\∀x H',(Itz K a b).yld i H x H'->g x (wipe σ vs) H' fun σ2 H2=>wipe σ2 vs=wipe σ vs/\tt σ2 H2 fun b H3=>
    if b=true then te σ2 H3 fun y H4=>∃acc,H4 D=some (.lst acc)/\acc.length<sizeLine/\Nx (upd H4 D (.lst (acc++ [y])))else Nx H3):=by
 refine⟨fun i m H=>m=xs.length-i/\i<=xs.length/\Pv i H,⟨xs.length,by simp,aO _,h0⟩,?_⟩
 rintro i m H ⟨rfl,hi,p⟩;obtain⟨q1,q2⟩:=hl i H hi p;by_cases fH:i<xs.length
 .have hlt2:i<ys.length:=by omega
  refine .inr ⟨⟨xs,ys,xs[i],ys[i],q1,q2,by simp[fH],by simp[hlt2]⟩,Pv (i+1),fun H' p'=>⟨xs.length-(i+1),by omega,rfl,fH,p'⟩,fun x H' y=>?_⟩
  obtain⟨t,u,v,e,ht,eH,hx,hy⟩:=y;subst e eH;exact hs i u v _ t (hx xs q1) (hy ys q2) p ht
 .have e:i=xs.length:=by omega
  subst e;exact .inl ⟨⟨xs,ys,q1,q2,.inl (au _)⟩,hd H p⟩
end L2
namespace Sl
open PySem PySem.Spec PyProof.Rows L2 TL
def Iq (H:Hp):List Addr->List (Lo.Tok×Nat)->Prop:=Paired fun a p=>H a=some (.tup [.str (tM (dZ p.1)),.int (jY (dZ p.1) (p.2:Nat))])
def LL (ps pp:Addr):List (Str×V):=[("steps",.ref ps),("places",.ref pp)]
structure BB (A:Ad) (H:Hp) (x dx ps pp:Addr) (l:List Lo.Tok) (tg:List Nat):Prop where
 ins:H x=some (.ins A.dY dx (LL ps pp))
 steps:∃as:List Addr,H ps=some (.lst (as.map V.ref))/\Iq H as (l.zip tg)
 places:H pp=some (.lst (l.map fun t=>V.int ((t.at_:Nat):Int)))
section
variable {c:Ct} {A:Ad}
abbrev kg:Stmt:=inClass (top 97) 0
theorem sM:cW ["self","reading","word","target"] ["self","reading"] (cS kg):=fsc
inductive mi (A:Ad) (vs:List V) (H:Hp) (Q:VK) (E:XK):Prop
 |mk:∀x dx L n l m st,vs= [.ref x,.ref (RL.r L)]->H x=some (.ins A.dY dx [])->qr A H L n l m st->l.length<=5000->(∀t∈l,(Lo.Tok.b t).length<=10000)->(∀H' ps pp,BB A H' x dx ps pp l st.tg->ps≠pp->(∀b o,H b=some o->b≠x->H' b=some o)->(H ps=none/\H pp=none)->Q .non H')->mi A vs H Q E
theorem yw (T:Tx c A) (D:Dm c A.dY "__init__" "Program.__init__" kg ["self","reading"]) (wR:Good c 2 "step_of" A.mT tN):
  dA c 3 A.dY "__init__" (mi A):=by
 refine D.good sM ?_;rintro X H _ Q E rfl a sn hr ⟨x,dx,L,n,l,m,st,rfl,hx,R,hl,hbl,k⟩;refine⟨_,(cN (eP (vr sn 0) (pLc sn [("word",2),("target",3)] (SN (gl sn) T.Ve (cK (df (vr sn 1) rfl) (cK (df (vr sn 1) rfl) cO))) (fun _ _ _ _ _=>(P7 2 a (oz (rb sn.nd (nx sn 2) rfl) (oz (rb sn.nd (nx sn 3) rfl) Dd)))) (fun _ _ _ _ _=>(pf_ wR (hmo hr) (tH rfl) (cK (xU (r:=MJ X.K) HA (lS (nx sn 2) (.inl rfl)) cT (fun _ _=>rfl)) (cK (lS (nx sn 3) (.inl rfl)) cO))))) rfl) (cQ (eP (vr sn 0) (pLc sn [("word",2)] (uK (df (vr sn 1) rfl)) (fun _ _ _ _ _=>(rb sn.nd (nx sn 2) rfl)) (fun _ _ _ _ _=>(xU (r:=MJ X.K) HA (lS (nx sn 2) (.inl rfl)) cT (fun _ _=>rfl)))) rfl))),?_⟩
 obtain⟨⟨kb,kn,R1,_,_,_⟩,_,uH,_⟩:=R;obtain⟨ws,hw1,hw2⟩:=R1.words;have hlen:(ws.map V.ref).length=l.length:=by rw[List.length_map,hw2.len]
 refine⟨_,rfl,L.r,_,L.dx,_,_,rfl,R1.ins,T.de,T.eJ,rfl,_,rfl,L.r,_,L.dx,_,_,rfl,R1.ins,T.de,T.dW,rfl,L.w,L.tg,_,_,rfl,SqL.of hw1,SqL.of R1.tgs,fun D hD=>?_⟩
 refine Tc (K:=X.K) (a:=L.w) (b:=L.tg) (xs:=ws.map V.ref) (ys:=st.tg.map fun (n:Nat)=>V.int (n:Int)) (by rw[hlen,List.length_map,uH]) (fun i H'=>∃as:List Addr,dR H H'/\H' D=some (.lst (as.map V.ref))/\Iq H' as ((l.zip st.tg).take i)) ?_ ?_ ?_ ?_
 .exact⟨[],.dm hD,cP,.nil⟩
 .rintro i H' _ ⟨as,s,_,_⟩;exact⟨SqL.of (s _ _ hw1),SqL.of (s _ _ R1.tgs)⟩
 .rintro i u v H' t hu hv ⟨as,s,hd1,hd2⟩ ht;rw[aF]at hu hv;obtain⟨aw,haw,rfl⟩:=bc.mp hu;obtain⟨ti,hti,rfl⟩:=bc.mp hv;have hil:i<l.length:=by have:=(aa.mp haw).1;rw[hw2.len]at this;exact this
  obtain⟨tk,htk⟩:∃tk,l[i]?=some tk:=⟨_,af hil⟩;obtain⟨aw',h3,h4⟩:=hw2.get htk;rw[haw]at h3;cases h3;have ntD:D≠t:=cM hd1 ht;have s2:dR H' (upd H' t (.tup [V.ref aw,V.int (ti:Int)])):=.dm ht;have hz:(l.zip st.tg)[i]?=some (tk,ti):=by rw[Wx];exact⟨htk,hti⟩
  refine⟨t,_,rfl,SqT.of cP,rfl,_,_,rfl,_,_,rfl,rfl,rfl,pH ⟨_,rfl,aw,_,_,_,rfl,rfl,SqT.of (s2 _ _ (s _ _ h4)),cX (j:=1) rfl,_,rfl,dZ tk,(ti:Int),rfl,vD tk,by rw[Aj];exact hbl tk (aP htk),fun p hp=>?_⟩⟩
  have s3:dR (upd H' t (.tup [V.ref aw,V.int (ti:Int)])) (upd (upd H' t (.tup [V.ref aw,V.int (ti:Int)])) p (.tup [.str (tM (dZ tk)),.int (jY (dZ tk) (ti:Int))])):=.dm hp;have hd3:=s3 _ _ (s2 _ _ hd1);refine⟨_,hd3,?_,as++ [p],fun b o e=>?_,?_,?_⟩
  .rw[List.length_map,Paired.length hd2,aV];have h5:min i (l.zip st.tg).length<=5000:=by
    rw[Xg];omega
   exact aE h5 (by decide)
  .rw[cR (cM e hD)];exact s3 _ _ (s2 _ _ (s _ _ e))
  .rw[cP,aA];rfl
  .rw[hX hz];have nD:∀b u,(upd (upd H' t (.tup [V.ref aw,V.int (ti:Int)])) p (.tup [.str (tM (dZ tk)),.int (jY (dZ tk) (ti:Int))])) b=some (.tup u)->upd (upd (upd H' t (.tup [V.ref aw,V.int (ti:Int)])) p (.tup [.str (tM (dZ tk)),.int (jY (dZ tk) (ti:Int))])) D (.lst (as.map V.ref++ [V.ref p])) b=some (.tup u):=fun b u e=>by
    rw[cR (neo e hd3)];exact e
   exact Paired.snoc (Paired.jw hd2 fun b q e=>nD _ _ (s3 _ _ (s2 _ _ e))) (nD _ _ cP)
 .rintro H1 ⟨as,s1,hd1,hd2⟩;have htake:(l.zip st.tg).take (ws.map V.ref).length=l.zip st.tg:=WO (by rw[hlen,Xg];exact Nat.min_le_left _ _)
  rw[htake]at hd2;have hx1:=s1 _ _ hx;refine⟨_,rfl,x,_,dx,_,rfl,hx1,T.m4,T.i4,(by decide),?_⟩
  have q:(upd H1 x (.ins A.dY dx (dE "steps" (.ref D) []))) x=some (.ins A.dY dx (dE "steps" (.ref D) []))/\∀b u,H1 b=some u->b≠x->upd H1 x (.ins A.dY dx (dE "steps" (.ref D) [])) b=some u:=⟨cP,fun b u e n=>by rw[cR n];exact e⟩
  generalize upd H1 x (.ins A.dY dx (dE "steps" (.ref D) []))=H2 at q⊢;obtain⟨hx2,f2⟩:=q;have n1:∀b o,H1 b=some o->(∀C d fs,o≠ .ins C d fs)->b≠x:=fun b o e hn=>sS e hx1 (hn _ _ _)
  have hrx:L.r≠x:=fun z=>by
   have:=R1.ins
   rw[z,hx]at this;injection this with this;injection this with _ _ this
   cases this
  have hins2:=f2 _ _ (s1 _ _ R1.ins) hrx;have hw12:=f2 _ _ (s1 _ _ hw1) (n1 _ _ (s1 _ _ hw1) (fun _ _ _ z=>by cases z))
  have hw22:WL H2 ws l:=Paired.jw hw2 fun b t e=>f2 _ _ (s1 _ _ e) (n1 _ _ (s1 _ _ e) (fun _ _ _ z=>by cases z))
  have hd12:=f2 _ _ hd1 (n1 _ _ hd1 (fun _ _ _ z=>by cases z))
  have hd22:Iq H2 as (l.zip st.tg):=Paired.jw hd2 fun b q e=>f2 _ _ e (n1 _ _ e (fun _ _ _ z=>by cases z))
  refine⟨_,rfl,L.r,_,L.dx,_,_,rfl,hins2,T.de,T.eJ,rfl,L.w,rfl,⟨_,SqL.of hw12⟩,fun D2 hD2=>?_⟩
  refine y4 (K:=X.K) (a:=L.w) (xs:=ws.map V.ref) (fun i H'=>H'=upd H2 D2 (.lst ((l.take i).map fun t=>V.int ((t.at_:Nat):Int)))) rfl ?_ ?_ ?_
  .rintro i H' _ rfl;exact SqL.of (by rw[cR (cM hw12 hD2)];exact hw12)
  .rintro i u H' hu rfl;rw[aF]at hu;obtain⟨aw,haw,rfl⟩:=bc.mp hu;have hil:i<l.length:=by have:=(aa.mp haw).1;rw[hw22.len]at this;exact this
   obtain⟨tk,htk⟩:∃tk,l[i]?=some tk:=⟨_,af hil⟩;obtain⟨aw',h3,h4⟩:=hw22.get htk;rw[haw]at h3;cases h3;refine⟨rfl,pH ⟨_,rfl,aw,_,_,_,rfl,rfl,SqT.of (by rw[cR (cM h4 hD2)];exact h4),cX (j:=0) rfl,_,cP,?_,?_⟩⟩
   .rw[List.length_map,aV];exact aE (Wy _ _) (aE hl (by decide))
   .rw[j6,hX htk,aA];rfl
  .rintro H' rfl;rw[hlen,WY];have s3:dR H2 (upd H2 D2 (.lst (l.map fun t=>V.int ((t.at_:Nat):Int)))):=.dm hD2
   refine⟨_,rfl,x,_,dx,_,rfl,s3 _ _ hx2,T.m4,T.jF,(by show 1<1000;decide),?_⟩
   have nx:∀b o,H2 b=some o->b≠x->upd (upd H2 D2 (.lst (l.map fun t=>V.int ((t.at_:Nat):Int)))) x (.ins A.dY dx (LL D D2)) b=some o:=fun b o e n=>by rw[cR n];exact s3 _ _ e
   have nD2:D2≠x:=(cM hx2 hD2).symm;refine k _ D D2 ⟨cP,⟨as,nx _ _ hd12 (n1 _ _ hd1 (fun _ _ _ z=>by cases z)),Paired.jw hd22 fun b q e=>nx _ _ e (neo e hx2)⟩,?_⟩ (cM hd12 hD2) (fun b o e n=>nx _ _ (f2 _ _ (s1 _ _ e) n) n) ⟨hD,by
    cases e:H D2 with
    |none=>rfl
    |some o=>rw[f2 _ _ (s1 _ _ e) nD2]at hD2;cases hD2⟩
   show upd (upd H2 D2 (.lst (l.map fun t=>V.int ((t.at_:Nat):Int)))) x (.ins A.dY dx (LL D D2)) D2=_
   rw[cR nD2,cP]
end
end Sl
namespace PySem
open Sem (wp)
section
variable {prog:Program} {w:World} {K:Type} [DecidableEq K] (knd:KeyKind prog w K)
inductive jk (h:Heap):List (List K)->List Value->Prop
 |nil:jk h [] []
 |cons {ks:List K} {b:Addr} {nJ:List (List K)} {vs:List Value}:IsTupleKey knd h ks b->jk h nJ vs->jk h (ks::nJ) (.ref b::vs)
def fP (h:Heap) (nJ:List (List K)) (a:Addr):Prop:=∃o items n,h.get? a=some o/\o.cls= .type "tuple"/\o.data= .seq items n/\jk knd h nJ items.toList
variable {knd}
theorem jk.inj {h:Heap} {x y:List (List K)} {vs:List Value} (hx:jk knd h x vs) (hy:jk knd h y vs):x=y:=by
 induction hx generalizing y with
 |nil=>cases hy;rfl
 |cons h1 _ ih=>
  cases hy with
  |cons h2 t2=>rw[h1.inj h2,ih t2]
theorem fP.typeIs {s:Shared} {nJ:List (List K)} {a:Addr} (x:fP knd s.heap nJ a):s.TypeIs (.ref a) "tuple":=by
 obtain⟨o,_,_,ho,hc,_⟩:=x;exact⟨o,ho,hc⟩
theorem fP.inj {h:Heap} {a:Addr} {x y:List (List K)} (hx:fP knd h x a) (hy:fP knd h y a):x=y:=by
 obtain⟨o,i1,n1,e1,_,d1,r1⟩:=hx;obtain⟨o',i2,n2,e2,_,d2,r2⟩:=hy;cases e1.symm.trans e2;rw[d1]at d2;injection d2 with q _
 subst q;exact r1.inj r2
theorem jk.keeps {h h':Heap} {nJ:List (List K)} {vs:List Value} {d:Addr} {o:Obj} {es ep} (x:jk knd h nJ vs) (ho:h.get? d=some o) (hd:o.data= .dict es ep) (hs:Heap.SameBut d h h'):jk knd h' nJ vs:=by
 induction x with
 |nil=>exact .nil
 |cons h1 _ ih=>exact .cons (h1.keeps ho hd hs) ih
theorem fP.keeps {h h':Heap} {nJ:List (List K)} {a d:Addr} {o:Obj} {es ep} (x:fP knd h nJ a) (ho:h.get? d=some o) (hd:o.data= .dict es ep) (hs:Heap.SameBut d h h'):fP knd h' nJ a:=by
 obtain⟨q,i,n,e,c,di,r⟩:=x;have ne:a≠d:=by
  rintro rfl;cases e.symm.trans ho;rw[hd]at di;cases di
 exact⟨q,i,n,(hs.2 a ne).trans e,c,di,r.keeps ho hd hs⟩
def Ak (knd:KeyKind prog w K) (nJ:List (List K)):Int:=reduceHash (Builtin.Tuple.tupleHashOf (nJ.map (tupleKeyHash knd)))
def wU (nJ:List (List K)):Nat:=(nJ.map fun ks=>ks.length+1).sum+1
variable {A:Around} {E:Value->Shared->Prop} {s:Shared}
theorem Gp {nJ:List (List K)} {a:Addr} {Q:Int->Shared->Prop} (hu:A.units+4<cLine) (hk:fP knd s.heap nJ a) (h:Q (Ak knd nJ) {s with toks:=s.toks+wU nJ}):
  wpAny (model prog w) A (pyHash (.ref a)) Q E s:=by
 have hT:=hk.typeIs;obtain⟨o,items,n,ho,_,hd,hi⟩:=hk;unfold pyHash
 first|unfold pyHashByItsType|skip
 first|refine aD (wpAny_cRoomFor_or (.inr (by omega)) ?_)|skip
 refine aD (WE hT WR.lookup ?_);show wpAny _ _ (if (some (Value.builtin "tuple.__hash__")==some Value.none)=true then _ else _) Q E s
 rw[aj (by rw[beq_builtin_none];exact aN)]
 refine aD (WE hT WR.lookup ?_);show wpAny _ _ (callSpecialIfBoundUnlessNone? (.ref a) "__hash__" _>>=_) Q E s;refine aD (wpAny_callSpecialIfBoundUnlessNone?_slot hT WR (wpAny_call_entry WR hT F.entry_tuple_hash ?_ (F.args_tuple_hash_1 _)));show wpAny _ _ (Builtin.Tuple.tupleItemsOf (.ref a)>>=_) _ _ s;refine aD (Xp ho hd ?_);refine aD ?_;rw[<-Xq];refine wpAny_forIn_list _
  (fun more (b:Array Int) s'=>∃done left,nJ=done++left/\jk knd s.heap left more/\b.toList=done.map (tupleKeyHash knd)/\s'={s with toks:=s.toks+(done.map fun ks=>ks.length+1).sum})
  _ ?_ ?_ _ _ ⟨[],nJ,rfl,hi,rfl,rfl⟩
 .rintro x more b s' ⟨done,left,rfl,hl,hb,rfl⟩;cases hl with
  |@cons ks bb left' _ h1 hl'=>
   have hroom:(A.in1).units<cLine:=by show A.units+1<cLine;omega
   refine aD (wpAny_pyHash_tuple (knd:=knd) (s:={s with toks:=s.toks+(done.map fun ks=>ks.length+1).sum}) hroom h1 ?_)
   first
    |exact aU ⟨done++ [ks],left',by simp,hl',by simp[hb],by simp[XG]⟩
    |exact aD (aU (aU ⟨done++ [ks],left',by simp,hl',by simp[hb],by simp[XG]⟩))
 .rintro b s' ⟨done,left,rfl,hl,hb,rfl⟩;cases hl;rw[WC]at h;show wpAny _ _ (retInt (Builtin.Tuple.tupleHashOf b.toList)) _ _ _;rw[hb];refine wpAny_ret_mkInt ?_;show wpAny _ _ (if (decide (-(2:Int)^63<=Builtin.Tuple.tupleHashOf (done.map (tupleKeyHash knd)))&&decide (Builtin.Tuple.tupleHashOf (done.map (tupleKeyHash knd))<2^63))=true then _ else _) Q E _
  unfold Ak wU reduceHash at h;by_cases hr:(decide (-(2:Int)^63<=Builtin.Tuple.tupleHashOf (done.map (tupleKeyHash knd)))&&decide (Builtin.Tuple.tupleHashOf (done.map (tupleKeyHash knd))<2^63))=true
  .rw[aq hr];rw[aq hr]at h;exact aU (by simpa[XG]using h)
  .rw[aj hr];rw[aj hr]at h;exact aD (wpAny_rule (aU (by simpa[XG]using h)))
theorem DZ {x y:List (List K)} {a b:Addr} {P:Fin->Shared->Prop} (hu:A.units<cLine) (hx:fP knd s.heap x a) (hy:fP knd s.heap y b) (h:P (.done (.ret (.bool (decide (x=y))))) s):
  wpAny (model prog w) A (Builtin.«tuple.__eq__» ⟨[.ref a,.ref b],[]⟩) P E s:=by
 have hTb:=hy.typeIs;obtain⟨oa,xs,na,hoa,_,hda,hia⟩:=hx;obtain⟨ob,ys,nb,hob,_,hdb,hib⟩:=hy;show wpAny _ _ (isInstance (.ref b) (.type "tuple")>>=_) _ _ s;refine aD (XI hTb WU ?_);simp only[WN,bS,cq];refine aD (Xp hoa hda ?_);refine aD (Xp hob hdb ?_);refine aD ?_;refine wpAny_forIn_list _
  (fun more r s'=>r.1=none/\s'=s/\∃x' y' xs' ys',more=List.zip xs' ys'/\jk knd s.heap x' xs'/\jk knd s.heap y' ys'/\decide (x'=y')=decide (x=y)/\(xs'.length==ys'.length)=(xs.size==ys.size))
  _ ?_ ?_ _ _ ⟨rfl,rfl,x,y,xs.toList,ys.toList,rfl,hia,hib,rfl,by simp⟩
 .rintro⟨u,v⟩ more r s' ⟨hr,rfl,x',y',xs',ys',hz,hx',hy',hdec,hlen⟩;cases hx' with
  |nil=>simp at hz
  |@cons k1 u' x'' xs'' h1 hx''=>
   cases hy' with
   |nil=>simp at hz
   |@cons k2 v' y'' ys'' h2 hy''=>
    simp only[List.zip_cons_cons,ck,XF]at hz;obtain⟨⟨rfl,rfl⟩,rfl⟩:=hz;refine aD (wpAny_eqBool_tuple (knd:=knd) (x:=k1) (y:=k2) hu h1 h2 ?_);by_cases hk:k1=k2
    .subst hk;rw[aI rfl];simp only[WN,bS,cq];refine aU ⟨rfl,rfl,x'',y'',xs'',ys'',rfl,hx'',hy'',?_,by simpa using hlen⟩
     rw[<-hdec];by_cases hxy:x''=y''
     .simp[hxy]
     .simp[hxy]
    .rw[ao hk];simp only[Bool.not_false,bZ];have hf:decide (x=y)=false:=by rw[<-hdec];simp[hk]
     rw[hf]at h;exact aD (aU (aU (aU h)))
 .rintro⟨r1,r2⟩ s' ⟨hr,rfl,x',y',xs',ys',hz,hx',hy',hdec,hlen⟩;simp only at hr;subst hr;refine aU ?_;have hfin:(xs.size==ys.size)=decide (x=y):=by
   rw[<-hdec,<-hlen];cases hx' with
   |nil=>
    cases hy' with
    |nil=>simp
    |cons _ _=>simp
   |cons _ _=>
    cases hy' with
    |nil=>simp
    |cons _ _=>simp at hz
  show P (.done (.ret (.bool (xs.size==ys.size)))) s';rw[hfin];exact h
theorem Gq {x y:List (List K)} {a b:Addr} {Q:Bool->Shared->Prop} (hu:A.units+4<cLine) (hx:fP knd s.heap x a) (hy:fP knd s.heap y b) (h:Q (decide (x=y)) s):
  wpAny (model prog w) A (eqBool (.ref a) (.ref b)) Q E s:=by
 unfold eqBool
 try with_reducible refine WB ?_
 show wpAny _ _ (if (Value.ref a==Value.ref b)=true then _ else _) Q E s
 by_cases hab:(Value.ref a==Value.ref b)=true
 .rw[aq hab];have e:a=b:=by have:=eq_of_beq hab;injection this
  subst e;obtain rfl:=hx.inj hy;exact aD (wpAny_rule (aU (by simpa using h)))
 .rw[aj hab];refine aD (wpAny_richCompare_same_room (op:=.Eq) hx.typeIs hy.typeIs Xh
   (wpAny_call_entry Xh hx.typeIs F.entry_tuple_eq (DZ ?_ hx hy ⟨_,rfl,(fun e=>nomatch e),bM h⟩) (F.args_tuple_eq_2 _ _)) (by omega))
  have:(A.in1.in1).units=A.units+2:=rfl
  first
   |(show A.units+1<cLine;omega)
   |(show A.units+2<cLine;omega)
   |(show A.units+3<cLine;omega)
   |omega
theorem Gr {ks:List K} {a:Addr} {m:Nat} {Q:Bool->Shared->Prop} (hk:IsTupleKey knd s.heap ks a) (h:Q true s):wpAny (model prog w) A (eqIsQuiet (m+1) (.ref a)) Q E s:=by
 have hT:=hk.typeIs;obtain⟨o,items,n,ho,_,hd,hi⟩:=hk;unfold eqIsQuiet;refine aD (WE hT Xh.lookup ?_);show wpAny _ _ (isInstance (.ref a) (.type "tuple")>>=_) _ _ s;refine aD (XI hT WU ?_);simp only[WN,bS,cq];refine aD (wpAny_seqItems ho hd ?_);refine aD ?_;show wpAny _ _ (forIn items _ _) _ _ s;rw[<-Xq];refine wpAny_forIn_list _ (fun more r s'=>r.1=none/\s'=s/\∀v∈more,carriedByValue v=true) _ ?_ ?_ _ _ ⟨rfl,rfl,hi.byValue⟩
 .rintro v more r s' ⟨hr,rfl,kD⟩;rw[eqIsQuiet_byValue _ (kD v aC)];refine aD (aU ?_);simp only[WN,bS,cq];exact aU ⟨rfl,rfl,fun u hu'=>kD u (ak _ hu')⟩
 .rintro⟨r1,r2⟩ s' ⟨hr,rfl,_⟩;simp only at hr;subst hr;exact aU h
theorem Ir {nJ:List (List K)} {a:Addr} {Q:Bool->Shared->Prop} (hk:fP knd s.heap nJ a) (h:Q true s):wpAny (model prog w) A (eqIsQuiet 8 (.ref a)) Q E s:=by
 have hT:=hk.typeIs;obtain⟨o,items,n,ho,_,hd,hi⟩:=hk;unfold eqIsQuiet;refine aD (WE hT Xh.lookup ?_);show wpAny _ _ (isInstance (.ref a) (.type "tuple")>>=_) _ _ s;refine aD (XI hT WU ?_);simp only[WN,bS,cq];refine aD (wpAny_seqItems ho hd ?_);refine aD ?_;show wpAny _ _ (forIn items _ _) _ _ s;rw[<-Xq];refine wpAny_forIn_list _ (fun more r s'=>r.1=none/\s'=s/\∃left,jk knd s.heap left more) _ ?_ ?_ _ _ ⟨rfl,rfl,nJ,hi⟩
 .rintro v more r s' ⟨hr,rfl,left,kD⟩;cases kD with
  |cons h1 h2=>
   refine aD (Gr (knd:=knd) h1 ?_);simp only[WN,bS,cq];exact aU ⟨rfl,rfl,_,h2⟩
 .rintro⟨r1,r2⟩ s' ⟨hr,rfl,_⟩;simp only at hr;subst hr;exact aU h
end
def Al {prog:Program} {w:World} {K:Type} [DecidableEq K] (knd:KeyKind prog w K):HeapKind prog w (List (List K)) where
 is:=fP knd
 hash:=Ak knd
 draws:=wU
 room:=fun A=>A.units+4<cLine
 inj:=fun hx hy=>hx.inj hy
 keeps:=fun x ho hd hs=>x.keeps ho hd hs
 pyHash:=fun hu hk h=>Gp hu hk h
 eqBool:=fun hu hx hy h=>Gq hu hx hy h
 quiet:=fun hk h=>Ir hk h
section
variable {prog:Program} {w:World} {K:Type} [DecidableEq K] {knd:HeapKind prog w K} {A:Around} {E:Value->Shared->Prop} {s:Shared}
theorem yx {d a:Addr} {xs:List (K×Addr×Value)} {k:K} {dflt:Value} {Q:Value->Shared->Prop} (hu:knd.room A) (hkey:knd.is s.heap k a) (hm:s.heap.DictOfH knd d xs)
  (h1:∀p,atKey xs k=some p->Q p.2 {s with toks:=s.toks+knd.draws k})
  (h2:atKey xs k=none->∀h',h'.DictOfH knd d (xs++ [(k,a,dflt)])->Heap.SameBut d s.heap h'->Q dflt {s with heap:=h',toks:=s.toks+knd.draws k}) (hsz:xs.length<=sizeLine):
  wpAny (model prog w) A (dictSetDefault d (.ref a) dflt) Q E s:=by
 obtain⟨o,es,ep,ho,hc,hd,he,his,hn⟩:=hm;unfold dictSetDefault
 try with_reducible refine WB ?_
 refine aD (knd.pyHash hu hkey ?_);refine aD (wpAny_dictFind_heap (s:={s with toks:=s.toks+knd.draws k}) hu hkey ho hd he his hn ?_ ?_)
 .intro hno;have kC:=atKey_none_of_get hno;have hnot:k∉xs.map (·.1):=not_mem_keys_of_get hno;refine aD (wpAny_rule (aD (wpAny_updateDictKeys (hz:=by have e:=size_of_entries he;omega) (s:={s with toks:=s.toks+knd.draws k}) ho hd (aU (h2 kC _ ⟨_,_,ep+1,Heap.get?_update_self _ ho (Obj.isFreed_of_dict (Obj.data_mapDictKeys hd _)),
   hc.mapDictKeys _,Obj.data_mapDictKeys hd _,?_,?_,?_⟩ (Xi ..))))))
  .simp[he,entryOfKey]
  .intro x hx;rcases bO.mp hx with hx|hx
   .exact knd.keeps (his x hx) ho hd (Xi ..)
   .simp only[bz]at hx;subst hx;exact knd.keeps hkey ho hd (Xi ..)
  .rw[aA,bC];refine⟨hn,by simp,?_⟩
   intro x hx y hy;simp only[bh,Xk,bz]at hy;subst hy;exact fun e=>hnot (e▸hx)
 .intro j p hj;refine aD (wpAny_dictEntries (s:={s with toks:=s.toks+knd.draws k}) ho hd ?_)
  rw[entry_at he j,hj];exact aD (wpAny_rule (aU (h1 p (atKey_of_get hn hj))))
theorem vE (d a:Addr) (hd:(d==sysModules)=false) (dflt:Value):
  MeetsIn prog w (Builtin.«dict.setdefault» ⟨[.ref d,.ref a,dflt],[]⟩) (fun A R s=>knd.room A.in1/\∃k xs,knd.is s.heap k a/\s.heap.DictOfH knd d xs/\xs.length<=sizeLine/\
   (∀p,atKey xs k=some p->R (.ok (.ret p.2)) {s with toks:=s.toks+knd.draws k})/\
   (atKey xs k=none->∀h',h'.DictOfH knd d (xs++ [(k,a,dflt)])->Heap.SameBut d s.heap h'->R (.ok (.ret dflt)) {s with heap:=h',toks:=s.toks+knd.draws k})):=
 .of_wp fun A R s ⟨hu,k,xs,hkey,hm,hz,h1,h2⟩=>by
  unfold Builtin.«dict.setdefault»;refine aD ?_;unfold Builtin.Dict.keyAndDefault;refine aD (wpAny_notOrdered_dict hm.typeIs ?_);show wpAny _ _ (pure (d,Value.ref a,some dflt)) _ _ s;refine aU ?_;show wpAny _ _ (if (d==sysModules)=true then _ else (dictSetDefault d (.ref a) dflt>>=_)) _ _ s
  rw[aj (by rw[hd];exact aN)]
  exact aD (yx hu hkey hm (fun p hp=>aU ⟨p.2,rfl,h1 p hp⟩) (fun hn h' hm' hs'=>aU ⟨dflt,rfl,h2 hn h' hm' hs'⟩) hz)
end
end PySem
namespace PySem
section
variable {prog:Program} {w:World} {K:Type} [DecidableEq K] {A:Around} {E:Value->Shared->Prop} {s:Shared}
theorem An (knd:HeapKind prog w K) (d:Addr) (hd:(d==sysModules)=false):
  MeetsIn prog w (Builtin.«dict.__len__» ⟨[.ref d],[]⟩) (fun _ R s=>∃xs,s.heap.DictOfH knd d xs/\R (.ok (.ret (.int xs.length s.toks))) {s with toks:=s.toks+1}):=
 .of_wp fun A R s ⟨xs,hm,h⟩=>by
  obtain⟨o,es,ep,ho,_,hdt,he,_⟩:=hm;show wpAny _ _ (dictSize d>>=_) _ _ s;unfold dictSize;refine aD (aD (wpAny_dictEntries ho hdt (aU ?_)));show wpAny _ _ (Builtin.Dict.pendingCount d>>=_) _ _ s;refine aD (wpAny_pendingCount_other hd (wpAny_ret_mkInt ?_));rw[Nat.add_zero,size_of_entries he];exact h
theorem NY {knd:HeapKind prog w K} {d:Addr} {xs:List (K×Addr×Value)} {Q:Value->Shared->Prop} (hd:(d==sysModules)=false) (hm:s.heap.DictOfH knd d xs) (hfit:(xs.length:Int)<2^63)
  (h:Q (.int xs.length (s.toks+1)) {s with toks:=s.toks+1+1}):wpAny (model prog w) A (call (.builtin "len") [.ref d]) Q E s:=by
 refine Calls.call_function_entry kind_len plain_len entry_len (args_len1 _) ?_;unfold Builtin.«len»;refine aD (m:=oneArg "len" _) (aU ?_);refine aD (m:=callSpecial? (.ref d) (Str.ofString "__len__")) (wpAny_callSpecial?_slot (name:=Str.ofString "__len__") hm.typeIs F.slot_dict_len
  (Xl F.slot_dict_len hm.typeIs F.entry_dict_len (F.args_dict_len_1 _) (An knd d hd) ⟨xs,hm,?_⟩))
 show wpAny _ _ _ _ _ {s with toks:=s.toks+1}
 refine aD (WB (aU (aD (wpAny_letGo ?_))));show wpAny _ _ (if ((xs.length:Nat):Int)<0 then _ else _) _ _ _
 rw[aj (by omega)]
 show wpAny _ _ (if ((xs.length:Nat):Int)>=2^63 then _ else _) _ _ _
 rw[aj (by omega)]
 exact aD (wpAny_mkInt (aU ⟨_,rfl,h⟩))
end
end PySem
namespace L2
open PySem PySem.Spec PyProof.Rows
abbrev NK:=List (List Key)
def LM (P:Program) (w:World) (a:Addr) (xs:List (NK×Addr×Value)) (h:Heap):Prop:=
 ∃o es ep,h.get? a=some o/\o.ExactDict/\o.data= .dict es ep/\es.toList=xs.map (entryOfKey (Al (fk P w)))/\(xs.map (·.1)).Nodup/\xs.length<=sizeLine/\(a==sysModules)=false
def NO (P:Program) (w:World) (a:Addr) (xs:List (NK×Addr×Value)):HO:=.ext (LM P w a xs)
def tS (K:PySem.W.Frag) (H:Hp) (nJ:NK) (b:Addr):Prop:=∃bs:List Addr,SqT K H b (bs.map V.ref)/\Paired (fun c ks=>SqT K H c (ks.map kV)) bs nJ
section
variable {X:Cx} {pins:List (Addr×Obj)} {σ:L2.St} {H:Hp} {s:Shared} {a b:Addr} {xs:List (NK×Addr×Value)} {nJ:NK}
theorem tS.is (I:Inv X pins σ H s) (h:tS X.K H nJ b):fP (fk X.prog X.w) s.heap nJ b:=by
 obtain⟨bs,h1,h2⟩:=h;obtain⟨eE,r,⟨o,e,c,n,d⟩,_⟩:=I.tuple h1;refine⟨o,eE.toArray,n,e,c,d,?_⟩;have:∀{bs:List Addr} {nJ:NK} {eE:List Value},Vals (bs.map V.ref) eE->Paired (fun c ks=>SqT X.K H c (ks.map kV)) bs nJ->jk (fk X.prog X.w) s.heap nJ eE:=by
  intro bs nJ eE r p
  induction p generalizing eE with
  |nil=>cases r;exact .nil
  |@cons c ks cs kk h3 h4 ih=>
   cases r with
   |cons r1 r2=>
    cases r1;obtain⟨jts,r',⟨o',e',c',n',d'⟩,_⟩:=I.tuple h3;exact .cons ⟨o',jts.toArray,n',e',c',d',by simpa using wu r'⟩ (ih r2)
 simpa using this r h2
theorem LM.dict (I:Inv X pins σ H s) (e:H a=some (NO X.prog X.w a xs)) (his:∀x∈xs,tS X.K H x.1 x.2.1):s.heap.DictOfH (Al (fk X.prog X.w)) a xs/\xs.length<=sizeLine/\(a==sysModules)=false:=by
 obtain⟨⟨o,es,ep,h1,h2,h3,h4,h5,h6,h7⟩,_⟩:=(show h8 X.prog X.w H s.heap a (NO X.prog X.w a xs)from I.hok a _ e);exact⟨⟨o,es,ep,h1,h2,h3,h4,fun x hx=>(his x hx).is I,h5⟩,h6,h7⟩
theorem NO.ok {P:Program} {w:World} {H':Hp} {h':Heap} (h:LM P w a xs h'):h8 P w H' h' a (NO P w a xs):=by
 refine⟨h,?_,fun h1 h2 q k=>?_⟩
 .obtain⟨o,_,_,e,_⟩:=h;exact⟨o,e⟩
 .obtain⟨o,es,ep,e,r⟩:=q;exact⟨o,es,ep,k o e,r⟩
theorem LN:nN X (.builtin "len") (fun vs H Q=>∃a xs,vs= [V.ref a]/\H a=some (NO X.prog X.w a xs)/\(∀x∈xs,tS X.K H x.1 x.2.1)/\Q (.int xs.length) H):=by
 intro pins s σ H vs us Q I r h;obtain⟨a,xs,rfl,ha,his,q⟩:=h;obtain⟨u,rfl,ru⟩:=vals1 r;cases ru;obtain⟨dd,z,hd⟩:=LM.dict I ha his;refine NY hd dd (by rw[sizeLine_eq]at z;omega) ⟨.int xs.length,H,I.tok _,⟨_,rfl⟩,q⟩
def Td (X:Cx):TE:=fun _ H Q=>∀p,H p=none->Q (.ref p) (upd H p (NO X.prog X.w p []))
theorem NZ {pos:Pos}:PE X (.Dict [] [] pos) (Td X):=fun pins s σ H Q I h=>
 wpAny_Dict_empty ⟨.ref s.heap.objs.size,_,I.laid (a:=s.heap.objs.size) (o:=NO X.prog X.w s.heap.objs.size []) (t':=s.toks) (fun _ _ q=>aK _ q) (au _)
  (NO.ok ⟨_,#[],0,a8 _ rfl,⟨rfl,rfl,rfl⟩,rfl,rfl,List.nodup_nil,aO _,aW.mpr (cw (bq I.big))⟩),rfl,h _ (I.hok.fresh (au _))⟩
def Te (X:Cx) (td ty tx:TE):TE:=fun σ H Q=>td σ H fun x H1=>∃a,x= .ref a/\(∃xs,H1 a=some (NO X.prog X.w a xs)/\∀x∈xs,tS X.K H1 x.1 x.2.1)/\ty σ H1 fun y H2=>tx σ H2 fun z H3=>∃xs nJ b,H3 a=some (NO X.prog X.w a xs)/\
 y= .ref b/\tS X.K H3 nJ b/\(∀x∈xs,tS X.K H3 x.1 x.2.1)/\xs.length<sizeLine/\(∀p v,atKey xs nJ=some p->RelV v p.2->Q v H3)/\(atKey xs nJ=none->∀r,RelV z r->Q z (upd H3 a (NO X.prog X.w a (xs++ [(nJ,b,r)]))))/\
 (∀p,atKey xs nJ=some p->∃v,RelV v p.2)
theorem Iu {o e f:Expr} {apos mO:Pos} {td ty tx:TE} (hu:X.A.units+8<cLine) (ho:PE X o td) (he:PE X e ty) (hf:PE X f tx) (m:M2 X o "setdefault" apos e f mO):PE X (.Call (.Attribute o "setdefault" apos) [e,f] [] mO) (Te X td ty tx):=by
 intro pins s σ H Q I h;refine XB m.base m.few m.line PySem.F.plainAttrs_dict PySem.F.slot_dict_setdefault PySem.F.type_dict_setdefault (thn (ho pins s σ H _ I h) fun u s1 ⟨x,H1,I1,rx,a,ex,⟨xs1,d1,i1⟩,q1⟩=>?_)
 subst ex;obtain rfl:u=Value.ref a:=rx;obtain⟨dd,_,_⟩:=LM.dict I1 d1 i1;refine⟨dd.typeIs,fun b q=>?_,?_⟩
 .cases q;obtain⟨ob,_,_,h1,h2,_⟩:=dd;exact⟨ob,h1,h2.2.1⟩
 rw[m.trees];refine bD rfl (b9 (bI (thn (he pins s1 σ H1 _ I1 q1) fun iv s2 ⟨y,H2,I2,ry,q2⟩=>
  bI (thn (hf pins s2 σ H2 _ I2 q2) fun fv s3 ⟨z,H3,I3,rz,xs,nJ,b,ea,ey,nk,his,hl,q3,q4,q5⟩=>cB ?_))))
 subst ey;obtain rfl:iv=Value.ref b:=ry;obtain⟨dd3,z3,hd3⟩:=LM.dict I3 ea his;refine Xl PySem.F.slot_dict_setdefault dd3.typeIs PySem.F.entry_dict_setdefault (PySem.F.args_dict_setdefault_3 _ _ _) (vE (knd:=Al (fk X.prog X.w)) a b hd3 fv)
  ⟨by show X.A.units+1+4<cLine;omega,nJ,xs,nk.is I3,dd3,z3,fun p hp=>?_,fun hn h' dd' hs=>?_⟩
 .obtain⟨v,rv⟩:=q5 p hp;exact⟨v,H3,I3.tok _,rv,q3 p v hp rv⟩
 .refine⟨z,_,?_,rz,q4 hn fv rz⟩;obtain⟨q,es,ep,hq,h2,h3,h4,_,h5⟩:=dd';exact y6 I3 (by rw[ea];exact True.intro) hs ⟨q,hq⟩ (NO.ok ⟨q,es,ep,hq,h2,h3,h4,h5,by rw[List.length_append];exact hl,hd3⟩)
end
end L2
namespace Sl
open PySem PySem.Spec PyProof.Rows L2 TL
def NT (H:Hp) (p:Addr):Prop:=(∀xs,H p≠some (.tup xs))/\∀o u,H p≠some (.frz o u)
theorem NT.of {H:Hp} {p:Addr} {o:HO} (h:H p=some o) (h1:∀xs,o≠ .tup xs:=by intro _ q;cases q) (h2:∀q u,o≠ .frz q u:=by intro _ _ q;cases q):NT H p:=⟨fun xs e=>by rw[h]at e;injection e with e;exact h1 xs e,fun q u e=>by rw[h]at e;injection e with e;exact h2 q u e⟩
theorem dt {K:PySem.W.Frag} {S:List Addr} {H H':Hp} {a:Addr} {xs:List V} (h:SqT K H a xs) (k:dj S H H') (n:∀p∈S,NT H p):SqT K H' a xs:=by
 rcases h with(h|⟨o,h⟩)|h
 .exact .inl (.inl (k _ _ h fun q=>(n a q).1 _ h))
 .exact .inl (.inr ⟨o,k _ _ h fun q=>(n a q).2 _ _ h⟩)
 .exact .inr h
theorem fT {K:PySem.W.Frag} {H H':Hp} {a:Addr} {xs:List V} (h:SqT K H a xs) (s:dR H H'):SqT K H' a xs:=dt (S:=[]) h (.of s) (fun p hp=>by simp at hp)
def vk:Lo.Val->Int
 | .num _=>0
 | .nil=>1
 | .cell _=>2
def vn:Lo.Val->Int
 | .num z=>z
 | .nil=>0
 | .cell i=>(i:Int)
def m9 (K:PySem.W.Frag) (H:Hp) (a:Addr) (v:Lo.Val):Prop:=SqT K H a [.int (vk v),.int (vn v)]
structure CL where
 c:Addr
 dx:Addr
 f:Addr
 r:Addr
 s:Addr
 n:Addr
 h:Addr
 ho:List Nat
 z:Nat
def n8 (L:CL):List (Str×V):=[("firsts",.ref L.f),("rests",.ref L.r),("shapes",.ref L.s),("shape_numbers",.ref L.n),("holds",.ref L.h),("held",.int ((L.z:Nat):Int))]
def cmu (L:CL):List Addr:=[L.f,L.r,L.s,L.n,L.h,L.c]
def yy (q:Cm.LK×Cm.LK):NK:=[[.inl q.1.1,.inl q.1.2],[.inl q.2.1,.inl q.2.2]]
def Iv (K:PySem.W.Frag) (H:Hp) (d:List ((Cm.LK×Cm.LK)×Nat)) (xs:List (NK×Addr×Value)):Prop:=Paired (fun q x=>x.1=yy q.1/\tS K H x.1 x.2.1/\RelV (.int ((q.2:Nat):Int)) x.2.2) d xs
structure eC (c:Ct) (A:Ad) (H:Hp) (L:CL) (cs:List Lo.Cell) (sh:List Nat) (d:List ((Cm.LK×Cm.LK)×Nat)) (xs:List (NK×Addr×Value)):Prop where
 ins:H L.c=some (.ins A.dh L.dx (n8 L))
 fst:∃as:List Addr,H L.f=some (.lst (as.map V.ref))/\Paired (fun a (e:Lo.Cell)=>m9 c.K H a e.first) as cs
 rst:∃as:List Addr,H L.r=some (.lst (as.map V.ref))/\Paired (fun a (e:Lo.Cell)=>m9 c.K H a e.rest) as cs
 shp:H L.s=some (.lst (sh.map fun (n:Nat)=>V.int (n:Int)))
 num:H L.n=some (NO c.P c.w L.n xs)
 ent:Iv c.K H d xs
 sh:Cm.Sh cs sh d
 wf:Cm.WF cs
 d1:L.f≠L.r
 d2:L.f≠L.s
 d3:L.r≠L.s
 hol:H L.h=some (.lst (L.ho.map fun (n:Nat)=>V.int (n:Int)))
 hlen:L.ho.length=cs.length
 d4:L.f≠L.h
 d5:L.r≠L.h
 d6:L.s≠L.h
theorem tS.keep {K:PySem.W.Frag} {S:List Addr} {H H':Hp} {nJ:NK} {b:Addr} (h:tS K H nJ b) (k:dj S H H') (n:∀p∈S,NT H p):tS K H' nJ b:=by
 obtain⟨bs,h1,h2⟩:=h;exact⟨bs,dt h1 k n,Paired.jw h2 fun _ _ e=>dt e k n⟩
theorem Iv.keep {K:PySem.W.Frag} {S:List Addr} {H H':Hp} {d:List ((Cm.LK×Cm.LK)×Nat)} {xs:List (NK×Addr×Value)} (h:Iv K H d xs) (k:dj S H H') (n:∀p∈S,NT H p):Iv K H' d xs:=
 Paired.jw h fun _ _ e=>⟨e.1,tS.keep e.2.1 k n,e.2.2⟩
theorem eC.nt {c:Ct} {A:Ad} {H:Hp} {L:CL} {cs:List Lo.Cell} {sh:List Nat} {d:List ((Cm.LK×Cm.LK)×Nat)} {xs:List (NK×Addr×Value)} (h:eC c A H L cs sh d xs):∀p∈cmu L,NT H p:=by
 obtain⟨as,h1,_⟩:=h.fst;obtain⟨bs,h2,_⟩:=h.rst;intro p hp;simp only[cmu,ag,aJ,bw]at hp;rcases hp with rfl|rfl|rfl|rfl|rfl|rfl
 .exact NT.of h1
 .exact NT.of h2
 .exact NT.of h.shp
 .exact NT.of h.num
 .exact NT.of h.hol
 .exact NT.of h.ins
theorem eC.keep {c:Ct} {A:Ad} {S:List Addr} {H H':Hp} {L:CL} {cs:List Lo.Cell} {sh:List Nat} {d:List ((Cm.LK×Cm.LK)×Nat)} {xs:List (NK×Addr×Value)} (h:eC c A H L cs sh d xs) (k:dj S H H') (n:∀p∈S,NT H p)
  (hS:∀p∈S,p≠L.c/\p∉cmu L):eC c A H' L cs sh d xs:=by
 obtain⟨as,h1,h2⟩:=h.fst;obtain⟨bs,h3,h4⟩:=h.rst;have no:∀p,p∈cmu L->p∉S:=fun p hp q=>(hS p q).2 hp
 refine⟨k _ _ h.ins (fun q=>(hS _ q).1 rfl),⟨as,k _ _ h1 (no _ (by simp[cmu])),Paired.jw h2 fun _ _ e=>dt e k n⟩,⟨bs,k _ _ h3 (no _ (by simp[cmu])),Paired.jw h4 fun _ _ e=>dt e k n⟩,
  k _ _ h.shp (no _ (by simp[cmu])),k _ _ h.num (no _ (by simp[cmu])),h.ent.keep k n,h.sh,h.wf,h.d1,h.d2,h.d3,k _ _ h.hol (no _ (by simp[cmu])),h.hlen,h.d4,h.d5,h.d6⟩
theorem eC.same {c:Ct} {A:Ad} {H H':Hp} {L:CL} {cs:List Lo.Cell} {sh:List Nat} {d:List ((Cm.LK×Cm.LK)×Nat)} {xs:List (NK×Addr×Value)} (h:eC c A H L cs sh d xs) (s:dR H H'):eC c A H' L cs sh d xs:=
 h.keep (S:=[]) (.of s) (fun p hp=>by simp at hp) (fun p hp=>by simp at hp)
def Vals (K:PySem.W.Frag) (H:Hp):List Addr->List Lo.Val->Prop:=Paired fun a v=>m9 K H a v
theorem Vals.keep {K:PySem.W.Frag} {S:List Addr} {H H':Hp} {as:List Addr} {l:List Lo.Val} (h:Vals K H as l) (k:dj S H H') (n:∀p∈S,NT H p):Vals K H' as l:=Paired.jw h fun _ _ e=>dt e k n
theorem Vals.same {K:PySem.W.Frag} {H H':Hp} {as:List Addr} {l:List Lo.Val} (h:Vals K H as l) (s:dR H H'):Vals K H' as l:=Paired.jw h fun _ _ e=>fT e s
theorem l0 (a b e f:Int):PyData.eqv (.tuple [.int a,.int b]) (.tuple [.int e,.int f])=decide (((a,b):Int×Int)=(e,f)):=by
 show ((a==e)&&((b==f)&&true))=_;by_cases h1:a=e
 .by_cases h2:b=f
  .subst h1;subst h2;simp
  .simp[h2]
 .simp[h1]
theorem eW (a b:Int):SeqAt.shaped (.tuple [.int a,.int b])=true:=by rfl
theorem iP {K:PySem.W.Frag} {H:Hp} {p:Addr} {a b:Int} (h:SqT K H p [.int a,.int b]):Dp K H (.ref p) (.tuple [.int a,.int b]):=.tup h (.cons (.int a) (.cons (.int b) .nil))
theorem gX {α β:Type} {G:α->β->Prop} {as:List α} {bs:List β} (h:Paired G as bs) {i:Nat} {b:β} (e:bs[i]?=some b):∃a,as[i]?=some a/\G a b:=by
 induction h generalizing i with
 |nil=>simp at e
 |cons h1 h2 ih=>
  cases i with
  |zero=>simp at e;subst e;exact⟨_,rfl,h1⟩
  |succ i=>exact ih (by simpa using e)
section
variable {c:Ct} {A:Ad}
abbrev pP:Stmt:=inClass (top 23) 5
theorem BC:cW ["self","value"] ["self","value"] (cS pP):=fsc
inductive zh (c:Ct) (A:Ad) (vs:List V) (H:Hp) (Q:VK) (E:XK):Prop
 |mk:∀L cs sh d xs a v,vs= [.ref (CL.c L),.ref a]->eC c A H L cs sh d xs->m9 c.K H a v->Cm.below v cs.length->(∀H' b,dR H H'->SqT c.K H' b [.int (Cm.look sh v).1,.int (Cm.look sh v).2]->Q (.ref b) H')->zh c A vs H Q E
theorem Qe (T:Tx c A) (D:Dm c A.dh "look" "Cells.look" pP ["self","value"]):dA c 1 A.dh "look" (zh c A):=by
 refine D.good BC ?_;rintro X H _ Q E rfl a sn hr ⟨L,cs,sh,d,xs,av,v,rfl,R,hv,hb,k⟩;refine⟨_,(cN (dX (iK iR (ixT (vr sn 1) cT) (pc_ T.rg (gl sn))) (cQ (cV (h9 (cK (pc_ T.rg (gl sn)) (cK (ixL (df (vr sn 0) rfl) (ixT (vr sn 1) cT)) cO))))) dr) (cQ (cV (vr sn 1)))),?_⟩;refine⟨_,rfl,av,_,_,_,rfl,rfl,hv,cX (j:=0) rfl,rfl,_,rfl,?_⟩;cases v with
 |num z=>exact eY ⟨_,rfl,k H av (.refl _) hv⟩
 |nil=>exact eY ⟨_,rfl,k H av (.refl _) hv⟩
 |cell i=>
  have hi:i<sh.length:=by rw[R.sh.len];exact hb
  refine fm ⟨_,rfl,L.c,_,L.dx,_,_,rfl,R.ins,T.dw,T.jm,rfl,_,rfl,av,_,_,_,rfl,rfl,hv,cX (j:=1) rfl,L.s,_,_,_,rfl,rfl,SqL.of R.shp,cX (v:=V.int ((sh.getD i 0:Nat):Int)) ?_,sz,fun p hp=>k _ p (.dm hp) (SqT.of cP)⟩
  rw[aF,af hi,ah,af hi];rfl
abbrev kR:Stmt:=inClass (top 23) 6
theorem tT:cW ["self","one","other"] ["self","one","other"] (cS kR):=fsc
inductive mK (c:Ct) (A:Ad) (vs:List V) (H:Hp) (Q:VK) (E:XK):Prop
 |mk:∀L cs sh d xs a v b u,vs= [.ref (CL.c L),.ref a,.ref b]->eC c A H L cs sh d xs->m9 c.K H a v->m9 c.K H b u->Cm.below v cs.length->Cm.below u cs.length->(∀H',dR H H'->Q (.bl (Lo.alike cs.toArray v u)) H')->mK c A vs H Q E
theorem D0 (T:Tx c A) (D:Dm c A.dh "are_alike" "Cells.are_alike" kR ["self","one","other"]) (iG:dA c 1 A.dh "look" (zh c A)):dA c 2 A.dh "are_alike" (mK c A):=by
 refine D.good tT ?_;rintro X H _ Q E rfl a sn hr ⟨L,cs,sh,d,xs,av,v,bv,u,rfl,R,hv,hu,hb1,hb2,k⟩;refine⟨_,(cQ (cV (yZ (Dn hr.units) (pm_ T.dw iG (hmo hr) (vr sn 0) (cK (vr sn 1) cO)) (pm_ T.dw iG (hmo hr) (vr sn 0) (cK (vr sn 2) cO)) (qP _)))),?_⟩;refine⟨_,rfl,L.c,L.dx,_,rfl,R.ins,rfl,_,rfl,L,cs,sh,d,xs,av,v,rfl,R,hv,hb1,fun H1 b1 s1 h1=>?_⟩
 have R1:=R.same s1;refine⟨_,rfl,L.c,L.dx,_,rfl,R1.ins,rfl,_,rfl,L,cs,sh,d,xs,bv,u,rfl,R1,fT hu s1,hb2,fun H2 b2 s2 h2=>?_⟩
 refine⟨_,_,iP (fT h1 s2),iP h2,eW _ _,eW _ _,?_⟩;rw[l0];have:=Cm.Sh.alike (cs:=cs.toArray) (by simpa using R.sh) (by simpa using R.wf) (v:=v) (u:=u) (by simpa using hb1) (by simpa using hb2)
 have k:=k H2 (s1.trans s2);rw[this]at k;exact k
abbrev lK:Stmt:=inClass (top 23) 7
theorem vF:cW ["self","cell"] ["self","cell"] (cS lK):=fsc
inductive kU (c:Ct) (A:Ad) (f:Lo.Cell->Lo.Val) (vs:List V) (H:Hp) (Q:VK) (E:XK):Prop
 |mk:∀L cs sh d xs a i e,vs= [.ref (CL.c L),.ref a]->eC c A H L cs sh d xs->m9 c.K H a (.cell i)->cs[i]?=some e->(∀b,m9 c.K H b (f e)->Q (.ref b) H)->kU c A f vs H Q E
theorem Gs (T:Tx c A) (D:Dm c A.dh "first_of" "Cells.first_of" lK ["self","cell"]):dA c 1 A.dh "first_of" (kU c A Lo.Cell.first):=by
 refine D.good vF ?_;rintro X H _ Q E rfl a sn hr ⟨L,cs,sh,d,xs,av,i,e,rfl,R,hv,he,k⟩;refine⟨_,(cQ (cV (ixL (df (vr sn 0) rfl) (ixT (vr sn 1) cT)))),?_⟩;obtain⟨as,h1,h2⟩:=R.fst;obtain⟨b,hb,hbv⟩:=gX h2 he;exact⟨_,rfl,L.c,_,L.dx,_,_,rfl,R.ins,T.dw,T.fu,rfl,_,rfl,av,_,_,_,rfl,rfl,hv,cX (j:=1) rfl,L.f,_,_,_,rfl,rfl,SqL.of h1,cX (v:=V.ref b) (by rw[aF,hb];rfl),k b hbv⟩
abbrev mj:Stmt:=inClass (top 23) 8
theorem wV:cW ["self","cell"] ["self","cell"] (cS mj):=fsc
theorem Iw (T:Tx c A) (D:Dm c A.dh "rest_of" "Cells.rest_of" mj ["self","cell"]):dA c 1 A.dh "rest_of" (kU c A Lo.Cell.rest):=by
 refine D.good wV ?_;rintro X H _ Q E rfl a sn hr ⟨L,cs,sh,d,xs,av,i,e,rfl,R,hv,he,k⟩;refine⟨_,(cQ (cV (ixL (df (vr sn 0) rfl) (ixT (vr sn 1) cT)))),?_⟩;obtain⟨as,h1,h2⟩:=R.rst;obtain⟨b,hb,hbv⟩:=gX h2 he;exact⟨_,rfl,L.c,_,L.dx,_,_,rfl,R.ins,T.dw,T.iZ,rfl,_,rfl,av,_,_,_,rfl,rfl,hv,cX (j:=1) rfl,L.r,_,_,_,rfl,rfl,SqL.of h1,cX (v:=V.ref b) (by rw[aF,hb];rfl),k b hbv⟩
end
theorem N0 {p q:Cm.LK×Cm.LK} (h:yy p=yy q):p=q:=by
 obtain⟨⟨a,b⟩,⟨e,f⟩⟩:=p;obtain⟨⟨a',b'⟩,⟨e',f'⟩⟩:=q;simp only[yy,ck,Sum.inl.injEq,and_true]at h;obtain⟨⟨rfl,rfl⟩,rfl,rfl⟩:=h;rfl
theorem Iy {K:PySem.W.Frag} {H:Hp} {d:List ((Cm.LK×Cm.LK)×Nat)} {xs:List (NK×Addr×Value)} (h:Iv K H d xs) (q:Cm.LK×Cm.LK):
  (∀n,Cm.ql d q=some n->∃pr,atKey xs (yy q)=some pr/\RelV (.int (n:Int)) pr.2)/\(Cm.ql d q=none->atKey xs (yy q)=none):=by
 unfold Cm.ql atKey
 induction h with
 |nil=>exact⟨fun n e=>(by cases e),fun _=>rfl⟩
 |@cons p x ps xs' h1 h2 ih=>
  by_cases e:p.1=q
  .have e2:x.1=yy q:=by rw[h1.1,e]
   rw[XO (by simp[e]),XO (by simp[e2])]
   exact⟨fun n hn=>⟨x.2,rfl,by rw[<-(show p.2=n from a9 hn)];exact h1.2.2⟩,fun z=>by cases z⟩
  .have e2:x.1≠yy q:=fun z=>e (N0 (by rw[<-h1.1,z]))
   rw[XQ (by simp[e]),XQ (by simp[e2])]
   exact ih
theorem Iv.keys {K:PySem.W.Frag} {H:Hp} {d:List ((Cm.LK×Cm.LK)×Nat)} {xs:List (NK×Addr×Value)} (h:Iv K H d xs):∀x∈xs,tS K H x.1 x.2.1:=by
 induction h with
 |nil=>intro x hx;simp at hx
 |cons h1 _ ih=>
  intro x hx;rcases ag.mp hx with rfl|hx
  .exact h1.2.1
  .exact ih x hx
section
variable {c:Ct} {A:Ad}
abbrev lL:Stmt:=inClass (top 23) 0
theorem vG:cW ["self"] ["self"] (cS lL):=fsc
inductive oo (c:Ct) (A:Ad) (vs:List V) (H:Hp) (Q:VK) (E:XK):Prop
 |mk:∀(x dx:Addr),vs= [.ref x]->H x=some (.ins A.dh dx [])->(∀H' L,CL.c L=x->L.ho= []->L.z=0->eC c A H' L [] [] [] []->(∀b o,H b=some o->b≠x->H' b=some o)->(∀p∈cmu L,p=x\/H p=none)->Q .non H')->oo c A vs H Q E
theorem BD (T:Tx c A) (D:Dm c A.dh "__init__" "Cells.__init__" lL ["self"]):dA c 1 A.dh "__init__" (oo c A):=by
 refine D.good vG ?_;rintro X H _ Q E rfl a sn hr ⟨x,dx,rfl,hx,k⟩;refine⟨_,(cN (eP (vr sn 0) (eX cO) rfl) (cN (eP (vr sn 0) (eX cO) rfl) (cN (eP (vr sn 0) (eX cO) rfl) (cN (eP (vr sn 0) NZ rfl) (cN (eP (vr sn 0) (eX cO) rfl) (cQ (eP (vr sn 0) cT rfl))))))),?_⟩;refine⟨aO _,fun pf hf=>⟨_,rfl,x,_,dx,_,rfl,by rw[cR (cM hx hf)];exact hx,T.dw,T.fu,(by decide),?_⟩⟩
 have nfx:pf≠x:=(cM hx hf).symm;generalize hH1:upd (upd H pf (.lst [])) x (.ins A.dh dx (dE "firsts" (.ref pf) []))=H1;have g1:∀b o,H b=some o->b≠x->H1 b=some o:=fun b o e n=>by rw[<-hH1,cR n,cR (cM e hf)];exact e
 have x1:H1 x=some (.ins A.dh dx (dE "firsts" (.ref pf) [])):=by rw[<-hH1];exact cP
 have f1:H1 pf=some (.lst []):=by rw[<-hH1,cR nfx];exact cP
 refine⟨aO _,fun pr hr'=>⟨_,rfl,x,_,dx,_,rfl,by rw[cR (cM x1 hr')];exact x1,T.dw,T.iZ,(by show 1<1000;decide),?_⟩⟩
 have nrx:pr≠x:=(cM x1 hr').symm;have nfr:pf≠pr:=cM f1 hr';have hr0:H pr=none:=by
  cases q:H pr with
  |none=>rfl
  |some o=>rw[g1 _ _ q nrx]at hr';cases hr'
 generalize hH2:upd (upd H1 pr (.lst [])) x (.ins A.dh dx (dE "rests" (.ref pr) (dE "firsts" (.ref pf) [])))=H2;have g2:∀b o,H1 b=some o->b≠x->H2 b=some o:=fun b o e n=>by rw[<-hH2,cR n,cR (cM e hr')];exact e
 have x2:H2 x=some (.ins A.dh dx (dE "rests" (.ref pr) (dE "firsts" (.ref pf) []))):=by rw[<-hH2];exact cP
 have r2:H2 pr=some (.lst []):=by rw[<-hH2,cR nrx];exact cP
 have f2:=g2 _ _ f1 nfx;refine⟨aO _,fun ps hs'=>⟨_,rfl,x,_,dx,_,rfl,by rw[cR (cM x2 hs')];exact x2,T.dw,T.jm,(by show 2<1000;decide),?_⟩⟩
 have nsx:ps≠x:=(cM x2 hs').symm;have nfs:pf≠ps:=cM f2 hs';have nrs:pr≠ps:=cM r2 hs';have hs0:H ps=none:=by
  cases q:H ps with
  |none=>rfl
  |some o=>rw[g2 _ _ (g1 _ _ q nsx) nsx]at hs';cases hs'
 generalize hH3:upd (upd H2 ps (.lst [])) x (.ins A.dh dx (dE "shapes" (.ref ps) (dE "rests" (.ref pr) (dE "firsts" (.ref pf) []))))=H3;have g3:∀b o,H2 b=some o->b≠x->H3 b=some o:=fun b o e n=>by rw[<-hH3,cR n,cR (cM e hs')];exact e
 have x3:H3 x=some (.ins A.dh dx (dE "shapes" (.ref ps) (dE "rests" (.ref pr) (dE "firsts" (.ref pf) [])))):=by rw[<-hH3];exact cP
 have s3:H3 ps=some (.lst []):=by rw[<-hH3,cR nsx];exact cP
 have f3:=g3 _ _ f2 nfx;have r3:=g3 _ _ r2 nrx;intro pn hn';refine⟨_,rfl,x,_,dx,_,rfl,by rw[cR (cM x3 hn')];exact x3,T.dw,T.fM,(by show 3<1000;decide),?_⟩
 have nnx:pn≠x:=(cM x3 hn').symm;have hn0:H pn=none:=by
  cases q:H pn with
  |none=>rfl
  |some o=>rw[g3 _ _ (g2 _ _ (g1 _ _ q nnx) nnx) nnx]at hn';cases hn'
 generalize hH4:upd (upd H3 pn (NO X.prog X.w pn [])) x (.ins A.dh dx (dE "shape_numbers" (.ref pn) (dE "shapes" (.ref ps) (dE "rests" (.ref pr) (dE "firsts" (.ref pf) [])))))=H4;have g4:∀b o,H3 b=some o->b≠x->H4 b=some o:=fun b o e n=>by rw[<-hH4,cR n,cR (cM e hn')];exact e
 have x4:H4 x=some (.ins A.dh dx (dE "shape_numbers" (.ref pn) (dE "shapes" (.ref ps) (dE "rests" (.ref pr) (dE "firsts" (.ref pf) []))))):=by rw[<-hH4];exact cP
 have n4:H4 pn=some (NO X.prog X.w pn []):=by rw[<-hH4,cR nnx];exact cP
 have f4:=g4 _ _ f3 nfx;have r4:=g4 _ _ r3 nrx;have s4:=g4 _ _ s3 nsx;refine⟨aO _,fun ph hh'=>⟨_,rfl,x,_,dx,_,rfl,by rw[cR (cM x4 hh')];exact x4,T.dw,T.fN,(by show 4<1000;decide),?_⟩⟩
 have nhx:ph≠x:=(cM x4 hh').symm;have nfh:pf≠ph:=cM f4 hh';have nrh:pr≠ph:=cM r4 hh';have nsh:ps≠ph:=cM s4 hh';have hh0:H ph=none:=by
  cases q:H ph with
  |none=>rfl
  |some o=>rw[g4 _ _ (g3 _ _ (g2 _ _ (g1 _ _ q nhx) nhx) nhx) nhx]at hh';cases hh'
 generalize hH5:upd (upd H4 ph (.lst [])) x (.ins A.dh dx (dE "holds" (.ref ph) (dE "shape_numbers" (.ref pn) (dE "shapes" (.ref ps) (dE "rests" (.ref pr) (dE "firsts" (.ref pf) []))))))=H5;have g5:∀b o,H4 b=some o->b≠x->H5 b=some o:=fun b o e n=>by rw[<-hH5,cR n,cR (cM e hh')];exact e
 have x5:H5 x=some (.ins A.dh dx (dE "holds" (.ref ph) (dE "shape_numbers" (.ref pn) (dE "shapes" (.ref ps) (dE "rests" (.ref pr) (dE "firsts" (.ref pf) [])))))):=by rw[<-hH5];exact cP
 have h5:H5 ph=some (.lst []):=by rw[<-hH5,cR nhx];exact cP
 refine⟨_,rfl,x,_,dx,_,rfl,x5,T.dw,T.js,(by show 5<1000;decide),?_⟩
 have g6:∀b o,H5 b=some o->b≠x->upd H5 x (.ins A.dh dx (n8 ⟨x,dx,pf,pr,ps,pn,ph,[],0⟩)) b=some o:=fun b o e n=>by rw[cR n];exact e
 refine k _ ⟨x,dx,pf,pr,ps,pn,ph,[],0⟩ rfl rfl rfl ⟨cP,⟨[],g6 _ _ (g5 _ _ f4 nfx) nfx,.nil⟩,⟨[],g6 _ _ (g5 _ _ r4 nrx) nrx,.nil⟩,g6 _ _ (g5 _ _ s4 nsx) nsx,g6 _ _ (g5 _ _ n4 nnx) nnx,.nil,Cm.Sh.nil,fun i e h=>by simp at h,nfr,nfs,nrs,g6 _ _ h5 nhx,rfl,nfh,nrh,nsh⟩ (fun b o e n=>g6 _ _ (g5 _ _ (g4 _ _ (g3 _ _ (g2 _ _ (g1 _ _ e n) n) n) n) n) n) ?_
 intro p hp;simp only[cmu,ag,aJ,bw]at hp;rcases hp with rfl|rfl|rfl|rfl|rfl|rfl
 .exact .inr hf
 .exact .inr hr0
 .exact .inr hs0
 .exact .inr hn0
 .exact .inr hh0
 .exact .inl rfl
abbrev pQ:Stmt:=inClass (top 23) 1
theorem BE:cW ["self","first","rest","looks"] ["self","first","rest"] (cS pQ):=fsc
inductive D1 (c:Ct) (A:Ad) (vs:List V) (H:Hp) (Q:VK) (E:XK):Prop
 |mk:∀L cs sh d xs a v b u,vs= [.ref (CL.c L),.ref a,.ref b]->eC c A H L cs sh d xs->m9 c.K H a v->m9 c.K H b u->Cm.below v cs.length->Cm.below u cs.length->cs.length<=10000->d.length<=10000->(∀H' p sh' d' xs',eC c A H' {L with ho:=L.ho++ [0]} (cs++ [⟨v,u⟩]) sh' d' xs'->d'.length<=d.length+1->H' p=some (.tup [.int 2,.int (cs.length:Int)])->dj (cmu L) H H'->Q (.ref p) H')->D1 c A vs H Q E
theorem Qg (T:Tx c A) (D:Dm c A.dh "make" "Cells.make" pQ ["self","first","rest"]) (iG:dA c 1 A.dh "look" (zh c A)):dA c 2 A.dh "make" (D1 c A):=by
 refine D.good BE ?_;rintro X H _ Q E rfl a sn hr ⟨L,cs,sh,d,xs,av,v,bv,u,rfl,R,hv,hu,hb1,hb2,hlc,hld,k⟩;refine⟨_,(cN (pSt sn 3 (h9 (cK (pm_ T.dw iG (hmo hr) (vr sn 0) (cK (vr sn 1) cO)) (cK (pm_ T.dw iG (hmo hr) (vr sn 0) (cK (vr sn 2) cO)) cO)))) (cN (dH (jJ PySem.F.plainAttrs_list PySem.F.slot_list_append PySem.F.type_list_append fh (df (vr sn 0) rfl) (cK (Iu (by have:=hr.units;omega) (df (vr sn 0) rfl) (vr sn 3) (dv LN (gl sn) T.fE PySem.boot_len (cK (df (vr sn 0) rfl) cO)) ⟨rfl,rfl,rfl,rfl⟩) cO))) (cN (dH (jJ PySem.F.plainAttrs_list PySem.F.slot_list_append PySem.F.type_list_append fh (df (vr sn 0) rfl) (cK (vr sn 1) cO))) (cN (dH (jJ PySem.F.plainAttrs_list PySem.F.slot_list_append PySem.F.type_list_append fh (df (vr sn 0) rfl) (cK (vr sn 2) cO))) (cN (dH (jJ PySem.F.plainAttrs_list PySem.F.slot_list_append PySem.F.type_list_append fh (df (vr sn 0) rfl) (cK cT cO))) (cQ (cV (h9 (cK (pc_ T.rg (gl sn)) (cK (fB md (dv dk (gl sn) T.fE PySem.boot_len (cK (df (vr sn 0) rfl) cO)) cT) cO)))))))))),?_⟩
 refine⟨_,rfl,L.c,L.dx,_,rfl,R.ins,rfl,_,rfl,L,cs,sh,d,xs,av,v,rfl,R,hv,hb1,fun H1 b1 s1 h1=>?_⟩
 have R1:=R.same s1;refine⟨_,rfl,L.c,L.dx,_,rfl,R1.ins,rfl,_,rfl,L,cs,sh,d,xs,bv,u,rfl,R1,fT hu s1,hb2,fun H2 b2 s2 h2=>⟨sz,fun p hp=>?_⟩⟩
 have h1:=fT h1 s2;have s3':dR H2 (upd H2 p (.tup [V.ref b1,V.ref b2])):=.dm hp;have nkp:tS X.K (upd H2 p (.tup [V.ref b1,V.ref b2])) (yy (Cm.looks sh ⟨v,u⟩)) p:=⟨[b1,b2],SqT.of cP,.cons (fT h1 s3') (.cons (fT h2 s3') .nil)⟩;generalize upd H2 p (.tup [V.ref b1,V.ref b2])=H3 at nkp s3'⊢;have sH:dR H H3:=(s1.trans s2).trans s3';have R3:=R.same sH;obtain⟨fs',f3,hfs3⟩:=R3.fst;obtain⟨rs',r3,hrs3⟩:=R3.rst;obtain⟨fs,f0,hfs⟩:=R.fst;obtain⟨rs,r0,hrs⟩:=R.rst;have ef:fs.map V.ref=fs'.map V.ref:=by have:=sH _ _ f0;rw[f3]at this;injection this with this;injection this with this;exact this.symm
 have er:rs.map V.ref=rs'.map V.ref:=by have:=sH _ _ r0;rw[r3]at this;injection this with this;injection this with this;exact this.symm
 have inj:∀{x y:List Addr},x.map V.ref=y.map V.ref->x=y:=fun {x y} h=>(List.map_inj_right (fun a b e=>by injection e)).mp h
 have ef:=inj ef;have er:=inj er;subst ef er;have ins3:=R3.ins;have s3:=R3.shp;have n3:=R3.num;have o3:=R3.hol;have his:=R3.ent.keys;have k3:dj (cmu L) H H3:=.of sH;have hxl:xs.length=d.length:=(Paired.length R.ent).symm;obtain⟨af1,af2⟩:=Iy R3.ent (Cm.looks sh ⟨v,u⟩);refine⟨_,rfl,L.c,_,L.dx,_,_,rfl,ins3,T.dw,T.jm,rfl,.inl ⟨rfl,_,SqL.of s3⟩,_,rfl,L.c,_,L.dx,_,_,rfl,ins3,T.dw,T.fM,rfl,L.n,rfl,⟨xs,n3,his⟩,_,rfl,_,rfl,L.c,_,L.dx,_,_,rfl,ins3,T.dw,T.fM,rfl,L.n,xs,rfl,n3,his,
  xs,yy (Cm.looks sh ⟨v,u⟩),p,n3,rfl,nkp,his,by rw[hxl];exact aE hld (by decide),fun pr vv hpr rv=>?_,fun hno r rr=>?_,fun pr hpr=>?_⟩
 .cases hdf:Cm.ql d (Cm.looks sh ⟨v,u⟩)with
  |none=>rw[af2 hdf]at hpr;cases hpr
  |some nn=>
   obtain⟨pr',hpr',rv'⟩:=af1 nn hdf;rw[hpr]at hpr';cases hpr';have evv:vv=V.int (nn:Int):=rv.inj rv';subst evv;have ins4:=ins3;have f4:=f3;have r4:=r3;have s4:=s3;have o4:=o3;refine⟨L.s,_,_,rfl,rfl,s4,by rw[List.length_map,R.sh.len];exact aE hlc (by decide),?_⟩
   generalize hH5:upd H3 L.s (.lst ((sh.map fun (n:Nat)=>V.int (n:Int))++ [_]))=H5
   have q5:∀b o,H3 b=some o->b≠L.s->H5 b=some o:=fun b o e n=>by rw[<-hH5,cR n];exact e
   have s5:H5 L.s=some (.lst ((sh++ [nn]).map fun (n:Nat)=>V.int (n:Int))):=by rw[<-hH5,cP,aA];rfl
   have ins5:=q5 _ _ ins4 (neo ins4 s4);have f5:=q5 _ _ f4 R.d2;have o5:=q5 _ _ o4 R.d6.symm;have r5:=q5 _ _ r4 R.d3;have n5:=q5 _ _ n3 (neo n3 s4);have k5:dj (cmu L) H H5:=by rw[<-hH5];exact dj.d7 k3 (by simp[cmu])
   refine⟨_,rfl,L.c,_,L.dx,_,_,rfl,ins5,T.dw,T.fu,rfl,.inl ⟨rfl,_,SqL.of f5⟩,_,rfl,L.f,_,_,rfl,rfl,f5,by rw[List.length_map,Paired.length hfs];exact aE hlc (by decide),?_⟩
   generalize hH6:upd H5 L.f (.lst (fs.map V.ref++ [V.ref av]))=H6;have q6:∀b o,H5 b=some o->b≠L.f->H6 b=some o:=fun b o e n=>by rw[<-hH6,cR n];exact e
   have f6:H6 L.f=some (.lst ((fs++ [av]).map V.ref)):=by rw[<-hH6,cP,aA];rfl
   have ins6:=q6 _ _ ins5 (neo ins5 f5);have r6:=q6 _ _ r5 R.d1.symm;have o6:=q6 _ _ o5 R.d4.symm;have s6:=q6 _ _ s5 R.d2.symm;have n6:=q6 _ _ n5 (neo n5 f5);have k6:dj (cmu L) H H6:=by rw[<-hH6];exact dj.d7 k5 (by simp[cmu])
   refine⟨_,rfl,L.c,_,L.dx,_,_,rfl,ins6,T.dw,T.iZ,rfl,.inl ⟨rfl,_,SqL.of r6⟩,_,rfl,L.r,_,_,rfl,rfl,r6,by rw[List.length_map,Paired.length hrs];exact aE hlc (by decide),?_⟩
   generalize hH7:upd H6 L.r (.lst (rs.map V.ref++ [V.ref bv]))=H7;have q7:∀b o,H6 b=some o->b≠L.r->H7 b=some o:=fun b o e n=>by rw[<-hH7,cR n];exact e
   have r7:H7 L.r=some (.lst ((rs++ [bv]).map V.ref)):=by rw[<-hH7,cP,aA];rfl
   have ins7:=q7 _ _ ins6 (neo ins6 r6);have f7:=q7 _ _ f6 R.d1;have o7:=q7 _ _ o6 R.d5.symm;have s7:=q7 _ _ s6 R.d3.symm;have n7:=q7 _ _ n6 (neo n6 r6);have k7:dj (cmu L) H H7:=by rw[<-hH7];exact dj.d7 k6 (by simp[cmu])
   refine⟨_,rfl,L.c,_,L.dx,_,_,rfl,ins7,T.dw,T.fN,rfl,.inl ⟨rfl,_,SqL.of o7⟩,L.h,_,_,rfl,rfl,o7,by rw[List.length_map,R.hlen];exact aE hlc (by decide),?_⟩
   generalize hH9:upd H7 L.h (.lst ((L.ho.map fun (n:Nat)=>V.int (n:Int))++ [V.int 0]))=H9
   have q9:∀b o,H7 b=some o->b≠L.h->H9 b=some o:=fun b o e n=>by rw[<-hH9,cR n];exact e
   have o9:H9 L.h=some (.lst ((L.ho++ [0]).map fun (n:Nat)=>V.int (n:Int))):=by rw[<-hH9,cP,aA];rfl
   have ins9:=q9 _ _ ins7 (neo ins7 o7);have f9:=q9 _ _ f7 R.d4;have r9:=q9 _ _ r7 R.d5;have s9:=q9 _ _ s7 R.d6;have n9:=q9 _ _ n7 (neo n7 o7);have k9:dj (cmu L) H H9:=by rw[<-hH9];exact dj.d7 k7 (by simp[cmu])
   refine⟨_,rfl,L.c,_,L.dx,_,_,rfl,ins9,T.dw,T.fu,rfl,L.f,_,rfl,.inl (SqL.of f9),_,_,rfl,rfl,sz,fun p2 qh=>?_⟩
   have enum:(((fs++ [av]).map V.ref).length:Int)-1=(cs.length:Int):=by rw[List.length_map,List.length_append,Paired.length hfs];simp
   rw[enum];have s8:dR H9 (upd H9 p2 (.tup [.int 2,.int (cs.length:Int)])):=.dm qh;have k8:dj (cmu L) H (upd H9 p2 (.tup [.int 2,.int (cs.length:Int)])):=fun b o e n=>s8 _ _ (k9 b o e n)
   have snoc:=R.sh.snoc R.wf (c:=⟨v,u⟩) hb1 hb2;unfold Cm.CK at snoc;rw[hdf]at snoc;refine k _ p2 _ _ _ ⟨s8 _ _ ins9,⟨_,s8 _ _ f9,Paired.snoc (Paired.jw hfs fun _ _ e=>dt e k8 R.nt) (dt hv k8 R.nt)⟩,⟨_,s8 _ _ r9,Paired.snoc (Paired.jw hrs fun _ _ e=>dt e k8 R.nt) (dt hu k8 R.nt)⟩,
    s8 _ _ s9,s8 _ _ n9,R.ent.keep k8 R.nt,snoc,R.wf.snoc hb1 hb2,R.d1,R.d2,R.d3,s8 _ _ o9,by show (L.ho++ [0]).length=(cs++ [_]).length;rw[List.length_append,List.length_append,R.hlen];rfl,R.d4,R.d5,R.d6⟩ (X1 d.length) cP k8
 .cases hdf:Cm.ql d (Cm.looks sh ⟨v,u⟩)with
  |some nn=>obtain⟨pr',hpr',_⟩:=af1 nn hdf;rw[hno]at hpr';cases hpr'
  |none=>
   generalize hH4:upd H3 L.n (NO X.prog X.w L.n (xs++ [(yy (Cm.looks sh ⟨v,u⟩),p,r)]))=H4;have q4:∀b o,H3 b=some o->b≠L.n->H4 b=some o:=fun b o e n=>by rw[<-hH4,cR n];exact e
   have n4:H4 L.n=some (NO X.prog X.w L.n (xs++ [(yy (Cm.looks sh ⟨v,u⟩),p,r)])):=by rw[<-hH4];exact cP
   have k4:dj (cmu L) H H4:=by rw[<-hH4];exact dj.d7 k3 (by simp[cmu])
   rw[hxl]at rr⊢;have ins4:=q4 _ _ ins3 (neo ins3 n3);have f4:=q4 _ _ f3 (neo f3 n3);have r4:=q4 _ _ r3 (neo r3 n3);have s4:=q4 _ _ s3 (neo s3 n3);have o4:=q4 _ _ o3 (neo o3 n3);refine⟨L.s,_,_,rfl,rfl,s4,by rw[List.length_map,R.sh.len];exact aE hlc (by decide),?_⟩
   generalize hH5:upd H4 L.s (.lst ((sh.map fun (n:Nat)=>V.int (n:Int))++ [_]))=H5
   have q5:∀b o,H4 b=some o->b≠L.s->H5 b=some o:=fun b o e n=>by rw[<-hH5,cR n];exact e
   have s5:H5 L.s=some (.lst ((sh++ [d.length]).map fun (n:Nat)=>V.int (n:Int))):=by rw[<-hH5,cP,aA];rfl
   have ins5:=q5 _ _ ins4 (neo ins4 s4);have f5:=q5 _ _ f4 R.d2;have o5:=q5 _ _ o4 R.d6.symm;have r5:=q5 _ _ r4 R.d3;have n5:=q5 _ _ n4 (neo n4 s4);have k5:dj (cmu L) H H5:=by rw[<-hH5];exact dj.d7 k4 (by simp[cmu])
   refine⟨_,rfl,L.c,_,L.dx,_,_,rfl,ins5,T.dw,T.fu,rfl,.inl ⟨rfl,_,SqL.of f5⟩,_,rfl,L.f,_,_,rfl,rfl,f5,by rw[List.length_map,Paired.length hfs];exact aE hlc (by decide),?_⟩
   generalize hH6:upd H5 L.f (.lst (fs.map V.ref++ [V.ref av]))=H6;have q6:∀b o,H5 b=some o->b≠L.f->H6 b=some o:=fun b o e n=>by rw[<-hH6,cR n];exact e
   have f6:H6 L.f=some (.lst ((fs++ [av]).map V.ref)):=by rw[<-hH6,cP,aA];rfl
   have ins6:=q6 _ _ ins5 (neo ins5 f5);have r6:=q6 _ _ r5 R.d1.symm;have o6:=q6 _ _ o5 R.d4.symm;have s6:=q6 _ _ s5 R.d2.symm;have n6:=q6 _ _ n5 (neo n5 f5);have k6:dj (cmu L) H H6:=by rw[<-hH6];exact dj.d7 k5 (by simp[cmu])
   refine⟨_,rfl,L.c,_,L.dx,_,_,rfl,ins6,T.dw,T.iZ,rfl,.inl ⟨rfl,_,SqL.of r6⟩,_,rfl,L.r,_,_,rfl,rfl,r6,by rw[List.length_map,Paired.length hrs];exact aE hlc (by decide),?_⟩
   generalize hH7:upd H6 L.r (.lst (rs.map V.ref++ [V.ref bv]))=H7;have q7:∀b o,H6 b=some o->b≠L.r->H7 b=some o:=fun b o e n=>by rw[<-hH7,cR n];exact e
   have r7:H7 L.r=some (.lst ((rs++ [bv]).map V.ref)):=by rw[<-hH7,cP,aA];rfl
   have ins7:=q7 _ _ ins6 (neo ins6 r6);have f7:=q7 _ _ f6 R.d1;have o7:=q7 _ _ o6 R.d5.symm;have s7:=q7 _ _ s6 R.d3.symm;have n7:=q7 _ _ n6 (neo n6 r6);have k7:dj (cmu L) H H7:=by rw[<-hH7];exact dj.d7 k6 (by simp[cmu])
   refine⟨_,rfl,L.c,_,L.dx,_,_,rfl,ins7,T.dw,T.fN,rfl,.inl ⟨rfl,_,SqL.of o7⟩,L.h,_,_,rfl,rfl,o7,by rw[List.length_map,R.hlen];exact aE hlc (by decide),?_⟩
   generalize hH9:upd H7 L.h (.lst ((L.ho.map fun (n:Nat)=>V.int (n:Int))++ [V.int 0]))=H9
   have q9:∀b o,H7 b=some o->b≠L.h->H9 b=some o:=fun b o e n=>by rw[<-hH9,cR n];exact e
   have o9:H9 L.h=some (.lst ((L.ho++ [0]).map fun (n:Nat)=>V.int (n:Int))):=by rw[<-hH9,cP,aA];rfl
   have ins9:=q9 _ _ ins7 (neo ins7 o7);have f9:=q9 _ _ f7 R.d4;have r9:=q9 _ _ r7 R.d5;have s9:=q9 _ _ s7 R.d6;have n9:=q9 _ _ n7 (neo n7 o7);have k9:dj (cmu L) H H9:=by rw[<-hH9];exact dj.d7 k7 (by simp[cmu])
   refine⟨_,rfl,L.c,_,L.dx,_,_,rfl,ins9,T.dw,T.fu,rfl,L.f,_,rfl,.inl (SqL.of f9),_,_,rfl,rfl,sz,fun p2 qh=>?_⟩
   have enum:(((fs++ [av]).map V.ref).length:Int)-1=(cs.length:Int):=by rw[List.length_map,List.length_append,Paired.length hfs];simp
   rw[enum];have s8:dR H9 (upd H9 p2 (.tup [.int 2,.int (cs.length:Int)])):=.dm qh;have k8:dj (cmu L) H (upd H9 p2 (.tup [.int 2,.int (cs.length:Int)])):=fun b o e n=>s8 _ _ (k9 b o e n)
   have snoc:=R.sh.snoc R.wf (c:=⟨v,u⟩) hb1 hb2;unfold Cm.CK at snoc;rw[hdf]at snoc;have nt3:∀p∈cmu L,NT H3 p:=fun q hq=>by
    simp only[cmu,ag,aJ,bw]at hq;rcases hq with rfl|rfl|rfl|rfl|rfl|rfl
    .exact NT.of f3
    .exact NT.of r3
    .exact NT.of s3
    .exact NT.of n3
    .exact NT.of o3
    .exact NT.of ins3
   have k48:dj (cmu L) H3 (upd H9 p2 (.tup [.int 2,.int (cs.length:Int)])):=fun b o e n=>by
    have m:∀x,x∈cmu L->b≠x:=fun x hx q=>n (by rw[q];exact hx)
    exact s8 _ _ (q9 _ _ (q7 _ _ (q6 _ _ (q5 _ _ (q4 _ _ e (m _ (by simp[cmu]))) (m _ (by simp[cmu]))) (m _ (by simp[cmu]))) (m _ (by simp[cmu]))) (m _ (by simp[cmu])))
   refine k _ p2 _ _ _ ⟨s8 _ _ ins9,⟨_,s8 _ _ f9,Paired.snoc (Paired.jw hfs fun _ _ e=>dt e k8 R.nt) (dt hv k8 R.nt)⟩,⟨_,s8 _ _ r9,Paired.snoc (Paired.jw hrs fun _ _ e=>dt e k8 R.nt) (dt hu k8 R.nt)⟩,
    s8 _ _ s9,s8 _ _ n9,Paired.snoc (R.ent.keep k8 R.nt) ⟨rfl,tS.keep nkp (k48) (nt3),rr⟩,snoc,R.wf.snoc hb1 hb2,R.d1,R.d2,R.d3,s8 _ _ o9,by show (L.ho++ [0]).length=(cs++ [_]).length;rw[List.length_append,List.length_append,R.hlen];rfl,R.d4,R.d5,R.d6⟩ (by show (d++ [_]).length<=d.length+1;rw[List.length_append];exact au _) cP k8
 .cases hdf:Cm.ql d (Cm.looks sh ⟨v,u⟩)with
  |none=>rw[af2 hdf]at hpr;cases hpr
  |some nn=>
   obtain⟨pr',hpr',rv'⟩:=af1 nn hdf;rw[hpr]at hpr';cases hpr';exact⟨_,rv'⟩
end
section
variable {c:Ct} {A:Ad} {H H':Hp} {L:CL} {cs:List Lo.Cell} {sh:List Nat} {d:List ((Cm.LK×Cm.LK)×Nat)} {xs:List (NK×Addr×Value)}
theorem eC.N1 (R:eC c A H L cs sh d xs) {ho:List Nat} (hl:ho.length=cs.length):eC c A (upd H L.h (.lst (ho.map fun (n:Nat)=>V.int (n:Int)))) {L with ho:=ho} cs sh d xs:=by
 obtain⟨as,f1,f2⟩:=R.fst;obtain⟨bs,r1,r2⟩:=R.rst;have k:dj [L.h] H (upd H L.h (.lst (ho.map fun (n:Nat)=>V.int (n:Int)))):=kui
 have n:∀p∈ [L.h],NT H p:=fun p hp=>R.nt p (by simp at hp;subst hp;simp[cmu])
 exact⟨k _ _ R.ins (by simpa using neo R.ins R.hol),⟨as,k _ _ f1 (by simpa using R.d4),Paired.jw f2 fun _ _ e=>dt e k n⟩,⟨bs,k _ _ r1 (by simpa using R.d5),Paired.jw r2 fun _ _ e=>dt e k n⟩,
  k _ _ R.shp (by simpa using R.d6),k _ _ R.num (by simpa using neo R.num R.hol),R.ent.keep k n,R.sh,R.wf,R.d1,R.d2,R.d3,cP,hl,R.d4,R.d5,R.d6⟩
theorem eC.RQ (R:eC c A H L cs sh d xs) (z:Nat):eC c A (upd H L.c (.ins A.dh L.dx (n8 {L with z:=z}))) {L with z:=z} cs sh d xs:=by
 obtain⟨as,f1,f2⟩:=R.fst;obtain⟨bs,r1,r2⟩:=R.rst;have k:dj [L.c] H (upd H L.c (.ins A.dh L.dx (n8 {L with z:=z}))):=kui
 have n:∀p∈ [L.c],NT H p:=fun p hp=>R.nt p (by simp at hp;subst hp;simp[cmu])
 exact⟨cP,⟨as,k _ _ f1 (by simpa using neo f1 R.ins),Paired.jw f2 fun _ _ e=>dt e k n⟩,⟨bs,k _ _ r1 (by simpa using neo r1 R.ins),Paired.jw r2 fun _ _ e=>dt e k n⟩,
  k _ _ R.shp (by simpa using neo R.shp R.ins),k _ _ R.num (by simpa using neo R.num R.ins),R.ent.keep k n,R.sh,R.wf,R.d1,R.d2,R.d3,k _ _ R.hol (by simpa using neo R.hol R.ins),R.hlen,R.d4,R.d5,R.d6⟩
theorem eC.put {p:Addr} {ys zs:List V} (R:eC c A H L cs sh d xs) (hp:H p=some (.lst ys)) (n:p∉cmu L):eC c A (upd H p (.lst zs)) L cs sh d xs:=
 R.keep (S:=[p]) (kui) (fun b hb=>by simp at hb;subst hb;exact NT.of hp) (fun b hb=>by
  simp at hb;subst hb;exact⟨fun z=>n (by rw[z];simp[cmu]),n⟩)
theorem eC.old (R:eC c A H L cs sh d xs):∀p∈cmu L,∃o,H p=some o:=by
 obtain⟨as,f1,f2⟩:=R.fst;obtain⟨bs,r1,r2⟩:=R.rst;intro p hp;simp only[cmu,ag,aJ,bw]at hp;rcases hp with rfl|rfl|rfl|rfl|rfl|rfl
 .exact⟨_,f1⟩
 .exact⟨_,r1⟩
 .exact⟨_,R.shp⟩
 .exact⟨_,R.num⟩
 .exact⟨_,R.hol⟩
 .exact⟨_,R.ins⟩
theorem Gu (L:CL) (z:Nat):dE "held" (.int ((z:Nat):Int)) (n8 L)=n8 {L with z:=z}:=rfl
theorem Ao (ho:List Nat) (i h:Nat):(ho.map fun (n:Nat)=>V.int (n:Int)).set i (V.int (h:Int))=(ho.set i h).map fun (n:Nat)=>V.int (n:Int):=(List.map_set).symm
abbrev pR:Stmt:=inClass (top 23) 2
theorem BF:cW ["self","value","waiting","thing"] ["self","value"] (cS pR):=fsc
inductive zi (c:Ct) (A:Ad) (vs:List V) (H:Hp) (Q:VK) (E:XK):Prop
 |mk:∀L cs sh d xs a v rt,vs= [.ref (CL.c L),.ref a]->eC c A H L cs sh d xs->m9 c.K H a v->Cm.below v cs.length->cs.length<=10000->Hm.Hi cs L.ho rt->L.z=Hm.hd L.ho->(∀H' ho,eC c A H' {L with ho:=ho,z:=Hm.hd ho} cs sh d xs->Hm.Hi cs ho (v::rt)->dj (cmu L) H H'->Q .non H')->zi c A vs H Q E
theorem Qh (T:Tx c A) (D:Dm c A.dh "hold" "Cells.hold" pR ["self","value"]) (eh:dA c 1 A.dh "first_of" (kU c A Lo.Cell.first)) (eI:dA c 1 A.dh "rest_of" (kU c A Lo.Cell.rest)):dA c 2 A.dh "hold" (zi c A):=by
 refine D.good BF ?_;rintro X H _ Q E rfl a sn hr ⟨L,cs,sh,d,xs,av,v,rt,rfl,R,hv,hb,hlc,hi,hz,k⟩;refine⟨_,(cN (pSt sn 2 (eX (cK (vr sn 1) cO))) (cQ (qN a.never (iK oA (dv dk (gl sn) T.fE PySem.boot_len (cK (vr sn 2) cO)) cT) (cN (pSt sn 3 (tq PySem.F.plainAttrs_list PySem.F.slot_list_pop PySem.F.type_list_pop wj (vr sn 2))) (cQ (dX (iK iR (ixT (vr sn 3) cT) (pc_ T.rg (gl sn))) (cN (J9 (df (vr sn 0) rfl) (ixT (vr sn 3) cT) CO cT Sj set_list) (cQ (dX (iK iR (ixL (df (vr sn 0) rfl) (ixT (vr sn 3) cT)) cT) (cN (oB (vr sn 0) cT Hu) (cN (dH (jJ PySem.F.plainAttrs_list PySem.F.slot_list_append PySem.F.type_list_append fh (vr sn 2) (cK (pm_ T.dw eh (hmo hr) (vr sn 0) (cK (vr sn 3) cO)) cO))) (cQ (dH (jJ PySem.F.plainAttrs_list PySem.F.slot_list_append PySem.F.type_list_append fh (vr sn 2) (cK (pm_ T.dw eI (hmo hr) (vr sn 0) (cK (vr sn 3) cO)) cO)))))) dr))) dr)))))),?_⟩;refine⟨_,rfl,sz,fun pw hpw=>?_⟩
 have npw:pw∉cmu L:=fun z=>by obtain⟨o,e⟩:=R.old _ z;rw[hpw]at e;cases e
 have hwf:=R.wf
 let Pv:Nat->L2.St->Hp->Prop:=fun m σ H'=>∃(vt:Option V) (as:List Addr) (w:List Lo.Val) (ho:List Nat),σ= [some (.ref L.c),some (.ref av),some (.ref pw),vt]/\eC (ct X) A H' {L with ho:=ho,z:=Hm.hd ho} cs sh d xs/\dj (cmu L) H H'/\
  H' pw=some (.lst (as.map V.ref))/\Vals X.K H' as w.reverse/\Hm.Hw cs ho (v::rt) w/\m=w.length+3*(cs.length-Hm.hd ho)/\m<=1+3*cs.length
 have s0:dR H (upd H pw (.lst [V.ref av])):=.dm hpw;have eL:({L with ho:=L.ho,z:=Hm.hd L.ho}:CL)=L:=by rw[<-hz]
 have hw0:=Hm.Hw.begin hi hb;refine⟨Pv,⟨_,none,[av],[v],L.ho,rfl,by rw[eL];exact R.same s0,.of s0,cP,.cons (fT hv s0) .nil,hw0,rfl,by show 1+_<=_;omega⟩,?_⟩
 rintro m σ H' ⟨vt,as,w,ho,rfl,C,kp,hw,hW,hwt,hm,hmb⟩;have hlen:(as.map V.ref).length=w.length:=by rw[List.length_map,Paired.length hW,aB]
 refine⟨_,rfl,pw,_,rfl,.inl (SqL.of hw),_,_,rfl,rfl,_,rfl,?_⟩;rw[hlen];cases w with
 |nil=>
  refine eY ?_;refine k H' ho C (hwt.fin fun u hu=>?_) kp
  rcases ag.mp hu with rfl|hu
  .exact hb
  .exact hi.bel u hu
 |cons u w=>
  rw[show decide ((((u::w).length:Nat):Int)>0)=true from aI (by simp only[aG];omega)]
  refine fm ⟨fun σ' H''=>∃m',m'<m/\Pv m' σ' H'',fun _ _ z=>z,?_⟩
  have hW:Vals X.K H' as (w.reverse++ [u]):=by rw[<-aX];exact hW
  obtain⟨ig,b,rfl,h3,h4⟩:=fR hW;rw[aA]at hw;refine⟨_,rfl,.inl ⟨rfl,_,SqL.of hw⟩,pw,_,V.ref b,rfl,rfl,hw,by simp,?_⟩
  rw[show (ig.map V.ref++ [b].map V.ref).dropLast=ig.map V.ref from by show (ig.map V.ref++ [V.ref b]).dropLast=_;rw[bU]]
  have nts:∀p∈ [pw],NT H' p:=fun p hp=>by simp at hp;subst hp;exact NT.of hw
  have q2:dj [pw] H' (upd H' pw (.lst (ig.map V.ref))):=kui;have C2:eC (ct X) A (upd H' pw (.lst (ig.map V.ref))) {L with ho:=ho,z:=Hm.hd ho} cs sh d xs:=C.put hw npw
  have h3:=Vals.keep h3 q2 nts;have h4:=dt h4 q2 nts;have w2:(upd H' pw (.lst (ig.map V.ref))) pw=some (.lst (ig.map V.ref)):=cP;have kp2:dj (cmu L) H (upd H' pw (.lst (ig.map V.ref))):=kp.dm hpw;generalize upd H' pw (.lst (ig.map V.ref))=H2 at C2 h3 h4 w2 kp2⊢;have lw:ig.length=w.length:=by rw[Paired.length h3,aB]
  have hml:w.length+1+3*(cs.length-Hm.hd ho)=m:=by rw[hm,aG]
  refine⟨_,rfl,b,_,_,_,rfl,rfl,h4,cX (j:=0) rfl,rfl,_,rfl,?_⟩;cases u with
  |num y=>exact eY ⟨_,by omega,_,ig,w,ho,rfl,C2,kp2,w2,h3,hwt.skip (fun i=>Hm.Ky i y),rfl,by omega⟩
  |nil=>exact eY ⟨_,by omega,_,ig,w,ho,rfl,C2,kp2,w2,h3,hwt.skip (fun i=>Hm.Nk i),rfl,by omega⟩
  |cell i=>
   have hilt:i<cs.length:=hwt.bel _ (aC ..);have hil:i<ho.length:=by rw[hwt.len];exact hilt
   obtain⟨g,hg⟩:∃g,ho[i]?=some g:=⟨_,af hil⟩;obtain⟨ce,hce⟩:∃ce,cs[i]?=some ce:=⟨_,af hilt⟩;have hgm:(ho.map fun (n:Nat)=>V.int (n:Int))[i]?=some (V.int (g:Int)):=by rw[aF,hg];rfl
   have holen:(ho.map fun (n:Nat)=>V.int (n:Int)).length=cs.length:=by rw[List.length_map,hwt.len]
   refine fm ⟨_,rfl,L.c,_,L.dx,_,_,rfl,C2.ins,T.dw,T.fN,rfl,_,rfl,b,_,_,_,rfl,rfl,h4,cX (j:=1) rfl,L.h,_,i,_,rfl,rfl,SqL.of C2.hol,hgm,by rw[holen];omega,_,_,rfl,rfl,L.h,_,_,i,rfl,rfl,C2.hol,by rw[holen];unfold ixN;simp[vn,hilt],?_⟩
   rw[show V.int ((g:Int)+1)=V.int ((g+1:Nat):Int)from rfl,Ao];have C3:=C2.N1 (ho:=ho.set i (g+1)) (by rw[bF];exact hwt.len)
   have k3:dj [L.h] H2 (upd H2 L.h (.lst ((ho.set i (g+1)).map fun (n:Nat)=>V.int (n:Int)))):=kui
   have n3:∀p∈ [L.h],NT H2 p:=fun p hp=>C2.nt p (by simp at hp;subst hp;simp[cmu])
   have h3:=Vals.keep h3 k3 n3;have h4:=dt h4 k3 n3;have w3:=k3 _ _ w2 (by simp only[bz];exact fun z=>npw (by rw[z];simp[cmu]))
   have kp3:dj (cmu L) H (upd H2 L.h (.lst ((ho.set i (g+1)).map fun (n:Nat)=>V.int (n:Int)))):=dj.d7 kp2 (by simp[cmu])
   generalize upd H2 L.h (.lst ((ho.set i (g+1)).map fun (n:Nat)=>V.int (n:Int)))=H3 at C3 h3 h4 w3 kp3⊢
   have hg3:((ho.set i (g+1)).map fun (n:Nat)=>V.int (n:Int))[i]?=some (V.int ((g+1:Nat):Int)):=by rw[aF,bL hil];rfl
   refine⟨_,rfl,L.c,_,L.dx,_,_,rfl,C3.ins,T.dw,T.fN,rfl,_,rfl,b,_,_,_,rfl,rfl,h4,cX (j:=1) rfl,L.h,_,_,_,rfl,rfl,SqL.of C3.hol,cX hg3,rfl,_,rfl,?_⟩;have hhd:=Hm.HW (g+1) hg;rw[aq (show 0<g+1 by omega)]at hhd
   by_cases h0:g=0
   .subst h0;rw[aj (by omega)]at hhd
    rw[show decide (V.int ((0+1:Nat):Int)=V.int 1)=true from aI rfl];have hle:=Hm.RJ (ho.set i (0+1));rw[bF,hwt.len]at hle;refine fm ⟨_,rfl,L.c,_,L.dx,_,_,rfl,C3.ins,T.dw,T.js,rfl,_,_,rfl,rfl,L.dx,_,C3.ins,(by show 6<1000;decide),?_⟩
    rw[show V.int (((Hm.hd ho:Nat):Int)+1)=V.int ((Hm.hd (ho.set i (0+1)):Nat):Int)from congrArg V.int (by omega),Gu]
    have C4:=C3.RQ (Hm.hd (ho.set i (0+1)));have k4:dj [L.c] H3 (upd H3 L.c (.ins A.dh L.dx (n8 {L with ho:=ho.set i (0+1),z:=Hm.hd (ho.set i (0+1))}))):=kui
    have n4:∀p∈ [L.c],NT H3 p:=fun p hp=>C3.nt p (by simp at hp;subst hp;simp[cmu])
    have h3:=Vals.keep h3 k4 n4;have h4:=dt h4 k4 n4;have w4:=k4 _ _ w3 (by simp only[bz];exact fun z=>npw (by rw[z];simp[cmu]))
    have kp4:dj (cmu L) H (upd H3 L.c (.ins A.dh L.dx (n8 {L with ho:=ho.set i (0+1),z:=Hm.hd (ho.set i (0+1))}))):=dj.d7 kp3 (by simp[cmu])
    generalize upd H3 L.c (.ins A.dh L.dx (n8 {L with ho:=ho.set i (0+1),z:=Hm.hd (ho.set i (0+1))}))=H4 at C4 h3 h4 w4 kp4⊢
    refine⟨_,rfl,.inl ⟨rfl,_,SqL.of w4⟩,_,rfl,L.c,L.dx,_,rfl,C4.ins,rfl,_,rfl,{L with ho:=ho.set i (0+1),z:=Hm.hd (ho.set i (0+1))},cs,sh,d,xs,b,i,ce,rfl,C4,h4,hce,fun bf hbf=>?_⟩
    refine⟨pw,_,_,rfl,rfl,w4,by rw[List.length_map,lw];exact aE (show w.length<=40000 by omega) (by decide),?_⟩
    rw[show ig.map V.ref++ [V.ref bf]=(ig++ [bf]).map V.ref from by rw[aA];rfl]
    have k5:dj [pw] H4 (upd H4 pw (.lst ((ig++ [bf]).map V.ref))):=kui;have n5:∀p∈ [pw],NT H4 p:=fun p hp=>by simp at hp;subst hp;exact NT.of w4
    have C5:eC (ct X) A (upd H4 pw (.lst ((ig++ [bf]).map V.ref))) {L with ho:=ho.set i (0+1),z:=Hm.hd (ho.set i (0+1))} cs sh d xs:=C4.put w4 npw
    have h5:Vals X.K (upd H4 pw (.lst ((ig++ [bf]).map V.ref))) (ig++ [bf]) (w.reverse++ [ce.first]):=Paired.snoc (Vals.keep h3 k5 n5) (dt hbf k5 n5);have h4:=dt h4 k5 n5;have w5:(upd H4 pw (.lst ((ig++ [bf]).map V.ref))) pw=some (.lst ((ig++ [bf]).map V.ref)):=cP;have kp5:dj (cmu L) H (upd H4 pw (.lst ((ig++ [bf]).map V.ref))):=kp4.dm hpw;generalize upd H4 pw (.lst ((ig++ [bf]).map V.ref))=H5 at C5 h5 h4 w5 kp5⊢;refine⟨_,rfl,.inl ⟨rfl,_,SqL.of w5⟩,_,rfl,L.c,L.dx,_,rfl,C5.ins,rfl,_,rfl,{L with ho:=ho.set i (0+1),z:=Hm.hd (ho.set i (0+1))},cs,sh,d,xs,b,i,ce,rfl,C5,h4,hce,fun br hbr=>?_⟩
    refine⟨pw,_,_,rfl,rfl,w5,by rw[List.length_map,List.length_append,lw];exact aE (show w.length+ [bf].length<=40001 by simp only[bP];omega) (by decide),?_⟩
    rw[show (ig++ [bf]).map V.ref++ [V.ref br]=(ig++ [bf]++ [br]).map V.ref from by rw[aA (l₁:=ig++ [bf])];rfl]
    have k6:dj [pw] H5 (upd H5 pw (.lst ((ig++ [bf]++ [br]).map V.ref))):=kui;have n6:∀p∈ [pw],NT H5 p:=fun p hp=>by simp at hp;subst hp;exact NT.of w5
    refine⟨(w.length+2)+3*(cs.length-Hm.hd (ho.set i (0+1))),by omega,_,ig++ [bf]++ [br],ce.rest::ce.first::w,ho.set i (0+1),rfl,C5.put w5 npw,kp5.dm hpw,cP,?_,hwt.new hwf hg hce,rfl,by omega⟩
    rw[aX,aX];exact Paired.snoc (Vals.keep h5 k6 n6) (dt hbr k6 n6)
   .rw[aq (show 0<g by omega)]at hhd
    rw[show decide (V.int ((g+1:Nat):Int)=V.int 1)=false from ao (fun z=>h0 (by injection z with z;omega))]
    have ehd:Hm.hd (ho.set i (g+1))=Hm.hd ho:=by omega
    refine eY ⟨w.length+3*(cs.length-Hm.hd ho),by omega,_,ig,w,ho.set i (g+1),rfl,by rw[ehd];exact C3,kp3,w3,h3,hwt.more hg (by omega),by rw[ehd],by omega⟩
abbrev ng:Stmt:=inClass (top 23) 3
theorem yz:cW ["self","value","waiting","thing"] ["self","value"] (cS ng):=fsc
inductive wW (c:Ct) (A:Ad) (vs:List V) (H:Hp) (Q:VK) (E:XK):Prop
 |mk:∀L cs sh d xs a v rt,vs= [.ref (CL.c L),.ref a]->eC c A H L cs sh d xs->m9 c.K H a v->cs.length<=10000->Hm.Hi cs L.ho (v::rt)->L.z=Hm.hd L.ho->(∀H' ho,eC c A H' {L with ho:=ho,z:=Hm.hd ho} cs sh d xs->Hm.Hi cs ho rt->dj (cmu L) H H'->Q .non H')->wW c A vs H Q E
theorem LO (T:Tx c A) (D:Dm c A.dh "let_go" "Cells.let_go" ng ["self","value"]) (eh:dA c 1 A.dh "first_of" (kU c A Lo.Cell.first)) (eI:dA c 1 A.dh "rest_of" (kU c A Lo.Cell.rest)):dA c 2 A.dh "let_go" (wW c A):=by
 refine D.good yz ?_;rintro X H _ Q E rfl a sn hr ⟨L,cs,sh,d,xs,av,v,rt,rfl,R,hv,hlc,hi,hz,k⟩;refine⟨_,(cN (pSt sn 2 (eX (cK (vr sn 1) cO))) (cQ (qN a.never (iK oA (dv dk (gl sn) T.fE PySem.boot_len (cK (vr sn 2) cO)) cT) (cN (pSt sn 3 (tq PySem.F.plainAttrs_list PySem.F.slot_list_pop PySem.F.type_list_pop wj (vr sn 2))) (cQ (dX (iK iR (ixT (vr sn 3) cT) (pc_ T.rg (gl sn))) (cN (J9 (df (vr sn 0) rfl) (ixT (vr sn 3) cT) CO cT Mw set_list) (cQ (dX (iK iR (ixL (df (vr sn 0) rfl) (ixT (vr sn 3) cT)) cT) (cN (oB (vr sn 0) cT MD) (cN (dH (jJ PySem.F.plainAttrs_list PySem.F.slot_list_append PySem.F.type_list_append fh (vr sn 2) (cK (pm_ T.dw eh (hmo hr) (vr sn 0) (cK (vr sn 3) cO)) cO))) (cQ (dH (jJ PySem.F.plainAttrs_list PySem.F.slot_list_append PySem.F.type_list_append fh (vr sn 2) (cK (pm_ T.dw eI (hmo hr) (vr sn 0) (cK (vr sn 3) cO)) cO)))))) dr))) dr)))))),?_⟩;refine⟨_,rfl,sz,fun pw hpw=>?_⟩
 have npw:pw∉cmu L:=fun z=>by obtain⟨o,e⟩:=R.old _ z;rw[hpw]at e;cases e
 have hwf:=R.wf
 let Pv:Nat->L2.St->Hp->Prop:=fun m σ H'=>∃(vt:Option V) (as:List Addr) (w:List Lo.Val) (ho:List Nat),σ= [some (.ref L.c),some (.ref av),some (.ref pw),vt]/\eC (ct X) A H' {L with ho:=ho,z:=Hm.hd ho} cs sh d xs/\dj (cmu L) H H'/\
  H' pw=some (.lst (as.map V.ref))/\Vals X.K H' as w.reverse/\Hm.Hi cs ho (w++rt)/\m=w.length+3*Hm.hd ho/\m<=1+3*cs.length
 have s0:dR H (upd H pw (.lst [V.ref av])):=.dm hpw;have eL:({L with ho:=L.ho,z:=Hm.hd L.ho}:CL)=L:=by rw[<-hz]
 have hle0:=Hm.RJ L.ho;rw[hi.len]at hle0;refine⟨Pv,⟨_,none,[av],[v],L.ho,rfl,by rw[eL];exact R.same s0,.of s0,cP,.cons (fT hv s0) .nil,hi,rfl,by show 1+_<=_;omega⟩,?_⟩
 rintro m σ H' ⟨vt,as,w,ho,rfl,C,kp,hw,hW,hwt,hm,hmb⟩;have hlen:(as.map V.ref).length=w.length:=by rw[List.length_map,Paired.length hW,aB]
 refine⟨_,rfl,pw,_,rfl,.inl (SqL.of hw),_,_,rfl,rfl,_,rfl,?_⟩;rw[hlen];cases w with
 |nil=>exact eY (k H' ho C hwt kp)
 |cons u w=>
  rw[show decide ((((u::w).length:Nat):Int)>0)=true from aI (by simp only[aG];omega)]
  refine fm ⟨fun σ' H''=>∃m',m'<m/\Pv m' σ' H'',fun _ _ z=>z,?_⟩
  have hW:Vals X.K H' as (w.reverse++ [u]):=by rw[<-aX];exact hW
  obtain⟨ig,b,rfl,h3,h4⟩:=fR hW;rw[aA]at hw;refine⟨_,rfl,.inl ⟨rfl,_,SqL.of hw⟩,pw,_,V.ref b,rfl,rfl,hw,by simp,?_⟩
  rw[show (ig.map V.ref++ [b].map V.ref).dropLast=ig.map V.ref from by show (ig.map V.ref++ [V.ref b]).dropLast=_;rw[bU]]
  have nts:∀p∈ [pw],NT H' p:=fun p hp=>by simp at hp;subst hp;exact NT.of hw
  have q2:dj [pw] H' (upd H' pw (.lst (ig.map V.ref))):=kui;have C2:eC (ct X) A (upd H' pw (.lst (ig.map V.ref))) {L with ho:=ho,z:=Hm.hd ho} cs sh d xs:=C.put hw npw
  have h3:=Vals.keep h3 q2 nts;have h4:=dt h4 q2 nts;have w2:(upd H' pw (.lst (ig.map V.ref))) pw=some (.lst (ig.map V.ref)):=cP;have kp2:dj (cmu L) H (upd H' pw (.lst (ig.map V.ref))):=kp.dm hpw;generalize upd H' pw (.lst (ig.map V.ref))=H2 at C2 h3 h4 w2 kp2⊢;have lw:ig.length=w.length:=by rw[Paired.length h3,aB]
  have hml:w.length+1+3*Hm.hd ho=m:=by rw[hm,aG]
  have hwt:Hm.Hi cs ho (u::(w++rt)):=hwt;refine⟨_,rfl,b,_,_,_,rfl,rfl,h4,cX (j:=0) rfl,rfl,_,rfl,?_⟩;cases u with
  |num y=>exact eY ⟨_,by omega,_,ig,w,ho,rfl,C2,kp2,w2,h3,hwt.skip (fun i=>Hm.Ky i y),rfl,by omega⟩
  |nil=>exact eY ⟨_,by omega,_,ig,w,ho,rfl,C2,kp2,w2,h3,hwt.skip (fun i=>Hm.Nk i),rfl,by omega⟩
  |cell i=>
   have hilt:i<cs.length:=hwt.bel _ (aC ..);have hil:i<ho.length:=by rw[hwt.len];exact hilt
   obtain⟨g,hg⟩:=hwt.pos;obtain⟨ce,hce⟩:∃ce,cs[i]?=some ce:=⟨_,af hilt⟩;have hgm:(ho.map fun (n:Nat)=>V.int (n:Int))[i]?=some (V.int ((g+1:Nat):Int)):=by rw[aF,hg];rfl
   have holen:(ho.map fun (n:Nat)=>V.int (n:Int)).length=cs.length:=by rw[List.length_map,hwt.len]
   refine fm ⟨_,rfl,L.c,_,L.dx,_,_,rfl,C2.ins,T.dw,T.fN,rfl,_,rfl,b,_,_,_,rfl,rfl,h4,cX (j:=1) rfl,L.h,_,i,_,rfl,rfl,SqL.of C2.hol,hgm,by rw[holen];omega,_,_,rfl,rfl,L.h,_,_,i,rfl,rfl,C2.hol,by rw[holen];unfold ixN;simp[vn,hilt],?_⟩
   rw[show V.int (((g+1:Nat):Int)-1)=V.int ((g:Nat):Int)from congrArg V.int (by omega),Ao]
   have C3:=C2.N1 (ho:=ho.set i g) (by rw[bF];exact hwt.len)
   have k3:dj [L.h] H2 (upd H2 L.h (.lst ((ho.set i g).map fun (n:Nat)=>V.int (n:Int)))):=kui
   have n3:∀p∈ [L.h],NT H2 p:=fun p hp=>C2.nt p (by simp at hp;subst hp;simp[cmu])
   have h3:=Vals.keep h3 k3 n3;have h4:=dt h4 k3 n3;have w3:=k3 _ _ w2 (by simp only[bz];exact fun z=>npw (by rw[z];simp[cmu]))
   have kp3:dj (cmu L) H (upd H2 L.h (.lst ((ho.set i g).map fun (n:Nat)=>V.int (n:Int)))):=dj.d7 kp2 (by simp[cmu])
   generalize upd H2 L.h (.lst ((ho.set i g).map fun (n:Nat)=>V.int (n:Int)))=H3 at C3 h3 h4 w3 kp3⊢
   have hg3:((ho.set i g).map fun (n:Nat)=>V.int (n:Int))[i]?=some (V.int ((g:Nat):Int)):=by rw[aF,bL hil];rfl
   refine⟨_,rfl,L.c,_,L.dx,_,_,rfl,C3.ins,T.dw,T.fN,rfl,_,rfl,b,_,_,_,rfl,rfl,h4,cX (j:=1) rfl,L.h,_,_,_,rfl,rfl,SqL.of C3.hol,cX hg3,rfl,_,rfl,?_⟩;have hhd:=Hm.HW g hg;rw[aq (show 0<g+1 by omega)]at hhd
   by_cases h0:g=0
   .subst h0;rw[aj (by omega)]at hhd
    rw[show decide (V.int ((0:Nat):Int)=V.int 0)=true from aI rfl];refine fm ⟨_,rfl,L.c,_,L.dx,_,_,rfl,C3.ins,T.dw,T.js,rfl,_,_,rfl,rfl,L.dx,_,C3.ins,(by show 6<1000;decide),?_⟩
    rw[show V.int (((Hm.hd ho:Nat):Int)-1)=V.int ((Hm.hd (ho.set i 0):Nat):Int)from congrArg V.int (by omega),Gu]
    have C4:=C3.RQ (Hm.hd (ho.set i 0));have k4:dj [L.c] H3 (upd H3 L.c (.ins A.dh L.dx (n8 {L with ho:=ho.set i 0,z:=Hm.hd (ho.set i 0)}))):=kui
    have n4:∀p∈ [L.c],NT H3 p:=fun p hp=>C3.nt p (by simp at hp;subst hp;simp[cmu])
    have h3:=Vals.keep h3 k4 n4;have h4:=dt h4 k4 n4;have w4:=k4 _ _ w3 (by simp only[bz];exact fun z=>npw (by rw[z];simp[cmu]))
    have kp4:dj (cmu L) H (upd H3 L.c (.ins A.dh L.dx (n8 {L with ho:=ho.set i 0,z:=Hm.hd (ho.set i 0)}))):=dj.d7 kp3 (by simp[cmu])
    generalize upd H3 L.c (.ins A.dh L.dx (n8 {L with ho:=ho.set i 0,z:=Hm.hd (ho.set i 0)}))=H4 at C4 h3 h4 w4 kp4⊢
    refine⟨_,rfl,.inl ⟨rfl,_,SqL.of w4⟩,_,rfl,L.c,L.dx,_,rfl,C4.ins,rfl,_,rfl,{L with ho:=ho.set i 0,z:=Hm.hd (ho.set i 0)},cs,sh,d,xs,b,i,ce,rfl,C4,h4,hce,fun bf hbf=>?_⟩
    refine⟨pw,_,_,rfl,rfl,w4,by rw[List.length_map,lw];exact aE (show w.length<=40000 by omega) (by decide),?_⟩
    rw[show ig.map V.ref++ [V.ref bf]=(ig++ [bf]).map V.ref from by rw[aA];rfl]
    have k5:dj [pw] H4 (upd H4 pw (.lst ((ig++ [bf]).map V.ref))):=kui;have n5:∀p∈ [pw],NT H4 p:=fun p hp=>by simp at hp;subst hp;exact NT.of w4
    have C5:eC (ct X) A (upd H4 pw (.lst ((ig++ [bf]).map V.ref))) {L with ho:=ho.set i 0,z:=Hm.hd (ho.set i 0)} cs sh d xs:=C4.put w4 npw
    have h5:Vals X.K (upd H4 pw (.lst ((ig++ [bf]).map V.ref))) (ig++ [bf]) (w.reverse++ [ce.first]):=Paired.snoc (Vals.keep h3 k5 n5) (dt hbf k5 n5);have h4:=dt h4 k5 n5;have w5:(upd H4 pw (.lst ((ig++ [bf]).map V.ref))) pw=some (.lst ((ig++ [bf]).map V.ref)):=cP;have kp5:dj (cmu L) H (upd H4 pw (.lst ((ig++ [bf]).map V.ref))):=kp4.dm hpw;generalize upd H4 pw (.lst ((ig++ [bf]).map V.ref))=H5 at C5 h5 h4 w5 kp5⊢;refine⟨_,rfl,.inl ⟨rfl,_,SqL.of w5⟩,_,rfl,L.c,L.dx,_,rfl,C5.ins,rfl,_,rfl,{L with ho:=ho.set i 0,z:=Hm.hd (ho.set i 0)},cs,sh,d,xs,b,i,ce,rfl,C5,h4,hce,fun br hbr=>?_⟩
    refine⟨pw,_,_,rfl,rfl,w5,by rw[List.length_map,List.length_append,lw];exact aE (show w.length+ [bf].length<=40001 by simp only[bP];omega) (by decide),?_⟩
    rw[show (ig++ [bf]).map V.ref++ [V.ref br]=(ig++ [bf]++ [br]).map V.ref from by rw[aA (l₁:=ig++ [bf])];rfl]
    have k6:dj [pw] H5 (upd H5 pw (.lst ((ig++ [bf]++ [br]).map V.ref))):=kui;have n6:∀p∈ [pw],NT H5 p:=fun p hp=>by simp at hp;subst hp;exact NT.of w5
    refine⟨(w.length+2)+3*Hm.hd (ho.set i 0),by omega,_,ig++ [bf]++ [br],ce.rest::ce.first::w,ho.set i 0,rfl,C5.put w5 npw,kp5.dm hpw,cP,?_,hwt.gone hwf hg hce,rfl,by omega⟩
    rw[aX,aX];exact Paired.snoc (Vals.keep h5 k6 n6) (dt hbr k6 n6)
   .rw[aq (show 0<g by omega)]at hhd
    rw[show decide (V.int ((g:Nat):Int)=V.int 0)=false from ao (fun z=>h0 (by injection z with z;omega))]
    have ehd:Hm.hd (ho.set i g)=Hm.hd ho:=by omega
    refine eY ⟨w.length+3*Hm.hd ho,by omega,_,ig,w,ho.set i g,rfl,by rw[ehd];exact C3,kp3,w3,h3,hwt.less hg (by omega),by rw[ehd],by omega⟩
abbrev jx:Stmt:=inClass (top 23) 4
theorem pT:cW ["self"] ["self"] (cS jx):=fsc
inductive lM (c:Ct) (A:Ad) (vs:List V) (H:Hp) (Q:VK) (E:XK):Prop
 |mk:∀L cs sh d xs,vs= [.ref (CL.c L)]->eC c A H L cs sh d xs->Q (.int ((cs.length:Nat):Int)) H->lM c A vs H Q E
theorem wX (T:Tx c A) (D:Dm c A.dh "how_many_made" "Cells.how_many_made" jx ["self"]):dA c 1 A.dh "how_many_made" (lM c A):=by
 refine D.good pT ?_;rintro X H _ Q E rfl a sn hr ⟨L,cs,sh,d,xs,rfl,R,k⟩;refine⟨_,(cQ (cV (dv dk (gl sn) T.fE PySem.boot_len (cK (df (vr sn 0) rfl) cO)))),?_⟩;obtain⟨as,f1,f2⟩:=R.fst;refine⟨_,rfl,L.c,_,L.dx,_,_,rfl,R.ins,T.dw,T.fu,rfl,L.f,_,rfl,.inl (SqL.of f1),?_⟩;rw[List.length_map,Paired.length f2];exact k
end
def nats (b:Lo.Bytes):List Nat:=b.map UInt8.toNat
theorem N2 {n:Nat} {d:Char} (h:d∈Nat.toDigits 10 n):d.toNat<256:=by
 have:=Fu n d.toNat (bx.mpr ⟨d,h,rfl⟩)
 omega
theorem yd (n:Nat):nats ((Nat.toDigits 10 n).map fun (d:Char)=>UInt8.ofNat d.toNat)=wz n:=by
 unfold nats wz;rw[bY];apply Wz;intro d hd;show (UInt8.ofNat d.toNat).toNat=d.toNat;have:=N2 hd;simp[Xr];omega
theorem Iz (z:Int):tl (Str.ofString (toString z))=nats (Lo.digitsOf z):=by
 unfold Lo.digitsOf nats;rw[aA];cases z with
 |ofNat n=>
  rw[aj (by show¬((n:Int)<0);omega)]
  show tl (Str.ofString (toString (n:Int)))= []++_;rw[HG,List.nil_append];exact(yd n).symm
 |negSucc n=>
  rw[aq (by exact Int.negSucc_lt_zero n)]
  have e:toString (Int.negSucc n)="-"++toString ((n+1:Nat):Int):=rfl;rw[e,xW,String.toList_append,aA];have h2:=HG (n+1);rw[xW]at h2;rw[h2];show 45::wz (n+1)=45::_;congr 1;exact(yd (n+1)).symm
def vok:Lo.Val->Prop
 | .num z=>Lo.isValue z=true
 |_=>True
theorem D3 {z:Int} (h:Lo.isValue z=true):z.natAbs.log2<1920:=by
 unfold Lo.isValue Lo.WIDEST at h;simp only[aH,aY]at h;have h1:z.natAbs<2^64:=by
  have:(2:Nat)^64=18446744073709551616:=by decide
  omega
 by_cases q:z.natAbs=0
 .rw[q];decide
 .have:=(Nat.log2_lt q).mpr h1
  omega
theorem toDigits_len {n:Nat} (h:n<10^20):(Nat.toDigits 10 n).length<=20:=by
 have:=M3 (n:=n) (k:=20) (by decide) h
 unfold wz at this
 rwa [List.length_map]at this
theorem Ap {z:Int} (h:Lo.isValue z=true):(Lo.digitsOf z).length<=21/\0<(Lo.digitsOf z).length:=by
 unfold Lo.isValue Lo.WIDEST at h;simp only[aH,aY]at h;have h1:z.natAbs<10^20:=by
  have:(10:Nat)^20=100000000000000000000:=by decide
  omega
 have h2:=toDigits_len h1;have h3:0<(Nat.toDigits 10 z.natAbs).length:=by
  have:=PJ z.natAbs
  unfold wz at this;cases q:Nat.toDigits 10 z.natAbs with
  |nil=>rw[q]at this;exact absurd rfl this
  |cons a l=>simp
 unfold Lo.digitsOf;rw[List.length_append,List.length_map];split<;>(simp;omega)
theorem ye {v:Lo.Val} {r:Bool} (h:vok v):(Cm.opening v r).length<=25/\0<(Cm.opening v r).length:=by
 cases v with
 |num z=>
  have:=Ap h
  cases r
  .show (Lo.digitsOf z).length<=25/\0<(Lo.digitsOf z).length;omega
  .show ([32,46,32]++Lo.digitsOf z++ [41]).length<=25/\0<([32,46,32]++Lo.digitsOf z++ [41]).length;simp only[List.length_append,aG,WD];omega
 |nil=>cases r<;>decide
 |cell i=>cases r<;>simp[Cm.opening]
section
variable {c:Ct} {A:Ad}
abbrev wY:Stmt:=top 25
theorem IA:cW ["value","is_rest"] ["value","is_rest"] (cS wY):=fsc
inductive tU (c:Ct) (vs:List V) (H:Hp) (Q:VK) (E:XK):Prop
 |mk:∀a v r,vs= [.ref a,.bl r]->m9 c.K H a v->vok v->(∀x:Str,tl x=nats (Cm.opening v r)->Q (.str x) H)->tU c vs H Q E
theorem IB (T:Tx c A) (D:Df c "opening" wY ["value","is_rest"] A.mQ):Good c 1 "opening" A.mQ (tU c):=by
 refine D.good IA ?_;rintro X H _ Q E rfl a sn hr ⟨av,v,r,rfl,hv,ok,k⟩;refine⟨_,(cN (dX (iK iR (ixT (vr sn 0) cT) (pc_ T.rg (gl sn))) (cQ (cV (lW (fJ (vr sn 1)) gk gk))) dr) (cN (dX (iK iR (ixT (vr sn 0) cT) (pc_ T.P9 (gl sn))) (cQ (cV (lW (fJ (vr sn 1)) gk gk))) dr) (cQ (cV (lW (fJ (vr sn 1)) (fB tp (fB tp gk (mP uM (gl sn) T.RO boot_str (cK (ixT (vr sn 0) cT) cO))) gk) (mP uM (gl sn) T.RO boot_str (cK (ixT (vr sn 0) cT) cO))))))),?_⟩;refine⟨_,rfl,av,_,_,_,rfl,rfl,hv,cX (j:=0) rfl,rfl,_,rfl,?_⟩;cases v with
 |cell i=>
  refine fm ⟨_,rfl,_,rfl,?_⟩;cases r
  .exact eY (k _ (by show tl (Str.ofString "(")= [40];decide))
  .exact fm (k _ (by show tl (Str.ofString " ")= [32];decide))
 |nil=>
  refine eY ⟨_,rfl,av,_,_,_,rfl,rfl,hv,cX (j:=0) rfl,rfl,_,rfl,fm ⟨_,rfl,_,rfl,?_⟩⟩;cases r
  .exact eY (k _ (by decide))
  .exact fm (k _ (by decide))
 |num z=>
  refine eY ⟨_,rfl,av,_,_,_,rfl,rfl,hv,cX (j:=0) rfl,rfl,_,rfl,eY ⟨_,rfl,_,rfl,?_⟩⟩;have hd:=Ap ok;have hl:(Str.ofString (toString z)).length<=21:=by
   rw[j8,Iz];unfold nats;rw[List.length_map];exact hd.1
  cases r
  .refine eY ⟨_,rfl,av,_,_,_,rfl,rfl,hv,cX (j:=1) rfl,z,rfl,D3 ok,k _ ?_⟩;show tl (Str.ofString (toString z))=_;rw[Iz];rfl
  .have hl1:(Str.ofString " . "++Str.ofString (toString z)).length<=24:=by
    rw[j8,oH,List.length_append,<-j8,<-j8];have:(Str.ofString " . ").length=3:=by decide
    omega
   refine fm ⟨_,rfl,av,_,_,_,rfl,rfl,hv,cX (j:=1) rfl,z,rfl,D3 ok,_,_,rfl,rfl,?_,_,_,rfl,rfl,?_,k _ ?_⟩
   .have:(Str.ofString " . ").length=3:=by decide
    exact ai (show (Str.ofString " . ").length+(Str.ofString (toString z)).length<=24 by omega) (by decide)
   .have:(Str.ofString ")").length=1:=by decide
    exact ai (show (Str.ofString " . "++Str.ofString (toString z)).length+(Str.ofString ")").length<=25 by omega) (by decide)
   .show tl (Str.ofString " . "++Str.ofString (toString z)++Str.ofString ")")=_
    rw[oH,oH,Iz];show _=nats ([32,46,32]++Lo.digitsOf z++ [41]);unfold nats;rw[aA,aA];congr 1
abbrev Aq:Stmt:=top 24
theorem LP:cW ["cells","value","most","row","waiting","entry"] ["cells","value","most"] (cS Aq):=fsc
def VOK (cs:List Lo.Cell):Prop:=∀e∈cs,vok e.first/\vok e.rest
inductive sA (c:Ct) (A:Ad) (vs:List V) (H:Hp) (Q:VK) (E:XK):Prop
 |mk:∀L cs sh d xs a v m,vs= [.ref (CL.c L),.ref a,.int ((m:Nat):Int)]->eC c A H L cs sh d xs->m9 c.K H a v->Cm.below v cs.length->vok v->VOK cs->m<=10000->(∀H' p row,dR H H'->H p=none->H' p=some (.lst ((row:Lo.Bytes).map iv))->row.length<=m+25->(Lo.longOf cs.toArray v<=m->row=Lo.said cs.toArray v)->(m<Lo.longOf cs.toArray v->m<row.length)->Q (.ref p) H')->sA c A vs H Q E
def yA (K:PySem.W.Frag) (H:Hp):List Addr->List (Lo.Val×Bool)->Prop:=Paired fun a e=>∃b,H a=some (.tup [.ref b,.bl e.2])/\m9 K H b e.1
theorem yA.keep {K:PySem.W.Frag} {S:List Addr} {H H':Hp} {as:List Addr} {l:List (Lo.Val×Bool)} (h:yA K H as l) (k:dj S H H') (n:∀p∈S,NT H p):yA K H' as l:=
 Paired.jw h fun a e ⟨b,h1,h2⟩=>⟨b,k _ _ h1 (fun q=>(n a q).1 _ h1),dt h2 k n⟩
theorem Qi (b:Lo.Bytes):(nats b).map (fun (n:Nat)=>V.int (n:Int))=b.map iv:=by unfold nats iv;rw[bY];rfl
theorem LQ (T:Tx c A) (D:Df c "saying" Aq ["cells","value","most"] A.mZ) (D4:Good c 1 "codes" A.sj Ag) (wZ:Good c 1 "opening" A.mQ (tU c))
  (eh:dA c 1 A.dh "first_of" (kU c A Lo.Cell.first)) (eI:dA c 1 A.dh "rest_of" (kU c A Lo.Cell.rest)):Good c 2 "saying" A.mZ (sA c A):=by
 refine D.good LP ?_;rintro X H _ Q E rfl a sn hr ⟨L,cs,sh,d,xs,av,v,m,rfl,R,hv,hb,ok,oks,hm,k⟩;refine⟨_,(cN (pSt sn 3 (eX cO)) (cN (pSt sn 4 (eX (cK (h9 (cK (vr sn 1) (cK E8 cO))) cO))) (cN (qN a.never (Ho (iK oA (dv dk (gl sn) T.fE PySem.boot_len (cK (vr sn 4) cO)) cT) (Dc (iK zx (dv dk (gl sn) T.fE PySem.boot_len (cK (vr sn 3) cO)) (vr sn 2)))).pt (cN (pSt sn 5 (tq PySem.F.plainAttrs_list PySem.F.slot_list_pop PySem.F.type_list_pop wj (vr sn 4))) (cN (dH (jJ PySem.F.plainAttrs_list PySem.F.slot_list_extend PySem.F.type_list_extend oE (vr sn 3) (cK (pf_ D4 (hmo hr) (gl sn) (cK (pf_ wZ (hmo hr) (gl sn) (cK (ixT (vr sn 5) cT) (cK (ixT (vr sn 5) cT) cO))) cO)) cO))) (cQ (dX (iK iR (ixT (ixT (vr sn 5) cT) cT) (pc_ T.rg (gl sn))) (cN (dH (jJ PySem.F.plainAttrs_list PySem.F.slot_list_append PySem.F.type_list_append fh (vr sn 4) (cK (h9 (cK (pm_ T.dw eI (hmo hr) (vr sn 0) (cK (ixT (vr sn 5) cT) cO)) (cK E8 cO))) cO))) (cQ (dH (jJ PySem.F.plainAttrs_list PySem.F.slot_list_append PySem.F.type_list_append fh (vr sn 4) (cK (h9 (cK (pm_ T.dw eh (hmo hr) (vr sn 0) (cK (ixT (vr sn 5) cT) cO)) (cK E8 cO))) cO))))) dr))))) (cQ (cV (vr sn 3)))))),?_⟩;have two:2<=sizeLine:=by decide
 have wf:Cm.WF (cs.toArray).toList:=by simpa using R.wf
 refine⟨aO _,fun pr hpr=>⟨_,rfl,two,fun p0 hp0=>⟨sz,fun pw hpw=>?_⟩⟩⟩
 have n0:p0≠pr:=fun q=>by rw[q,cP]at hp0;cases hp0
 have hp0':H p0=none:=by rw[cR n0]at hp0;exact hp0
 have n1:pw≠p0:=fun q=>by rw[q,cP]at hpw;cases hpw
 rw[cR n1]at hpw;have n2:pw≠pr:=fun q=>by rw[q,cP]at hpw;cases hpw
 rw[cR n2]at hpw;generalize hH1:upd (upd (upd H pr (.lst [])) p0 (.tup [.ref av,.bl false])) pw (.lst [V.ref p0])=H1;have s1:dR H H1:=fun b o e=>by rw[<-hH1,cR (cM e hpw),cR (cM e hp0'),cR (cM e hpr)];exact e
 have r1:H1 pr=some (.lst []):=by rw[<-hH1,cR n2.symm,cR n0.symm];exact cP
 have w1:H1 pw=some (.lst ([p0].map V.ref)):=by rw[<-hH1];exact cP
 have e1:H1 p0=some (.tup [.ref av,.bl false]):=by rw[<-hH1,cR n1.symm];exact cP
 let Pv:L2.St->Hp->Prop:=fun σ H'=>∃(ve:Option V) (row:Lo.Bytes) (as:List Addr) (w:List (Lo.Val×Bool)),σ= [some (.ref L.c),some (.ref av),some (.int (m:Int)),some (.ref pr),some (.ref pw),ve]/\
  dR H H'/\H' pr=some (.lst (row.map iv))/\H' pw=some (.lst (as.map V.ref))/\yA X.K H' as w.reverse/\row++Cm.render cs.toArray w=Lo.said cs.toArray v/\(∀e∈w,Cm.below e.1 cs.length/\vok e.1)/\w.length<=row.length+1/\row.length<=m+25
 let mu':L2.St->Hp->Nat:=fun σ H'=>match H' pr with
  |some (.lst xs)=>(Lo.said cs.toArray v).length-xs.length
  |_=>0
 refine Fe Pv mu' ?_ ?_ ?_
 .refine⟨none,[],[p0],[(v,false)],rfl,s1,r1,w1,.cons ⟨av,e1,fT hv s1⟩ .nil,?_,?_,au _,aO _⟩
  .simp[Cm.render,Cm.ent]
  .intro e he;simp at he;subst he;exact⟨hb,ok⟩
 .rintro σ H' ⟨ve,row,as,w,rfl,sH,hr',hw',hW,hren,kD,hwl,hrl⟩;have hlen:(as.map V.ref).length=w.length:=by rw[List.length_map,Paired.length hW,aB]
  refine⟨_,rfl,pw,_,rfl,.inl (SqL.of hw'),_,_,rfl,rfl,_,rfl,?_⟩;rw[hlen];have hrowlen:(row.map iv).length=row.length:=List.length_map _;cases w with
  |nil=>
   rw[show decide ((0:Int)<(([]:List (Lo.Val×Bool)).length:Int))=false by decide]
   refine eY (eY ⟨_,rfl,?_⟩);have hrow:row=Lo.said cs.toArray v:=by simpa[Cm.render]using hren
   have hsl:=Cm.lZ wf (v:=v) (by simpa using hb)
   refine k H' pr row sH hpr hr' hrl (fun _=>hrow) (fun fH=>?_)
   rw[hrow,hsl];exact fH
  |cons e w=>
   rw[show decide ((0:Int)<((e::w).length:Int))=true from aI (by simp)]
   refine fm ⟨_,rfl,pr,_,rfl,.inl (SqL.of hr'),_,rfl,_,_,rfl,rfl,_,rfl,?_⟩;rw[hrowlen];have hsl:=Cm.lZ wf (v:=v) (by simpa using hb)
   have htot:row.length<=(Lo.said cs.toArray v).length:=by rw[<-hren,List.length_append];omega
   refine dd (fun hle=>?_) (fun hle=>?_)
   .have hle:row.length<=m:=by have:=aQ hle;omega
    obtain⟨ev,er⟩:=e;rw[aX]at hW;obtain⟨ig,ae,rfl,hW1,b,he1,he2⟩:=fR hW;obtain⟨hb1,hok1⟩:=kD (ev,er) aC;have hb1:Cm.below ev cs.length:=hb1;have hok1:vok ev:=hok1;rw[aA]at hw';refine⟨_,rfl,.inl ⟨rfl,_,SqL.of hw'⟩,pw,_,V.ref ae,rfl,rfl,hw',by simp,?_⟩
    rw[show (ig.map V.ref++ [ae].map V.ref).dropLast=ig.map V.ref from by show (ig.map V.ref++ [V.ref ae]).dropLast=_;rw[bU]]
    have hnt:NT H' pw:=NT.of hw';generalize hH2:upd H' pw (.lst (ig.map V.ref))=H2;have q2:dj [pw] H' H2:=by rw[<-hH2];exact kui
    have nts2:∀p∈ [pw],NT H' p:=fun p hp=>by simp at hp;subst hp;exact hnt
    have ae2:H2 ae=some (.tup [.ref b,.bl er]):=q2 _ _ he1 (fun z=>(nts2 _ z).1 _ he1)
    have b2:=dt he2 q2 nts2;have npw:pr≠pw:=n2.symm;have r2:H2 pr=some (.lst (row.map iv)):=q2 _ _ hr' (by simpa using npw)
    have w2:H2 pw=some (.lst (ig.map V.ref)):=by rw[<-hH2];exact cP
    have sH2:dR H H2:=fun x o ex=>by rw[<-hH2,cR (cM ex hpw)];exact sH _ _ ex
    have hW2:=yA.keep hW1 q2 nts2;refine⟨_,rfl,.inl ⟨rfl,_,SqL.of r2⟩,_,rfl,ae,_,_,_,rfl,rfl,SqT.of ae2,cX (j:=0) rfl,_,rfl,ae,_,_,_,rfl,rfl,SqT.of ae2,cX (j:=1) rfl,b,ev,er,rfl,b2,hok1,fun x hx=>⟨x,rfl,?_,fun D hD=>?_⟩⟩
    .rw[j8,hx];unfold nats;rw[List.length_map];have:=(ye (r:=er) hok1).1;omega
    rw[hx,Qi];have nD:=cM r2 hD;have nDw:=cM w2 hD;have s3:dR H2 (upd H2 D (.lst ((Cm.opening ev er).map iv))):=.dm hD;have hol:=ye (r:=er) hok1;refine⟨pr,D,_,_,rfl,rfl,s3 _ _ r2,cP,?_,?_⟩
    .rw[List.length_map,List.length_map];exact ai (show row.length+(Cm.opening ev er).length<=20000 by omega) (by decide)
    rw[<-aA];generalize hH3:upd (upd H2 D (.lst ((Cm.opening ev er).map iv))) pr (.lst ((row++Cm.opening ev er).map iv))=H3;have ntr:NT H2 pr:=NT.of r2;have q3:dj [pr] H2 H3:=by rw[<-hH3];exact dj.d7 (dj.of s3) (by simp)
    have nts3:∀p∈ [pr],NT H2 p:=fun p hp=>by simp at hp;subst hp;exact ntr
    have r3:H3 pr=some (.lst ((row++Cm.opening ev er).map iv)):=by rw[<-hH3];exact cP
    have w3:=q3 _ _ w2 (by simpa using n2)
    have ae3:=q3 _ _ ae2 (fun z=>(nts3 _ z).1 _ ae2)
    have b3:=dt b2 q3 nts3;have hW3:=yA.keep hW2 q3 nts3;have sH3:dR H H3:=fun x o ex=>q3 _ _ (sH2 _ _ ex) (by simpa using cM ex hpr)
    have hren3:(row++Cm.opening ev er)++Cm.render cs.toArray (Cm.tF cs.toArray ev++w)=Lo.said cs.toArray v:=by
     rw[cE,<-Cm.FO wf (v:=ev) (r:=er) (by simpa using hb1)];exact hren
    have hmu:∀(σ':L2.St) (H4:Hp),H4 pr=some (.lst ((row++Cm.opening ev er).map iv))->mu' σ' H4<mu' [some (.ref L.c),some (.ref av),some (.int (m:Int)),some (.ref pr),some (.ref pw),ve] H':=by
     intro σ' H4 h4;show (match H4 pr with|some (.lst xs)=>_|_=>0)<(match H' pr with|some (.lst xs)=>_|_=>0)
     rw[h4,hr'];dsimp only;rw[List.length_map,List.length_map,List.length_append];have:row.length+(Cm.opening ev er).length<=(Lo.said cs.toArray v).length:=by
      rw[<-hren3,List.length_append,List.length_append];omega
     exact Nat.sub_lt_sub_left (by omega) (by omega)
    refine⟨_,rfl,ae,_,_,_,rfl,rfl,SqT.of ae3,cX (j:=0) rfl,b,_,_,_,rfl,rfl,b3,cX (j:=0) rfl,rfl,_,rfl,?_⟩;cases ev with
    |num z=>
     refine eY ⟨⟨_,row++Cm.opening (.num z) er,ig,w,rfl,sH3,r3,w3,hW3,hren3,fun e' he'=>kD e' (ak _ he'),?_,?_⟩,hmu [] _ r3⟩
     .rw[List.length_append];simp at hwl;omega
     .rw[List.length_append];omega
    |nil=>
     refine eY ⟨⟨_,row++Cm.opening .nil er,ig,w,rfl,sH3,r3,w3,hW3,hren3,fun e' he'=>kD e' (ak _ he'),?_,?_⟩,hmu [] _ r3⟩
     .rw[List.length_append];simp at hwl;omega
     .rw[List.length_append];omega
    |cell i=>
     have hi:i<cs.length:=hb1;obtain⟨ce,hce⟩:∃ce,cs[i]?=some ce:=⟨_,af hi⟩;have R3:=R.same sH3;have hcg:cs.toArray.getD i Lo.noCell=ce:=by
      simp[aS,hce]
     have lw:ig.length=w.length:=by rw[Paired.length hW3,aB]
     refine fm ⟨_,rfl,.inl ⟨rfl,_,SqL.of w3⟩,_,rfl,L.c,L.dx,_,rfl,R3.ins,rfl,_,rfl,ae,_,_,_,rfl,rfl,SqT.of ae3,cX (j:=0) rfl,L,cs,sh,d,xs,b,i,ce,rfl,R3,b3,hce,fun br hbr=>⟨two,fun pe hpe=>?_⟩⟩
     have s4:dR H3 (upd H3 pe (.tup [.ref br,.bl true])):=.dm hpe;refine⟨pw,_,_,rfl,rfl,s4 _ _ w3,?_,?_⟩
     .rw[List.length_map,lw];exact aE (show w.length<=20000 by simp at hwl;omega) (by decide)
     rw[show ig.map V.ref++ [V.ref pe]=(ig++ [pe]).map V.ref from by rw[aA];rfl]
     have hW4:yA X.K (upd H3 pe (.tup [.ref br,.bl true])) (ig++ [pe]) (w.reverse++ [(ce.rest,true)]):=Paired.snoc (yA.keep (S:=[]) hW3 (.of s4) (fun p hp=>by simp at hp)) ⟨br,cP,fT hbr s4⟩
     generalize hH4:upd H3 pe (.tup [.ref br,.bl true])=H4 at hW4 s4⊢;have ntw4:NT H4 pw:=NT.of (s4 _ _ w3);generalize hH5:upd H4 pw (.lst ((ig++ [pe]).map V.ref))=H5;have q5:dj [pw] H4 H5:=by rw[<-hH5];exact kui
     have nts5:∀p∈ [pw],NT H4 p:=fun p hp=>by simp at hp;subst hp;exact ntw4
     have w5:H5 pw=some (.lst ((ig++ [pe]).map V.ref)):=by rw[<-hH5];exact cP
     have r5:=q5 _ _ (s4 _ _ r3) (by simpa using npw)
     have ae5:=q5 _ _ (s4 _ _ ae3) (fun z=>(nts5 _ z).1 _ (s4 _ _ ae3))
     have b5:=dt (fT b3 s4) q5 nts5;have hW5:=yA.keep hW4 q5 nts5;have sH5:dR H H5:=fun x o ex=>q5 _ _ (s4 _ _ (sH3 _ _ ex)) (by simpa using cM ex hpw)
     have R5:=R.same sH5;refine⟨_,rfl,.inl ⟨rfl,_,SqL.of w5⟩,_,rfl,L.c,L.dx,_,rfl,R5.ins,rfl,_,rfl,ae,_,_,_,rfl,rfl,SqT.of ae5,cX (j:=0) rfl,L,cs,sh,d,xs,b,i,ce,rfl,R5,b5,hce,fun bf hbf=>⟨two,fun pe2 hpe2=>?_⟩⟩
     have s6:dR H5 (upd H5 pe2 (.tup [.ref bf,.bl false])):=.dm hpe2;refine⟨pw,_,_,rfl,rfl,s6 _ _ w5,?_,?_⟩
     .rw[List.length_map,List.length_append,lw];exact aE (show w.length+ [pe].length<=20001 by simp at hwl⊢;omega) (by decide)
     rw[show (ig++ [pe]).map V.ref++ [V.ref pe2]=(ig++ [pe]++ [pe2]).map V.ref from by rw[aA (l₁:=ig++ [pe])];rfl]
     have hW6:yA X.K (upd H5 pe2 (.tup [.ref bf,.bl false])) (ig++ [pe]++ [pe2]) (w.reverse++ [(ce.rest,true)]++ [(ce.first,false)]):=Paired.snoc (yA.keep (S:=[]) hW5 (.of s6) (fun p hp=>by simp at hp)) ⟨bf,cP,fT hbf s6⟩
     generalize hH6:upd H5 pe2 (.tup [.ref bf,.bl false])=H6 at hW6 s6⊢;have ntw6:NT H6 pw:=NT.of (s6 _ _ w5);have q7:dj [pw] H6 (upd H6 pw (.lst ((ig++ [pe]++ [pe2]).map V.ref))):=kui;have nts7:∀p∈ [pw],NT H6 p:=fun p hp=>by simp at hp;subst hp;exact ntw6
     have r7:=q7 _ _ (s6 _ _ r5) (by simpa using npw)
     have hwf:=R.wf i ce hce;have hok:=oks ce (aP hce);refine⟨⟨_,row++Cm.opening (.cell i) er,ig++ [pe]++ [pe2],(ce.first,false)::(ce.rest,true)::w,rfl,fun x o ex=>q7 _ _ (s6 _ _ (sH5 _ _ ex)) (by simpa using cM ex hpw),r7,cP,?_,?_,?_,?_,?_⟩,hmu [] _ r7⟩
     .rw[aX,aX];exact yA.keep hW6 q7 nts7
     .have qh:Cm.tF cs.toArray (.cell i)= [(ce.first,false),(ce.rest,true)]:=by show [((cs.toArray.getD i Lo.noCell).first,false),((cs.toArray.getD i Lo.noCell).rest,true)]=_;rw[hcg]
      rw[qh]at hren3;exact hren3
     .intro e' he';rcases ag.mp he' with rfl|he'
      .exact⟨hwf.1.mono (bg hi),hok.1⟩
      .rcases ag.mp he' with rfl|he'
       .exact⟨hwf.2.mono (bg hi),hok.2⟩
       .exact kD e' (ak _ he')
     .rw[List.length_append];simp only[aG]at hwl⊢;omega
     .rw[List.length_append];omega
   .have hle:¬row.length<=m:=fun z=>by have:=bj hle;omega
    refine⟨_,rfl,k H' pr row sH hpr hr' hrl (fun hl=>?_) (fun _=>by omega)⟩
    exfalso
    have:(Lo.said cs.toArray v).length<=m:=by rw[hsl];exact hl
    omega
 .rintro σ H' Q1 Q2 hq ⟨v1,e1',p1,y1,e2',h3',i1,j1,e4',e5',k1,e6',h⟩;refine⟨v1,e1',p1,y1,e2',h3',i1,j1,e4',e5',k1,e6',?_⟩;cases k1 with
  |false=>exact eY (hq _ _ ((aj (by decide)).mp h))
  |true=>
   obtain⟨v2,g1,p2,y2,g2,g3,v3,g4,i2,j2,g5,g6,k2,g7,h⟩:=(aq (rfl:true=true)).mp h;exact fm ⟨v2,g1,p2,y2,g2,g3,v3,g4,i2,j2,g5,g6,k2,g7,hq _ _ h⟩
end
structure RA where
 r:Addr
 dx:Addr
 g:Addr
 dg:Addr
 ps:Addr
 pp:Addr
 s:Addr
 v:Addr
 u:Addr
 o:Addr
 L:CL
 l:List Lo.Tok
 tg:List Nat
 t:Addr
structure Rs where
 stack:List Lo.Val
 vars:List Lo.Val
 under:List Nat
 out:Lo.Bytes
 cs:List Lo.Cell
 done:Nat
 pos:Nat
 fol:Nat
 fault:Nat
 full:Nat
def nzv (vs:List Lo.Val):Nat:=(vs.filter fun (v:Lo.Val)=>!Lo.isZero v).length
def kW (W:RA) (q:Rs) (z:Nat):List (Str×V):=[("program",.ref W.g),("cells",.ref W.L.c),("stack",.ref W.s),("variables",.ref W.v),("variables_not_zero",.int (z:Nat)),("taken",.ref W.t),("under_way",.ref W.u),("output",.ref W.o),("carried_out",.int (q.done:Nat)),("position",.int (q.pos:Nat)),("following",.int (q.fol:Nat)),("fault",.int (q.fault:Nat)),("fullest",.int (q.full:Nat))]
def kX (W:RA) (q:Rs):List (Str×V):=kW W q (nzv q.vars)
def rmu (W:RA):List Addr:=[W.r,W.s,W.v,W.u,W.o,W.t,W.L.f,W.L.r,W.L.s,W.L.n,W.L.h,W.L.c]
def rls (W:RA):List Addr:=[W.s,W.v,W.u,W.o,W.t]++([W.L.f,W.L.r,W.L.s,W.L.h]++ [W.ps,W.pp])
structure e9 (c:Ct) (A:Ad) (H:Hp) (W:RA) (q:Rs) (tk rt:List Lo.Val) (z:Nat):Prop where
 ins:H W.r=some (.ins A.da W.dx (kW W q z))
 prog:BB A H W.g W.dg W.ps W.pp W.l W.tg
 cel:∃ho sh d xs,eC c A H {W.L with ho:=ho,z:=Hm.hd ho} q.cs sh d xs/\d.length<=q.cs.length/\Hm.Hi q.cs ho rt
 stk:∃as:List Addr,H W.s=some (.lst (as.map V.ref))/\Vals c.K H as q.stack.reverse
 vrs:∃as:List Addr,H W.v=some (.lst (as.map V.ref))/\Vals c.K H as q.vars
 tak:∃as:List Addr,H W.t=some (.lst (as.map V.ref))/\Vals c.K H as tk
 und:H W.u=some (.lst (q.under.reverse.map fun (n:Nat)=>V.int (n:Int)))
 out:H W.o=some (.lst (q.out.map iv))
 nd:(rls W).Nodup
def roots (q:Rs) (tk:List Lo.Val):List Lo.Val:=q.stack++(q.vars++tk)
def fb (c:Ct) (A:Ad) (H:Hp) (W:RA) (q:Rs):Prop:=∃tk,e9 c A H W q tk (roots q tk) (nzv q.vars)
theorem BB.keep {A:Ad} {S:List Addr} {H H':Hp} {x dx ps pp:Addr} {l:List Lo.Tok} {tg:List Nat} (h:BB A H x dx ps pp l tg) (k:dj S H H') (n:∀p∈S,NT H p) (h1:x∉S) (h2:ps∉S) (h3:pp∉S):BB A H' x dx ps pp l tg:=by
 obtain⟨as,a1,a2⟩:=h.steps;exact⟨k _ _ h.ins h1,⟨as,k _ _ a1 h2,Paired.jw a2 fun b _ e=>k _ _ e (fun z=>(n b z).1 _ e)⟩,k _ _ h.places h3⟩
section
variable {c:Ct} {A:Ad} {H H':Hp} {W:RA} {q:Rs} {tk rt:List Lo.Val} {z:Nat}
def foot (W:RA):List Addr:=[W.r,W.g,W.ps,W.pp,W.s,W.v,W.u,W.o,W.t,W.L.c,W.L.f,W.L.r,W.L.s,W.L.n,W.L.h]
theorem e9.old (h:e9 c A H W q tk rt z):∀p∈foot W,∃o,H p=some o:=by
 obtain⟨ho,sh,d,xs,c1,c2,c3⟩:=h.cel;obtain⟨as,s1,s2⟩:=h.stk;obtain⟨bs,v1,v2⟩:=h.vrs;obtain⟨ts,t1,t2⟩:=h.tak;obtain⟨fs,f1,_⟩:=c1.fst;obtain⟨rs,r1,_⟩:=c1.rst;obtain⟨ss,p1,p2⟩:=h.prog.steps;intro p hp;simp only[foot,ag,aJ,bw]at hp;rcases hp with rfl|rfl|rfl|rfl|rfl|rfl|rfl|rfl|rfl|rfl|rfl|rfl|rfl|rfl|rfl
 .exact⟨_,h.ins⟩
 .exact⟨_,h.prog.ins⟩
 .exact⟨_,p1⟩
 .exact⟨_,h.prog.places⟩
 .exact⟨_,s1⟩
 .exact⟨_,v1⟩
 .exact⟨_,h.und⟩
 .exact⟨_,h.out⟩
 .exact⟨_,t1⟩
 .exact⟨_,c1.ins⟩
 .exact⟨_,f1⟩
 .exact⟨_,r1⟩
 .exact⟨_,c1.shp⟩
 .exact⟨_,c1.num⟩
 .exact⟨_,c1.hol⟩
theorem e9.keep {S:List Addr} (h:e9 c A H W q tk rt z) (k:dj S H H') (n:∀p∈S,NT H p) (m:∀p∈S,p∉foot W):e9 c A H' W q tk rt z:=by
 obtain⟨ho,sh,d,xs,c1,c2,c3⟩:=h.cel;obtain⟨as,s1,s2⟩:=h.stk;obtain⟨bs,v1,v2⟩:=h.vrs;obtain⟨ts,t1,t2⟩:=h.tak;have no:∀p,p∈foot W->p∉S:=fun p hp z=>m p z hp
 refine⟨k _ _ h.ins (no _ (by simp[foot])),h.prog.keep k n (no _ (by simp[foot])) (no _ (by simp[foot])) (no _ (by simp[foot])),⟨ho,sh,d,xs,c1.keep k n (fun p hp=>⟨fun z=>m p hp (by rw[z];simp[foot]),fun z=>m p hp ?_⟩),c2,c3⟩,⟨as,k _ _ s1 (no _ (by simp[foot])),s2.keep k n⟩,⟨bs,k _ _ v1 (no _ (by simp[foot])),v2.keep k n⟩,⟨ts,k _ _ t1 (no _ (by simp[foot])),t2.keep k n⟩,k _ _ h.und (no _ (by simp[foot])),k _ _ h.out (no _ (by simp[foot])),h.nd⟩
 simp only[cmu,ag,aJ,bw]at z;rcases z with z|z|z|z|z|z<;>(rw[z];simp[foot])
theorem e9.same (h:e9 c A H W q tk rt z) (s:dR H H'):e9 c A H' W q tk rt z:=h.keep (S:=[]) (.of s) (fun p hp=>by simp at hp) (fun p hp=>by simp at hp)
theorem e9.nt (h:e9 c A H W q tk rt z):∀p∈rmu W,NT H p:=by
 obtain⟨ho,sh,d,xs,c1,c2,c3⟩:=h.cel;obtain⟨as,s1,s2⟩:=h.stk;obtain⟨bs,v1,v2⟩:=h.vrs;obtain⟨ts,t1,t2⟩:=h.tak;intro p hp;simp only[rmu,ag,aJ,bw]at hp;rcases hp with rfl|rfl|rfl|rfl|rfl|rfl|hp
 .exact NT.of h.ins
 .exact NT.of s1
 .exact NT.of v1
 .exact NT.of h.und
 .exact NT.of h.out
 .exact NT.of t1
 .exact c1.nt p (by simp only[cmu,ag,aJ,bw];exact hp)
theorem e9.N3 (h:e9 c A H W q tk rt z):W.r≠W.L.c:=fun z=>by
 obtain⟨ho,sh,d,xs,c1,c2,c3⟩:=h.cel;have:=h.ins;have c1:=c1.ins;rw[z]at this;rw[show H W.L.c=_ from c1]at this;injection this with this;injection this with _ _ this
 simp[n8,kW]at this
theorem e9.Vj (h:e9 c A H W q tk rt z):W.r≠W.g:=fun z=>by
 have:=h.ins
 rw[z,h.prog.ins]at this;injection this with this;injection this with _ _ this
 simp[LL,kW]at this
theorem e9.d1 (h:e9 c A H W q tk rt z):∀a∈ [W.s,W.v,W.u,W.o,W.t],∀b∈ [W.L.f,W.L.r,W.L.s,W.L.h]++ [W.ps,W.pp],a≠b:=(bC.mp h.nd).2.2
theorem e9.d2 (h:e9 c A H W q tk rt z):∀a∈ [W.L.f,W.L.r,W.L.s,W.L.h],∀b∈ [W.ps,W.pp],a≠b:=(bC.mp (bC.mp h.nd).2.1).2.2
theorem e9.dis (h:e9 c A H W q tk rt z): [W.s,W.v,W.u,W.o,W.t].Nodup:=(bC.mp h.nd).1
theorem e9.Vk (h:e9 c A H W q tk rt z) (fs:List (Str×V)):BB A (upd H W.r (.ins A.da W.dx fs)) W.g W.dg W.ps W.pp W.l W.tg/\(∃ho sh d xs,eC c A (upd H W.r (.ins A.da W.dx fs)) {W.L with ho:=ho,z:=Hm.hd ho} q.cs sh d xs/\d.length<=q.cs.length/\Hm.Hi q.cs ho rt)/\
  (∃as:List Addr,(upd H W.r (.ins A.da W.dx fs)) W.s=some (.lst (as.map V.ref))/\Vals c.K (upd H W.r (.ins A.da W.dx fs)) as q.stack.reverse)/\(∃as:List Addr,(upd H W.r (.ins A.da W.dx fs)) W.v=some (.lst (as.map V.ref))/\Vals c.K (upd H W.r (.ins A.da W.dx fs)) as q.vars)/\
  (∃as:List Addr,(upd H W.r (.ins A.da W.dx fs)) W.t=some (.lst (as.map V.ref))/\Vals c.K (upd H W.r (.ins A.da W.dx fs)) as tk)/\(upd H W.r (.ins A.da W.dx fs)) W.u=some (.lst (q.under.reverse.map fun (n:Nat)=>V.int (n:Int)))/\(upd H W.r (.ins A.da W.dx fs)) W.o=some (.lst (q.out.map iv)):=by
 obtain⟨ho,sh,d,xs,c1,c2,c3⟩:=h.cel;obtain⟨as,s1,s2⟩:=h.stk;obtain⟨bs,v1,v2⟩:=h.vrs;obtain⟨ts,t1,t2⟩:=h.tak;have k:dj [W.r] H (upd H W.r (.ins A.da W.dx fs)):=kui;have n:∀p∈ [W.r],NT H p:=fun p hp=>h.nt p (by simp at hp;subst hp;simp[rmu])
 have no:∀b o,H b=some o->(∀C d fs,o≠ .ins C d fs)->b∉ [W.r]:=fun b o e z=>by
  simp only[bz];exact sS e h.ins (z _ _ _)
 refine⟨h.prog.keep k n (by simpa using h.Vj.symm) ?_ (no _ _ h.prog.places (fun _ _ _ z=>by cases z)),⟨ho,sh,d,xs,?_,c2,c3⟩,⟨as,k _ _ s1 (no _ _ s1 (fun _ _ _ z=>by cases z)),s2.keep k n⟩,
  ⟨bs,k _ _ v1 (no _ _ v1 (fun _ _ _ z=>by cases z)),v2.keep k n⟩,⟨ts,k _ _ t1 (no _ _ t1 (fun _ _ _ z=>by cases z)),t2.keep k n⟩,k _ _ h.und (no _ _ h.und (fun _ _ _ z=>by cases z)),k _ _ h.out (no _ _ h.out (fun _ _ _ z=>by cases z))⟩
 .obtain⟨ss,p1,_⟩:=h.prog.steps;exact no _ _ p1 (fun _ _ _ z=>by cases z)
 .refine c1.keep k n fun p hp=>?_
  simp at hp;subst hp;refine⟨h.N3,fun z=>?_⟩
  simp only[cmu,ag,aJ,bw]at z;obtain⟨fs,f1,_⟩:=c1.fst;obtain⟨rs,r1,_⟩:=c1.rst;rcases z with z|z|z|z|z|z
  .exact absurd z (neo h.ins f1)
  .exact absurd z (neo h.ins r1)
  .exact absurd z (neo h.ins c1.shp)
  .exact absurd z (neo h.ins c1.num)
  .exact absurd z (neo h.ins c1.hol)
  .exact h.N3 z
theorem e9.kY (h:e9 c A H W q tk rt z) {q':Rs} {z':Nat} (e1:q'.stack=q.stack) (e2:q'.vars=q.vars) (e3:q'.under=q.under) (e4:q'.out=q.out) (e5:q'.cs=q.cs):e9 c A (upd H W.r (.ins A.da W.dx (kW W q' z'))) W q' tk rt z':=by
 obtain⟨a1,a2,a3,a4,a5,a6,a7⟩:=h.Vk (kW W q' z');exact⟨cP,a1,by rw[e5];exact a2,by rw[e1];exact a3,by rw[e2];exact a4,a5,by rw[e3];exact a6,by rw[e4];exact a7,h.nd⟩
theorem e9.N4 {p:Addr} (h:e9 c A H W q tk rt z) (hp:H p=none):e9 c A (upd (upd H p (.lst [])) W.r (.ins A.da W.dx (kW {W with t:=p} q z))) {W with t:=p} q [] rt z:=by
 have h1:=h.same (.dm (o:=.lst []) hp);obtain⟨a1,a2,a3,a4,a5,a6,a7⟩:=h1.Vk (kW {W with t:=p} q z)
 have np:∀a∈foot W,a≠p:=fun a ha z=>by
  obtain⟨o,e⟩:=h.old a ha;rw[z,hp]at e;cases e
 have nd:=h.dis;refine⟨cP,a1,a2,a3,a4,⟨[],?_,.nil⟩,a6,a7,?_⟩
 .show upd (upd H p (.lst [])) W.r _ p=_;rw[cR (np _ (by simp[foot])).symm];exact cP
 .refine bC.mpr ⟨?_,(bC.mp h.nd).2.1,fun a ha b hb=>?_⟩
  .simp only[cg,ag,aJ,bw,X3]at nd⊢;exact⟨⟨nd.1.1,nd.1.2.1,nd.1.2.2.1,np _ (by simp[foot])⟩,⟨nd.2.1.1,nd.2.1.2.1,np _ (by simp[foot])⟩,⟨nd.2.2.1.1,np _ (by simp[foot])⟩,np _ (by simp[foot]),nd.2.2.2.2⟩
  .simp only[ag,aJ,bw]at ha;rcases ha with ha|ha|ha|ha|ha
   .exact h.d1 a (by simp[ha]) b hb
   .exact h.d1 a (by simp[ha]) b hb
   .exact h.d1 a (by simp[ha]) b hb
   .exact h.d1 a (by simp[ha]) b hb
   .subst ha;refine(np b ?_).symm;simp only[XH,List.nil_append,ag,aJ,bw]at hb;rcases hb with hb|hb|hb|hb|hb|hb<;>(rw[hb];simp[foot])
theorem e9.rest (h:e9 c A H W q tk rt z) {p:Addr} {xs ys:List V} (hp:p∈ [W.s,W.v,W.u,W.o,W.t]) (hx:H p=some (.lst xs)):
  dj [p] H (upd H p (.lst ys))/\(∀b∈ [p],NT H b)/\(∀b o,H b=some o->(∀zs,o≠ .lst zs)->upd H p (.lst ys) b=some o)/\BB A (upd H p (.lst ys)) W.g W.dg W.ps W.pp W.l W.tg/\∃ho sh d xs,eC c A (upd H p (.lst ys)) {W.L with ho:=ho,z:=Hm.hd ho} q.cs sh d xs/\d.length<=q.cs.length/\Hm.Hi q.cs ho rt:=by
 obtain⟨ho,sh,d,xs',c1,c2,c3⟩:=h.cel;have k:dj [p] H (upd H p (.lst ys)):=kui;have n:∀b∈ [p],NT H b:=fun b hb=>by simp at hb;subst hb;exact NT.of hx
 have no:∀b o,H b=some o->(∀zs,o≠ .lst zs)->b≠p:=fun b o e z=>sS e hx (z _)
 have m:∀b∈ [W.L.f,W.L.r,W.L.s,W.L.h]++ [W.ps,W.pp],b≠p:=fun b hb z=>h.d1 p hp b hb z.symm
 refine⟨k,n,fun b o e z=>k _ _ e (by simpa using no b o e z),h.prog.keep k n (by simpa using no _ _ h.prog.ins (fun _ z=>by cases z)) (by simpa using m _ (by simp)) (by simpa using m _ (by simp)),ho,sh,d,xs',c1.put hx (fun z=>?_),c2,c3⟩
 simp only[cmu,ag,aJ,bw]at z;rcases z with z|z|z|z|z|z
 .exact m _ (by simp) z.symm
 .exact m _ (by simp) z.symm
 .exact m _ (by simp) z.symm
 .exact no _ _ c1.num (fun _ z=>by cases z) z.symm
 .exact m _ (by simp) z.symm
 .exact no _ _ c1.ins (fun _ z=>by cases z) z.symm
theorem e9.ten (h:e9 c A H W q tk rt z):W.s≠W.v/\W.s≠W.u/\W.s≠W.o/\W.s≠W.t/\W.v≠W.u/\W.v≠W.o/\W.v≠W.t/\W.u≠W.o/\W.u≠W.t/\W.o≠W.t:=by
 have nd:=h.dis;simp only[cg,ag,aJ,bw,X3]at nd;exact⟨nd.1.1,nd.1.2.1,nd.1.2.2.1,nd.1.2.2.2,nd.2.1.1,nd.2.1.2.1,nd.2.1.2.2,nd.2.2.1.1,nd.2.2.1.2,nd.2.2.2.1⟩
theorem e9.KH (h:e9 c A H W q tk rt z) {as:List Addr} {st:List Lo.Val} (ha:Vals c.K H as st.reverse):e9 c A (upd H W.s (.lst (as.map V.ref))) W {q with stack:=st} tk rt z:=by
 obtain⟨bs,s1,s2⟩:=h.stk;obtain⟨cs,v1,v2⟩:=h.vrs;obtain⟨ts,t1,t2⟩:=h.tak;obtain⟨k,n,no,p,ce⟩:=h.rest (ys:=as.map V.ref) (by simp) s1
 obtain⟨sv,su,so,gg,vu,vo,vt,uo,ut,ot⟩:=h.ten;exact⟨no _ _ h.ins (fun _ z=>by cases z),p,ce,⟨as,cP,ha.keep k n⟩,⟨cs,k _ _ v1 (by simpa using sv.symm),v2.keep k n⟩,⟨ts,k _ _ t1 (by simpa using gg.symm),t2.keep k n⟩,k _ _ h.und (by simpa using su.symm),k _ _ h.out (by simpa using so.symm),h.nd⟩
theorem e9.Qj (h:e9 c A H W q tk rt z) {as:List Addr} {vs:List Lo.Val} (ha:Vals c.K H as vs):e9 c A (upd H W.v (.lst (as.map V.ref))) W {q with vars:=vs} tk rt z:=by
 obtain⟨bs,s1,s2⟩:=h.stk;obtain⟨cs,v1,v2⟩:=h.vrs;obtain⟨ts,t1,t2⟩:=h.tak;obtain⟨k,n,no,p,ce⟩:=h.rest (ys:=as.map V.ref) (by simp) v1
 obtain⟨sv,su,so,gg,vu,vo,vt,uo,ut,ot⟩:=h.ten;exact⟨no _ _ h.ins (fun _ z=>by cases z),p,ce,⟨bs,k _ _ s1 (by simpa using sv),s2.keep k n⟩,⟨as,cP,ha.keep k n⟩,⟨ts,k _ _ t1 (by simpa using vt.symm),t2.keep k n⟩,k _ _ h.und (by simpa using vu.symm),k _ _ h.out (by simpa using vo.symm),h.nd⟩
theorem e9.KI (h:e9 c A H W q tk rt z) {as:List Addr} {tk':List Lo.Val} (ha:Vals c.K H as tk'):e9 c A (upd H W.t (.lst (as.map V.ref))) W q tk' rt z:=by
 obtain⟨bs,s1,s2⟩:=h.stk;obtain⟨cs,v1,v2⟩:=h.vrs;obtain⟨ts,t1,t2⟩:=h.tak;obtain⟨k,n,no,p,ce⟩:=h.rest (ys:=as.map V.ref) (by simp) t1
 obtain⟨sv,su,so,gg,vu,vo,vt,uo,ut,ot⟩:=h.ten;exact⟨no _ _ h.ins (fun _ z=>by cases z),p,ce,⟨bs,k _ _ s1 (by simpa using gg),s2.keep k n⟩,⟨cs,k _ _ v1 (by simpa using vt),v2.keep k n⟩,⟨as,cP,ha.keep k n⟩,k _ _ h.und (by simpa using ut),k _ _ h.out (by simpa using ot),h.nd⟩
theorem e9.sC (h:e9 c A H W q tk rt z) {us:List Nat}:e9 c A (upd H W.u (.lst (us.reverse.map fun (n:Nat)=>V.int (n:Int)))) W {q with under:=us} tk rt z:=by
 obtain⟨bs,s1,s2⟩:=h.stk;obtain⟨cs,v1,v2⟩:=h.vrs;obtain⟨ts,t1,t2⟩:=h.tak;obtain⟨k,n,no,p,ce⟩:=h.rest (ys:=us.reverse.map fun (n:Nat)=>V.int (n:Int)) (by simp) h.und
 obtain⟨sv,su,so,gg,vu,vo,vt,uo,ut,ot⟩:=h.ten;exact⟨no _ _ h.ins (fun _ z=>by cases z),p,ce,⟨bs,k _ _ s1 (by simpa using su),s2.keep k n⟩,⟨cs,k _ _ v1 (by simpa using vu),v2.keep k n⟩,⟨ts,k _ _ t1 (by simpa using ut.symm),t2.keep k n⟩,cP,k _ _ h.out (by simpa using uo.symm),h.nd⟩
theorem e9.D5 (h:e9 c A H W q tk rt z) {b:Lo.Bytes}:e9 c A (upd H W.o (.lst (b.map iv))) W {q with out:=b} tk rt z:=by
 obtain⟨bs,s1,s2⟩:=h.stk;obtain⟨cs,v1,v2⟩:=h.vrs;obtain⟨ts,t1,t2⟩:=h.tak;obtain⟨k,n,no,p,ce⟩:=h.rest (ys:=b.map iv) (by simp) h.out
 obtain⟨sv,su,so,gg,vu,vo,vt,uo,ut,ot⟩:=h.ten;exact⟨no _ _ h.ins (fun _ z=>by cases z),p,ce,⟨bs,k _ _ s1 (by simpa using so),s2.keep k n⟩,⟨cs,k _ _ v1 (by simpa using vo),v2.keep k n⟩,⟨ts,k _ _ t1 (by simpa using ot.symm),t2.keep k n⟩,k _ _ h.und (by simpa using uo),cP,h.nd⟩
theorem e9.zj (h:e9 c A H W q tk rt z) {cs:List Lo.Cell} {ho:List Nat} {sh:List Nat} {d:List ((Cm.LK×Cm.LK)×Nat)} {xs:List (NK×Addr×Value)} {rt':List Lo.Val} (k:dj (cmu W.L) H H') (hc:eC c A H' {W.L with ho:=ho,z:=Hm.hd ho} cs sh d xs) (hd:d.length<=cs.length) (hi:Hm.Hi cs ho rt'):e9 c A H' W {q with cs:=cs} tk rt' z:=by
 obtain⟨ho0,sh0,d0,xs0,c1,c2,c3⟩:=h.cel;obtain⟨as,s1,s2⟩:=h.stk;obtain⟨bs,v1,v2⟩:=h.vrs;obtain⟨ts,t1,t2⟩:=h.tak;have n:∀p∈cmu W.L,NT H p:=c1.nt;obtain⟨fs,f1,_⟩:=c1.fst;obtain⟨rs,r1,_⟩:=c1.rst;have c0:=c1.ins;have nl:∀b xs,H b=some (.lst xs)->(∀a∈ [W.L.f,W.L.r,W.L.s,W.L.h],b≠a)->b∉cmu W.L:=fun b xs e m z=>by
  simp only[cmu,ag,aJ,bw]at z;rcases z with z|z|z|z|z|z
  .exact m _ (by simp) z
  .exact m _ (by simp) z
  .exact m _ (by simp) z
  .exact absurd z (neo e c1.num)
  .exact m _ (by simp) z
  .exact absurd z (neo e c0)
 have m5:∀b∈ [W.s,W.v,W.u,W.o,W.t],∀a∈ [W.L.f,W.L.r,W.L.s,W.L.h],b≠a:=fun b hb a ha=>h.d1 b hb a (cH _ ha)
 have mp:∀b∈ [W.ps,W.pp],∀a∈ [W.L.f,W.L.r,W.L.s,W.L.h],b≠a:=fun b hb a ha z=>h.d2 a ha b hb z.symm
 have ni:∀b C dd fs,H b=some (.ins C dd fs)->b≠W.L.c->b∉cmu W.L:=fun b C dd fs e m z=>by
  simp only[cmu,ag,aJ,bw]at z;rcases z with z|z|z|z|z|z
  .exact absurd z (neo e f1)
  .exact absurd z (neo e r1)
  .exact absurd z (neo e c1.shp)
  .exact absurd z (neo e c1.num)
  .exact absurd z (neo e c1.hol)
  .exact m z
 have gc:W.g≠W.L.c:=fun z=>by
  have:=h.prog.ins
  rw[z]at this;rw[show H W.L.c=_ from c0]at this;injection this with this;injection this with _ _ this
  simp[LL,n8]at this
 obtain⟨ss,p1,p2⟩:=h.prog.steps;exact⟨k _ _ h.ins (ni _ _ _ _ h.ins h.N3),h.prog.keep k n (ni _ _ _ _ h.prog.ins gc) (nl _ _ p1 (mp _ (by simp))) (nl _ _ h.prog.places (mp _ (by simp))),⟨ho,sh,d,xs,hc,hd,hi⟩,
  ⟨as,k _ _ s1 (nl _ _ s1 (m5 _ (by simp))),s2.keep k n⟩,⟨bs,k _ _ v1 (nl _ _ v1 (m5 _ (by simp))),v2.keep k n⟩,⟨ts,k _ _ t1 (nl _ _ t1 (m5 _ (by simp))),t2.keep k n⟩,k _ _ h.und (nl _ _ h.und (m5 _ (by simp))),k _ _ h.out (nl _ _ h.out (m5 _ (by simp))),h.nd⟩
theorem e9.other {H2:Hp} {q2:Rs} {tk2 rt2:List Lo.Val} {z2:Nat} {p:Addr} {xs ys:List V} (h2:e9 c A H2 W q2 tk2 rt2 z2) (hp:H p=none) (h:e9 c A H W q tk rt z) (h1:H2 p=some (.lst xs)):e9 c A (upd H2 p (.lst ys)) W q2 tk2 rt2 z2:=
 h2.keep (S:=[p]) (kui) (fun b hb=>by simp at hb;subst hb;exact NT.of h1) (fun b hb z=>by
  simp at hb;subst hb;obtain⟨o,e⟩:=h.old _ z;rw[hp]at e;cases e)
theorem e9.perm {rt':List Lo.Val} (h:e9 c A H W q tk rt z) (e:∀i,Hm.cnt i rt'=Hm.cnt i rt):e9 c A H W q tk rt' z:=by
 obtain⟨ho,sh,d,xs,c1,c2,c3⟩:=h.cel;exact⟨h.ins,h.prog,⟨ho,sh,d,xs,c1,c2,c3.perm e⟩,h.stk,h.vrs,h.tak,h.und,h.out,h.nd⟩
theorem fb.ins (h:fb c A H W q):H W.r=some (.ins A.da W.dx (kX W q)):=by obtain⟨tk,h⟩:=h;exact h.ins
theorem fb.prog (h:fb c A H W q):BB A H W.g W.dg W.ps W.pp W.l W.tg:=by obtain⟨tk,h⟩:=h;exact h.prog
theorem fb.cel (h:fb c A H W q):∃ho sh d xs,eC c A H {W.L with ho:=ho,z:=Hm.hd ho} q.cs sh d xs/\d.length<=q.cs.length:=by
 obtain⟨tk,h⟩:=h;obtain⟨ho,sh,d,xs,c1,c2,c3⟩:=h.cel;exact⟨ho,sh,d,xs,c1,c2⟩
theorem fb.stk (h:fb c A H W q):∃as:List Addr,H W.s=some (.lst (as.map V.ref))/\Vals c.K H as q.stack.reverse:=by obtain⟨tk,h⟩:=h;exact h.stk
theorem fb.vrs (h:fb c A H W q):∃as:List Addr,H W.v=some (.lst (as.map V.ref))/\Vals c.K H as q.vars:=by obtain⟨tk,h⟩:=h;exact h.vrs
theorem fb.und (h:fb c A H W q):H W.u=some (.lst (q.under.reverse.map fun (n:Nat)=>V.int (n:Int))):=by obtain⟨tk,h⟩:=h;exact h.und
theorem fb.out (h:fb c A H W q):H W.o=some (.lst (q.out.map iv)):=by obtain⟨tk,h⟩:=h;exact h.out
theorem fb.nd (h:fb c A H W q):(rls W).Nodup:=by obtain⟨tk,h⟩:=h;exact h.nd
theorem fb.old (h:fb c A H W q):∀p∈foot W,∃o,H p=some o:=by obtain⟨tk,h⟩:=h;exact h.old
theorem fb.nt (h:fb c A H W q):∀p∈rmu W,NT H p:=by obtain⟨tk,h⟩:=h;exact h.nt
theorem fb.same (h:fb c A H W q) (s:dR H H'):fb c A H' W q:=by obtain⟨tk,h⟩:=h;exact⟨tk,h.same s⟩
theorem fb.keep {S:List Addr} (h:fb c A H W q) (k:dj S H H') (n:∀p∈S,NT H p) (m:∀p∈S,p∉foot W):fb c A H' W q:=by obtain⟨tk,h⟩:=h;exact⟨tk,h.keep k n m⟩
theorem fb.kY (h:fb c A H W q) {q':Rs} (e1:q'.stack=q.stack) (e2:q'.vars=q.vars) (e3:q'.under=q.under) (e4:q'.out=q.out) (e5:q'.cs=q.cs):fb c A (upd H W.r (.ins A.da W.dx (kX W q'))) W q':=by
 obtain⟨tk,h⟩:=h;refine⟨tk,?_⟩;have:=h.kY (q':=q') (z':=nzv q'.vars) e1 e2 e3 e4 e5;have er:roots q' tk=roots q tk:=by unfold roots;rw[e1,e2]
 rw[er];exact this
theorem fb.sC (h:fb c A H W q) {us:List Nat}:fb c A (upd H W.u (.lst (us.reverse.map fun (n:Nat)=>V.int (n:Int)))) W {q with under:=us}:=by obtain⟨tk,h⟩:=h;exact⟨tk,h.sC⟩
theorem fb.D5 (h:fb c A H W q) {b:Lo.Bytes}:fb c A (upd H W.o (.lst (b.map iv))) W {q with out:=b}:=by obtain⟨tk,h⟩:=h;exact⟨tk,h.D5⟩
theorem fb.other {H2:Hp} {q2:Rs} {p:Addr} {xs ys:List V} (h2:fb c A H2 W q2) (hp:H p=none) (h:fb c A H W q) (h1:H2 p=some (.lst xs)):fb c A (upd H2 p (.lst ys)) W q2:=by
 obtain⟨tk,h⟩:=h;obtain⟨tk2,h2⟩:=h2;exact⟨tk2,h2.other hp h h1⟩
structure fO (c:Ct) (A:Ad) (H:Hp) (W:RA) (q:Rs):Prop where
 l:fb c A H W q
 t:H W.t=some (.lst [])
instance:Coe (fO c A H W q) (fb c A H W q):=⟨fO.l⟩
theorem fO.x (h:fO c A H W q):e9 c A H W q [] (roots q []) (nzv q.vars):=by
 obtain⟨tk,x⟩:=h.l;obtain⟨ts,t1,t2⟩:=x.tak;rw[h.t]at t1;injection t1 with t1
 injection t1 with t1
 have:ts= []:=by cases ts with
  |nil=>rfl
  |cons a b=>cases t1
 subst this;cases t2;exact x
theorem fO.of (h:e9 c A H W q [] (roots q []) (nzv q.vars)):fO c A H W q:=by
 refine⟨⟨_,h⟩,?_⟩;obtain⟨ts,t1,t2⟩:=h.tak;cases t2;exact t1
theorem fO.ins (h:fO c A H W q):H W.r=some (.ins A.da W.dx (kX W q)):=h.l.ins
theorem fO.prog (h:fO c A H W q):BB A H W.g W.dg W.ps W.pp W.l W.tg:=h.l.prog
theorem fO.cel (h:fO c A H W q):∃ho sh d xs,eC c A H {W.L with ho:=ho,z:=Hm.hd ho} q.cs sh d xs/\d.length<=q.cs.length:=h.l.cel
theorem fO.stk (h:fO c A H W q):∃as:List Addr,H W.s=some (.lst (as.map V.ref))/\Vals c.K H as q.stack.reverse:=h.l.stk
theorem fO.vrs (h:fO c A H W q):∃as:List Addr,H W.v=some (.lst (as.map V.ref))/\Vals c.K H as q.vars:=h.l.vrs
theorem fO.und (h:fO c A H W q):H W.u=some (.lst (q.under.reverse.map fun (n:Nat)=>V.int (n:Int))):=h.l.und
theorem fO.out (h:fO c A H W q):H W.o=some (.lst (q.out.map iv)):=h.l.out
theorem fO.old (h:fO c A H W q):∀p∈foot W,∃o,H p=some o:=h.l.old
theorem fO.nt (h:fO c A H W q):∀p∈rmu W,NT H p:=h.l.nt
theorem fO.same (h:fO c A H W q) (s:dR H H'):fO c A H' W q:=⟨h.l.same s,s _ _ h.t⟩
theorem fO.keep {S:List Addr} (h:fO c A H W q) (k:dj S H H') (n:∀p∈S,NT H p) (m:∀p∈S,p∉foot W):fO c A H' W q:=⟨h.l.keep k n m,k _ _ h.t (fun z=>m _ z (by simp[foot]))⟩
theorem fO.sC (h:fO c A H W q) {us:List Nat}:fb c A (upd H W.u (.lst (us.reverse.map fun (n:Nat)=>V.int (n:Int)))) W {q with under:=us}:=h.l.sC
theorem fO.kY (h:fO c A H W q) {q':Rs} (e1:q'.stack=q.stack) (e2:q'.vars=q.vars) (e3:q'.under=q.under) (e4:q'.out=q.out) (e5:q'.cs=q.cs):fO c A (upd H W.r (.ins A.da W.dx (kX W q'))) W q':=⟨h.l.kY e1 e2 e3 e4 e5,by rw[cR (neo h.t h.ins)];exact h.t⟩
theorem IC {α β:Type} {G:α->β->Prop} {as:List α} {l:List β} (h:Paired G as l):Paired G as.reverse l.reverse:=by
 induction h with
 |nil=>exact .nil
 |cons h1 _ ih=>rw[aX,aX];exact Paired.snoc ih h1
end
end Sl
namespace L2
open PySem PySem.Spec PyProof.Rows
theorem N5 {X:Cx}:OpR X (binaryOp .FloorDiv) (rI (fun _ j=>j≠0/\j.natAbs.log2<9000) fun i j=>.int (i.fdiv j)):=opI fun _ _ _ _ _ _ _ hc q=>floordiv_int hc.1 q (.inl (PyProof.noPylong_of_log2 hc.2))
end L2
namespace Sl
open PySem PySem.Spec PyProof.Rows L2 TL
def Vok (q:Rs) (v:Lo.Val):Prop:=Cm.below v q.cs.length/\vok v
theorem dj.mono {S S':List Addr} {H H':Hp} (k:dj S H H') (h:∀p∈S,p∈S'):dj S' H H':=fun b o e n=>k b o e fun z=>n (h b z)
theorem zk (W:RA):∀p∈cmu W.L,p∈rmu W:=by
 intro p hp;simp only[cmu,ag,aJ,bw]at hp;rcases hp with rfl|rfl|rfl|rfl|rfl|rfl<;>simp[rmu]
theorem ID (W:RA) (q:Rs) (z z':Nat):dE "variables_not_zero" (.int ((z':Nat):Int)) (kW W q z)=kW W q z':=rfl
theorem D6 (v:Lo.Val):decide (((vk v,vn v):Int×Int)=(0,0))=Lo.isZero v:=by
 cases v with
 |num a=>
  show decide (((0,a):Int×Int)=(0,0))=(a==0);by_cases h:a=0
  .subst h;rfl
  .rw[ao (fun z=>h (by injection z))];simp[h]
 |nil=>rfl
 |cell i=>rfl
theorem KJ:∀{vs:List Lo.Val} {x:Nat} {u:Lo.Val} (v:Lo.Val),vs[x]?=some u->nzv (vs.set x v)+(if Lo.isZero u=true then 0 else 1)=nzv vs+(if Lo.isZero v=true then 0 else 1)
 | [],_,_,_,h=>by simp at h
 |a::vs,0,u,v,h=>by
  simp at h;subst h;unfold nzv;rw[WJ,WZ,WZ];cases Lo.isZero a<;>cases Lo.isZero v<;>simp
 |a::vs,x+1,u,v,h=>by
  have:=KJ (vs:=vs) (x:=x) (u:=u) v (by simpa using h)
  unfold nzv at this⊢;rw[WK,WZ,WZ];cases Lo.isZero a with
  |true=>simpa using this
  |false=>simp only[Bool.not_false,bZ,aG];omega
section
variable {c:Ct} {A:Ad}
abbrev tV:Stmt:=inClass (top 72) 1
theorem Gv:cW ["self","value"] ["self","value"] (cS tV):=fsc
inductive lT (c:Ct) (A:Ad) (vs:List V) (H:Hp) (Q:VK) (E:XK):Prop
 |mk:∀W q a v,vs= [.ref (RA.r W),.ref a]->fb c A H W q->m9 c.K H a v->Vok q v->(q.stack.length<=10000/\q.cs.length<=10000)->(∀H',fb c A H' W {q with stack:=v::q.stack}->dj (rmu W) H H'->Q .non H')->lT c A vs H Q E
theorem Qk (T:Tx c A) (D:Dm c A.da "give" "Run.give" tV ["self","value"]) (j0:dA c 2 A.dh "hold" (zi c A)):dA c 3 A.da "give" (lT c A):=by
 refine D.good Gv ?_;rintro X H _ Q E rfl a sn hr ⟨W,q,av,v,rfl,⟨tk,R⟩,hv,hok,hl,k⟩;refine⟨_,(cN (dH (pm_ T.dw j0 (hmo hr) (df (vr sn 0) rfl) (cK (vr sn 1) cO))) (cQ (dH (jJ PySem.F.plainAttrs_list PySem.F.slot_list_append PySem.F.type_list_append fh (df (vr sn 0) rfl) (cK (vr sn 1) cO))))),?_⟩;obtain⟨ho,sh,d,xs,c1,c2,c3⟩:=R.cel;refine⟨_,rfl,W.r,_,W.dx,_,_,rfl,R.ins,T.cY,T.eQ,rfl,W.L.c,W.L.dx,_,rfl,c1.ins,rfl,_,rfl,{W.L with ho:=ho,z:=Hm.hd ho},q.cs,sh,d,xs,av,v,_,rfl,c1,hv,hok.1,hl.2,c3,rfl,fun H1 ho1 C1 hi1 k1=>?_⟩
 have n1:∀p∈cmu W.L,NT H p:=c1.nt;have R1:=R.zj k1 C1 c2 hi1;have hv1:=dt hv k1 n1;have k1':dj (rmu W) H H1:=dj.mono k1 (zk W);obtain⟨as,s1,s2⟩:=R1.stk;refine⟨_,rfl,W.r,_,W.dx,_,_,rfl,R1.ins,T.cY,T.ff,rfl,.inl ⟨rfl,_,SqL.of s1⟩,_,rfl,W.s,_,_,rfl,rfl,s1,?_,?_⟩
 .rw[List.length_map,Paired.length s2,aB];exact aE hl.1 (by decide)
 rw[show as.map V.ref++ [V.ref av]=(as++ [av]).map V.ref from by rw[aA];rfl]
 exact k _ ⟨tk,R1.KH (st:=v::q.stack) (by rw[aX];exact Paired.snoc s2 hv1)⟩ (dj.d7 k1' (by simp[rmu]))
abbrev tW:Stmt:=inClass (top 72) 2
theorem Gw:cW ["self","many","taken","place"] ["self","many"] (cS tW):=fsc
inductive kZ (c:Ct) (A:Ad) (vs:List V) (H:Hp) (Q:VK) (E:XK):Prop
 |mk:∀W q m,vs= [.ref (RA.r W),.int ((m:Nat):Int)]->fO c A H W q->m<=q.stack.length->m<=10->(∀H' p as,fb c A H' W {q with stack:=q.stack.drop m}->dj (rmu W) H H'->H p=none->H' p=some (.lst (as.map V.ref))->Vals c.K H' as (q.stack.take m).reverse->(∃ys,H' W.t=some (.lst ys)/\ys.length<=10)->Q (.ref p) H')->kZ c A vs H Q E
theorem Ql (T:Tx c A) (D:Dm c A.da "take" "Run.take" tW ["self","many"]):dA c 1 A.da "take" (kZ c A):=by
 refine D.good Gw ?_;rintro X H _ Q E rfl a sn hr ⟨W,q,m,rfl,RF,hm,hm10,k⟩;refine⟨_,(cN (pSt sn 2 (eX cO)) (cN (qO a.never a.calm (wb (gl sn) T.vj (cK (vr sn 1) cO)) (gNm sn 3) (cQ (dH (jJ PySem.F.plainAttrs_list PySem.F.slot_list_append PySem.F.type_list_append fh (vr sn 2) (cK (tq PySem.F.plainAttrs_list PySem.F.slot_list_pop PySem.F.type_list_pop wj (df (vr sn 0) rfl)) cO))))) (cN (dH (tq PySem.F.plainAttrs_list PySem.F.slot_list_reverse PySem.F.type_list_reverse HE (vr sn 2))) (cN (dH (jJ PySem.F.plainAttrs_list PySem.F.slot_list_extend PySem.F.type_list_extend oE (df (vr sn 0) rfl) (cK (vr sn 2) cO))) (cQ (cV (vr sn 2))))))),?_⟩;have R:=RF.x;refine⟨aO _,fun p hp=>⟨_,rfl,(m:Int),rfl,by omega,by omega,?_⟩⟩
 rw[show ((m:Nat):Int).toNat=m from bp m];have s0:dR H (upd H p (.lst [])):=.dm hp;refine wc (lo:=0) (n:=m) (fun i σ H'=>∃(v:Option V) (as:List Addr),σ= [some (.ref W.r),some (.int (m:Int)),some (.ref p),v]/\e9 (ct X) A H' W {q with stack:=q.stack.drop i} [] (roots q []) (nzv q.vars)/\dj (rmu W) H H'/\H' p=some (.lst (as.map V.ref))/\Vals X.K H' as (q.stack.take i)) ?_ ?_ ?_
 .exact⟨_,[],rfl,R.same s0,.of s0,cP,.nil⟩
 .rintro i σ H' hi ⟨v,as,rfl,R',kp,h1,h2⟩;obtain⟨x,hx⟩:∃x,q.stack[i]?=some x:=⟨_,af (by omega)⟩
  obtain⟨bs,s1,s2⟩:=R'.stk;have hdrop:q.stack.drop i=x::q.stack.drop (i+1):=by
   rw[cJ (by omega)]
   congr 1;have:=af (l:=q.stack) (i:=i) (by omega)
   rw[hx]at this;exact(a9 this).symm
  have s2':Vals X.K H' bs ((q.stack.drop (i+1)).reverse++ [x]):=by
   have s2:Vals X.K H' bs (q.stack.drop i).reverse:=s2;rw[hdrop,aX]at s2;exact s2
  obtain⟨bs',b,rfl,h3,h4⟩:=fR s2';rw[aA]at s1;refine⟨_,rfl,.inl ⟨rfl,_,SqL.of h1⟩,_,rfl,W.r,_,W.dx,_,_,rfl,R'.ins,T.cY,T.ff,rfl,.inl ⟨rfl,_,SqL.of s1⟩,W.s,_,V.ref b,rfl,rfl,s1,by simp,?_⟩
  rw[show (bs'.map V.ref++ [b].map V.ref).dropLast=bs'.map V.ref from by show (bs'.map V.ref++ [V.ref b]).dropLast=_;rw[bU]]
  have R2:e9 (ct X) A (upd H' W.s (.lst (bs'.map V.ref))) W {q with stack:=q.stack.drop (i+1)} [] (roots q []) (nzv q.vars):=R'.KH h3
  have kS:dj [W.s] H' (upd H' W.s (.lst (bs'.map V.ref))):=kui;have nS:∀b∈ [W.s],NT H' b:=fun b hb=>R'.nt b (by simp at hb;subst hb;simp[rmu])
  have pns:p≠W.s:=fun z=>by
   obtain⟨as0,z1,_⟩:=R.stk;rw[z,z1]at hp;cases hp
  have h1':=kS _ _ h1 (by simpa using pns)
  have h2':=Vals.keep h2 kS nS;have kp2:dj (rmu W) H (upd H' W.s (.lst (bs'.map V.ref))):=dj.d7 kp (by simp[rmu])
  have hb2:=dt h4 kS nS;generalize upd H' W.s (.lst (bs'.map V.ref))=H2 at R2 h1' h2' kp2 hb2⊢;refine⟨p,_,_,rfl,rfl,h1',?_,?_⟩
  .rw[List.length_map,Paired.length h2',aV];exact aE (show min i q.stack.length<=10 by omega) (by decide)
  rw[show as.map V.ref++ [V.ref b]=(as++ [b]).map V.ref from by rw[aA];rfl]
  have ntp:∀x∈ [p],NT H2 x:=fun x hx=>by simp at hx;subst hx;exact NT.of h1'
  have kP:dj [p] H2 (upd H2 p (.lst ((as++ [b]).map V.ref))):=kui;refine⟨_,_,rfl,?_,kp2.dm hp,cP,?_⟩
  .exact R2.other hp R h1'
  .rw[hX hx];exact Paired.snoc (Vals.keep h2' kP ntp) (dt hb2 kP ntp)
 .rintro σ H' ⟨v,as,rfl,R',kp,h1,h2⟩;refine⟨_,rfl,.inl ⟨rfl,_,SqL.of h1⟩,p,_,rfl,rfl,h1,?_⟩;have ntp:∀x∈ [p],NT H' x:=fun x hx=>by simp at hx;subst hx;exact NT.of h1
  rw[show (as.map V.ref).reverse=as.reverse.map V.ref from(List.map_reverse).symm];have kP:dj [p] H' (upd H' p (.lst (as.reverse.map V.ref))):=kui;have R2:e9 (ct X) A (upd H' p (.lst (as.reverse.map V.ref))) W {q with stack:=q.stack.drop m} [] (roots q []) (nzv q.vars):=R'.other hp R h1
  have kp2:dj (rmu W) H (upd H' p (.lst (as.reverse.map V.ref))):=kp.dm hp;have h3:Vals X.K (upd H' p (.lst (as.reverse.map V.ref))) as.reverse (q.stack.take m).reverse:=IC (Vals.keep h2 kP ntp);have p2:(upd H' p (.lst (as.reverse.map V.ref))) p=some (.lst (as.reverse.map V.ref)):=cP;generalize upd H' p (.lst (as.reverse.map V.ref))=H2 at R2 kp2 h3 p2⊢;obtain⟨ts,t1,t2⟩:=R2.tak;have ets:ts= []:=by cases t2;rfl
  subst ets;have hlen:as.reverse.length<=10:=by
   rw[Paired.length h3,aB,aV];omega
  refine⟨_,rfl,W.r,_,W.dx,_,_,rfl,R2.ins,T.cY,T.ji,rfl,.inl ⟨rfl,_,SqL.of t1⟩,_,rfl,W.t,p,_,_,rfl,rfl,t1,p2,?_,_,rfl,?_⟩
  .rw[List.length_map,List.length_map];exact ai (show [].length+as.reverse.length<=10 by simpa using hlen) (by decide)
  have pnt:p≠W.t:=fun z=>by
   obtain⟨as0,z1,_⟩:=R.tak;rw[z,z1]at hp;cases hp
  have kT:dj [W.t] H2 (upd H2 W.t (.lst (as.reverse.map V.ref))):=kui;have nT:∀b∈ [W.t],NT H2 b:=fun b hb=>R2.nt b (by simp at hb;subst hb;simp[rmu])
  have R3:e9 (ct X) A (upd H2 W.t (.lst (as.reverse.map V.ref))) W {q with stack:=q.stack.drop m} (q.stack.take m).reverse (roots q []) (nzv q.vars):=R2.KI h3
  refine k _ p as.reverse ⟨_,R3.perm fun i=>?_⟩ (dj.d7 kp2 (by simp[rmu])) hp (kT _ _ p2 (by simpa using pnt)) (Vals.keep h3 kT nT) ⟨_,cP,by simpa using hlen⟩
  unfold roots;rw[Hm.cnt_append,Hm.cnt_append,Hm.cnt_append,Hm.cnt_append,Hm.PY,Hm.cnt_nil];have:Hm.cnt i q.stack=Hm.cnt i (q.stack.take m)+Hm.cnt i (q.stack.drop m):=by rw[<-Hm.cnt_append,List.take_append_drop]
  show Hm.cnt i (q.stack.drop m)+(Hm.cnt i q.vars+_)=_;omega
abbrev jy:Stmt:=inClass (top 72) 3
theorem pU:cW ["self","variable","value","before"] ["self","variable","value"] (cS jy):=fsc
inductive kh (c:Ct) (A:Ad) (vs:List V) (H:Hp) (Q:VK) (E:XK):Prop
 |mk:∀W q x a v,vs= [.ref (RA.r W),.int ((x:Nat):Int),.ref a]->fb c A H W q->x<q.vars.length->m9 c.K H a v->Vok q v->(∃ys,H W.t=some (.lst ys)/\ys.length<=10)->q.cs.length<=10000->(∀H',fb c A H' W {q with vars:=q.vars.set x v}->dj (rmu W) H H'->Q .non H')->kh c A vs H Q E
theorem IE {α β:Type} {G:α->β->Prop} {as:List α} {l:List β} (h:Paired G as l) {a:α} {b:β} (g:G a b):∀i,Paired G (as.set i a) (l.set i b):=by
 induction h with
 |nil=>intro i;exact .nil
 |cons h1 h2 ih=>
  intro i;cases i with
  |zero=>exact .cons g h2
  |succ i=>exact .cons h1 (ih i)
theorem KL:∀{vs:List Lo.Val} {x:Nat} {u:Lo.Val} (v:Lo.Val) (i:Nat),vs[x]?=some u->Hm.cnt i (vs.set x v)+Hm.cnt i [u]=Hm.cnt i vs+Hm.cnt i [v]
 | [],_,_,_,_,h=>by simp at h
 |a::vs,0,u,v,i,h=>by
  simp at h;subst h;rw[WJ,Hm.cnt_cons,Hm.cnt_cons i a vs];omega
 |a::vs,x+1,u,v,i,h=>by
  have:=KL (vs:=vs) (x:=x) (u:=u) v i (by simpa using h)
  rw[WK,Hm.cnt_cons,Hm.cnt_cons i a vs];omega
theorem tX (T:Tx c A) (D:Dm c A.da "change_variable" "Run.change_variable" jy ["self","variable","value"]) (j0:dA c 2 A.dh "hold" (zi c A)):dA c 3 A.da "change_variable" (kh c A):=by
 refine D.good pU ?_;rintro X H _ Q E rfl a sn hr ⟨W,q,x,av,v,rfl,⟨tk,R⟩,hx,hv,hok,⟨ys,hys,hyl⟩,hlc,k⟩;refine⟨_,(cN (pSt sn 3 (ixL (df (vr sn 0) rfl) (vr sn 1))) (cN (dH (pm_ T.dw j0 (hmo hr) (df (vr sn 0) rfl) (cK (vr sn 2) cO))) (cN (dH (jJ PySem.F.plainAttrs_list PySem.F.slot_list_append PySem.F.type_list_append fh (df (vr sn 0) rfl) (cK (vr sn 3) cO))) (cN (qM (vr sn 2) (qL (df (vr sn 0) rfl) (vr sn 1) set_list (fun _=>rfl))) (cN (dX (rW (MP hr.units) (vr sn 3) (pc_ T.lA (gl sn)) (qP _)) (cQ (oB (vr sn 0) cT MD)) dr) (cQ (dX (rW (MP hr.units) (vr sn 2) (pc_ T.lA (gl sn)) (qP _)) (cQ (oB (vr sn 0) cT Hu)) dr))))))),?_⟩
 obtain⟨ho,sh,d,xs,c1,c2,c3⟩:=R.cel;obtain⟨as0,v1,v2⟩:=R.vrs;obtain⟨u,hu⟩:∃u,q.vars[x]?=some u:=⟨_,af hx⟩;obtain⟨b,hb,hbv⟩:=gX v2 hu;obtain⟨ts0,t10,t20⟩:=R.tak;have htk:tk.length<=10:=by
  rw[hys]at t10;injection t10 with t10
  injection t10 with t10
  rw[<-Paired.length t20,<-List.length_map (f:=V.ref),<-t10];exact hyl
 refine⟨_,rfl,W.r,_,W.dx,_,_,rfl,R.ins,T.cY,T.fU,rfl,_,rfl,W.v,_,_,_,rfl,rfl,SqL.of v1,cX (v:=V.ref b) (by rw[aF,hb];rfl),?_⟩
 refine⟨_,rfl,W.r,_,W.dx,_,_,rfl,R.ins,T.cY,T.eQ,rfl,W.L.c,W.L.dx,_,rfl,c1.ins,rfl,_,rfl,{W.L with ho:=ho,z:=Hm.hd ho},q.cs,sh,d,xs,av,v,_,rfl,c1,hv,hok.1,hlc,c3,rfl,fun H1 ho1 C1 hi1 k1=>?_⟩
 have n1:∀p∈cmu W.L,NT H p:=c1.nt;have R1:e9 (ct X) A H1 W q tk (v::roots q tk) (nzv q.vars):=R.zj k1 C1 c2 hi1;have hv1:=dt hv k1 n1;have hb1:=dt hbv k1 n1;have kp1:dj (rmu W) H H1:=dj.mono k1 (zk W);obtain⟨ts,t1,t2⟩:=R1.tak;refine⟨_,rfl,W.r,_,W.dx,_,_,rfl,R1.ins,T.cY,T.ji,rfl,.inl ⟨rfl,_,SqL.of t1⟩,_,rfl,W.t,_,_,rfl,rfl,t1,?_,?_⟩
 .rw[List.length_map,Paired.length t2];exact aE htk (by decide)
 rw[show ts.map V.ref++ [V.ref b]=(ts++ [b]).map V.ref from by rw[aA];rfl]
 have R2:=R1.KI (as:=ts++ [b]) (tk':=tk++ [u]) (Paired.snoc t2 hb1);have k2:dj [W.t] H1 (upd H1 W.t (.lst ((ts++ [b]).map V.ref))):=kui;have n2:∀b∈ [W.t],NT H1 b:=fun b hb=>R1.nt b (by simp at hb;subst hb;simp[rmu])
 have hv2:=dt hv1 k2 n2;have hb2:=dt hb1 k2 n2;have kp2:dj (rmu W) H (upd H1 W.t (.lst ((ts++ [b]).map V.ref))):=dj.d7 kp1 (by simp[rmu])
 generalize upd H1 W.t (.lst ((ts++ [b]).map V.ref))=H2 at R2 hv2 hb2 kp2⊢;obtain⟨as,s1,s2⟩:=R2.vrs;have hl:(as.map V.ref).length=q.vars.length:=by rw[List.length_map,Paired.length s2]
 refine⟨_,rfl,_,rfl,W.r,_,W.dx,_,_,rfl,R2.ins,T.cY,T.fU,rfl,_,rfl,W.v,_,_,x,rfl,rfl,s1,?_,?_⟩
 .rw[hl];unfold ixN;simp[hx]
 rw[show (as.map V.ref).set x (V.ref av)=(as.set x av).map V.ref from(List.map_set).symm];have R3:=R2.Qj (as:=as.set x av) (vs:=q.vars.set x v) (IE s2 hv2 x);have k3:dj [W.v] H2 (upd H2 W.v (.lst ((as.set x av).map V.ref))):=kui;have n3:∀b∈ [W.v],NT H2 b:=fun b hb=>R2.nt b (by simp at hb;subst hb;simp[rmu])
 have hv3:=dt hv2 k3 n3;have hb3:=dt hb2 k3 n3;have kp3:dj (rmu W) H (upd H2 W.v (.lst ((as.set x av).map V.ref))):=dj.d7 kp2 (by simp[rmu])
 generalize upd H2 W.v (.lst ((as.set x av).map V.ref))=H3 at R3 hv3 hb3 kp3⊢;have hnz:=KJ v hu;have fin:∀H',e9 (ct X) A H' W {q with vars:=q.vars.set x v} (tk++ [u]) (v::roots q tk) (nzv (q.vars.set x v))->dj (rmu W) H H'->Q .non H':=fun H' R' k'=>k _ ⟨_,R'.perm fun i=>by
  unfold roots;show Hm.cnt i (q.stack++(q.vars.set x v++(tk++ [u])))=_;have:=KL v i hu;rw[Hm.cnt_cons i v,Hm.cnt_append,Hm.cnt_append,Hm.cnt_append,Hm.cnt_append,Hm.cnt_append];omega⟩ k'
 have R3':∀{H':Hp} {z z':Nat},e9 (ct X) A H' W {q with vars:=q.vars.set x v} (tk++ [u]) (v::roots q tk) z->e9 (ct X) A (upd H' W.r (.ins A.da W.dx (kW W {q with vars:=q.vars.set x v} z'))) W {q with vars:=q.vars.set x v} (tk++ [u]) (v::roots q tk) z':=fun R'=>R'.kY rfl rfl rfl rfl rfl
 refine⟨_,rfl,_,_,iP hb3,iP (T.z6 _),eW _ _,eW _ _,_,rfl,?_⟩;rw[l0,D6];cases hzu:Lo.isZero u with
 |true=>
  rw[hzu,aq rfl]at hnz;refine eY ?_;refine⟨_,rfl,_,_,iP hv3,iP (T.z6 _),eW _ _,eW _ _,_,rfl,?_⟩;rw[l0,D6];cases hzv:Lo.isZero v with
  |true=>
   rw[hzv,aq rfl]at hnz;refine eY (fin _ ?_ kp3);rw[show nzv (q.vars.set x v)=nzv q.vars by omega];exact R3
  |false=>
   rw[hzv,aj (by decide)]at hnz
   refine fm ⟨_,rfl,W.r,_,W.dx,_,_,rfl,R3.ins,T.cY,T.d8,rfl,_,_,rfl,rfl,W.dx,_,R3.ins,(by show 13<1000;decide),?_⟩
   rw[show V.int (((nzv q.vars:Nat):Int)+1)=V.int ((nzv (q.vars.set x v):Nat):Int)from congrArg V.int (by omega),ID]
   exact fin _ (R3' R3) (dj.d7 kp3 (by simp[rmu]))
 |false=>
  rw[hzu,aj (by decide)]at hnz
  have hpos:1<=nzv q.vars:=by
   cases hzv:Lo.isZero v with
   |true=>rw[hzv,aq rfl]at hnz;omega
   |false=>
    have hmem:u∈q.vars.filter (fun (v:Lo.Val)=>!Lo.isZero v):=XR.mpr ⟨aP hu,by rw[hzu];rfl⟩
    exact List.length_pos_of_mem hmem
  refine fm ⟨_,rfl,W.r,_,W.dx,_,_,rfl,R3.ins,T.cY,T.d8,rfl,_,_,rfl,rfl,W.dx,_,R3.ins,(by show 13<1000;decide),?_⟩
  rw[show V.int (((nzv q.vars:Nat):Int)-1)=V.int ((nzv q.vars-1:Nat):Int)from congrArg V.int (by omega),ID]
  have R4:=R3' (z':=nzv q.vars-1) R3;have k4:dj [W.r] H3 (upd H3 W.r (.ins A.da W.dx (kW W {q with vars:=q.vars.set x v} (nzv q.vars-1)))):=kui
  have n4:∀b∈ [W.r],NT H3 b:=fun b hb=>R3.nt b (by simp at hb;subst hb;simp[rmu])
  have hv4:=dt hv3 k4 n4;have kp4:dj (rmu W) H (upd H3 W.r (.ins A.da W.dx (kW W {q with vars:=q.vars.set x v} (nzv q.vars-1)))):=dj.d7 kp3 (by simp[rmu])
  generalize upd H3 W.r (.ins A.da W.dx (kW W {q with vars:=q.vars.set x v} (nzv q.vars-1)))=H4 at R4 hv4 kp4⊢
  refine⟨_,rfl,_,_,iP hv4,iP (T.z6 _),eW _ _,eW _ _,_,rfl,?_⟩;rw[l0,D6];cases hzv:Lo.isZero v with
  |true=>
   rw[hzv,aq rfl]at hnz;refine eY (fin _ ?_ kp4);rw[show nzv (q.vars.set x v)=nzv q.vars-1 by omega];exact R4
  |false=>
   rw[hzv,aj (by decide)]at hnz
   refine fm ⟨_,rfl,W.r,_,W.dx,_,_,rfl,R4.ins,T.cY,T.d8,rfl,_,_,rfl,rfl,W.dx,_,R4.ins,(by show 13<1000;decide),?_⟩
   rw[show V.int (((nzv q.vars-1:Nat):Int)+1)=V.int ((nzv (q.vars.set x v):Nat):Int)from congrArg V.int (by omega),ID]
   exact fin _ (R3' R4) (dj.d7 kp4 (by simp[rmu]))
def ml (H H':Hp):Prop:=∀b o,H b=some o->∃o',H' b=some o'
theorem ml.refl (H:Hp):ml H H:=fun _ o e=>⟨o,e⟩
theorem ml.trans {H H1 H2:Hp} (h:ml H H1) (h2:ml H1 H2):ml H H2:=fun b o e=>by
 obtain⟨o',e'⟩:=h b o e;exact h2 b o' e'
theorem ml.upd {H H1:Hp} {a:Addr} {u:HO} (h:ml H H1):ml H (upd H1 a u):=fun b o e=>by
 by_cases q:b=a
 .subst q;exact⟨u,cP⟩
 .rw[cR q];exact h b o e
theorem ml.keep {S:List Addr} {H H1:Hp} (k:dj S H H1) (h:∀p∈S,∃o,H1 p=some o):ml H H1:=fun b o e=>by
 by_cases q:b∈S
 .exact h b q
 .exact⟨o,k b o e q⟩
theorem ml.none {H H1:Hp} {p:Addr} (h:ml H H1) (hp:H1 p=none):H p=none:=by
 cases e:H p with
 |none=>rfl
 |some o=>obtain⟨o',e'⟩:=h p o e;rw[hp]at e';cases e'
abbrev jz:Stmt:=inClass (top 72) 4
theorem pV:cW ["self","value"] ["self"] (cS jz):=fsc
inductive ki (c:Ct) (A:Ad) (vs:List V) (H:Hp) (Q:VK) (E:XK):Prop
 |mk:∀W q,vs= [.ref (RA.r W)]->fb c A H W q->q.cs.length<=10000->(∀H' t,fO c A H' {W with t:=t} q->dj (rmu W) H H'->H t=none->ml H H'->Q .non H')->ki c A vs H Q E
theorem tY (T:Tx c A) (D:Dm c A.da "let_go_of_taken" "Run.let_go_of_taken" jz ["self"]) (nj:dA c 2 A.dh "let_go" (wW c A)):dA c 3 A.da "let_go_of_taken" (ki c A):=by
 refine D.good pV ?_;rintro X H _ Q E rfl a sn hr ⟨W,q,rfl,⟨tk,R⟩,hlc,k⟩;refine⟨_,(cN (qO a.never a.calm (uK (df (vr sn 0) rfl)) (gNm sn 1) (cQ (dH (pm_ T.dw nj (hmo hr) (df (vr sn 0) rfl) (cK (vr sn 1) cO))))) (cQ (eP (vr sn 0) (eX cO) rfl))),?_⟩;obtain⟨ts,t1,t2⟩:=R.tak;refine⟨_,rfl,W.r,_,W.dx,_,_,rfl,R.ins,T.cY,T.ji,rfl,W.t,rfl,⟨_,SqL.of t1⟩,?_⟩;have tnc:W.t∉cmu W.L:=fun z=>by
  obtain⟨ho,sh,d,xs,c1,c2,c3⟩:=R.cel;simp only[cmu,ag,aJ,bw]at z;rcases z with z|z|z|z|z|z
  .exact R.d1 W.t (by simp) _ (by simp) z
  .exact R.d1 W.t (by simp) _ (by simp) z
  .exact R.d1 W.t (by simp) _ (by simp) z
  .exact absurd z (neo t1 c1.num)
  .exact R.d1 W.t (by simp) _ (by simp) z
  .exact absurd z (neo t1 c1.ins)
 refine My (K:=X.K) (a:=W.t) (xs:=ts.map V.ref) (fun i σ H'=>∃(v:Option V),σ= [some (.ref W.r),v]/\e9 (ct X) A H' W q tk (roots q (tk.drop i)) (nzv q.vars)/\dj (cmu W.L) H H') ?_ ?_ ?_ ?_
 .exact⟨_,rfl,R,.refl _ _⟩
 .rintro i σ H' _ ⟨v,rfl,R',k'⟩;exact SqL.of (k' _ _ t1 tnc)
 .rintro i x σ H' hx ⟨v,rfl,R',k'⟩;rw[aF]at hx;obtain⟨b,hb,rfl⟩:=bc.mp hx;have hil:i<tk.length:=by
   have:=(aa.mp hb).1
   rw[Paired.length t2]at this;exact this
  obtain⟨u,hu⟩:∃u,tk[i]?=some u:=⟨_,af hil⟩;obtain⟨b',hb',hbv⟩:=gX t2 hu;have ebb:b'=b:=by rw[hb]at hb';exact(a9 hb').symm
  subst ebb;obtain⟨ho0,sh0,d0,xs0,c10,c20,c30⟩:=R.cel;have n0:∀p∈cmu W.L,NT H p:=c10.nt;obtain⟨ho,sh,d,xs,c1,c2,c3⟩:=R'.cel;have hdr:tk.drop i=u::tk.drop (i+1):=by
   rw[cJ hil];congr 1;have:=af hil;rw[hu]at this;exact(a9 this).symm
  have c3':Hm.Hi q.cs ho (u::roots q (tk.drop (i+1))):=c3.perm fun j=>by
   unfold roots;rw[hdr,Hm.cnt_cons j u,Hm.cnt_append,Hm.cnt_append,Hm.cnt_append,Hm.cnt_append,Hm.cnt_cons j u (tk.drop (i+1))];omega
  refine⟨_,rfl,W.r,_,W.dx,_,_,rfl,R'.ins,T.cY,T.eQ,rfl,W.L.c,W.L.dx,_,rfl,c1.ins,rfl,_,rfl,{W.L with ho:=ho,z:=Hm.hd ho},q.cs,sh,d,xs,b',u,_,rfl,c1,dt hbv k' n0,hlc,c3',rfl,fun H1 ho1 C1 hi1 k1=>?_⟩
  exact⟨_,rfl,R'.zj k1 C1 c2 hi1,k'.trans k1⟩
 .rintro σ H' ⟨v,rfl,R',k'⟩;rw[List.length_map,Paired.length t2,WW]at R';refine⟨aO _,fun p hp=>⟨_,rfl,W.r,_,W.dx,_,rfl,by rw[cR (cM R'.ins hp)];exact R'.ins,T.cY,T.ji,(by show 13<1000;decide),?_⟩⟩
  have hp0:H p=none:=by
   cases e:H p with
   |none=>rfl
   |some o=>
    by_cases hm:p∈cmu W.L
    .obtain⟨ho,sh,d,xs,c1,c2,c3⟩:=R'.cel;obtain⟨o',e'⟩:=c1.old p hm;rw[hp]at e';cases e'
    .rw[k' _ _ e hm]at hp;cases hp
  obtain⟨ho9,sh9,d9,xs9,c9,_,_⟩:=R'.cel;refine k _ p (fO.of (R'.N4 hp)) ?_ hp0 (ml.upd (ml.upd (ml.keep k' c9.old)));exact dj.d7 (fun b o e n=>by rw[cR (cM e hp0)];exact k' b o e (fun z=>n (zk W b z))) (by simp[rmu])
theorem Tf {α β:Type} {G:α->β->Prop} {as:List α} {l:List β} (h:Paired G as l.reverse) {i:Nat} {v:β} (hi:l[i]?=some v):∃a,as[l.length-1-i]?=some a/\G a v:=by
 have fH:=(aa.mp hi).1;refine gX h ?_;rw[WV (by omega)]
 rw[show l.length-1-(l.length-1-i)=i by omega]
 exact hi
abbrev nu:Stmt:=inClass (top 72) 5
theorem yB:cW ["self","place"] ["self","place"] (cS nu):=fsc
inductive jb (c:Ct) (A:Ad) (vs:List V) (H:Hp) (Q:VK) (E:XK):Prop
 |mk:∀W q i v,vs= [.ref (RA.r W),.int ((i:Nat):Int)]->fb c A H W q->q.stack[i]?=some v->(∀a,m9 c.K H a v->Q (.ref a) H)->jb c A vs H Q E
theorem Gx (T:Tx c A) (D:Dm c A.da "from_top" "Run.from_top" nu ["self","place"]):dA c 1 A.da "from_top" (jb c A):=by
 refine D.good yB ?_;rintro X H _ Q E rfl a sn hr ⟨W,q,i,v,rfl,R,hi,k⟩;refine⟨_,(cQ (cV (ixL (df (vr sn 0) rfl) (fB md (fB md (dv dk (gl sn) T.fE PySem.boot_len (cK (df (vr sn 0) rfl) cO)) cT) (vr sn 1))))),?_⟩;obtain⟨as,s1,s2⟩:=R.stk;have hl:(as.map V.ref).length=q.stack.length:=by rw[List.length_map,Paired.length s2,aB]
 have fH:=(aa.mp hi).1;obtain⟨av,h1,h2⟩:=Tf s2 hi;refine⟨_,rfl,W.r,_,W.dx,_,_,rfl,R.ins,T.cY,T.ff,rfl,_,rfl,W.r,_,W.dx,_,_,rfl,R.ins,T.cY,T.ff,rfl,W.s,_,rfl,.inl (SqL.of s1),_,_,rfl,rfl,_,rfl,_,_,rfl,rfl,W.s,_,_,V.ref av,rfl,rfl,SqL.of s1,?_,k _ h2⟩;rw[hl,show ((q.stack.length:Int)-1-(i:Int))=((q.stack.length-1-i:Nat):Int) by omega]
 exact cX (by rw[aF,h1];rfl)
abbrev jA:Stmt:=inClass (top 72) 6
theorem pW:cW ["self","place"] ["self","place"] (cS jA):=fsc
inductive eR (c:Ct) (A:Ad) (vs:List V) (H:Hp) (Q:VK) (E:XK):Prop
 |mk:∀W q i v,vs= [.ref (RA.r W),.int ((i:Nat):Int)]->fb c A H W q->q.stack[i]?=some v->Q (.int (vn v)) H->eR c A vs H Q E
theorem tZ (T:Tx c A) (D:Dm c A.da "number_from_top" "Run.number_from_top" jA ["self","place"]) (dD:dA c 1 A.da "from_top" (jb c A)):dA c 2 A.da "number_from_top" (eR c A):=by
 refine D.good pW ?_;rintro X H _ Q E rfl a sn hr ⟨W,q,i,v,rfl,R,hi,k⟩;refine⟨_,(cQ (cV (ixT (pm_ T.cY dD (hmo hr) (vr sn 0) (cK (vr sn 1) cO)) cT))),?_⟩;exact⟨_,rfl,W.r,W.dx,_,rfl,R.ins,rfl,_,rfl,W,q,i,v,rfl,R,hi,fun av hv=>⟨av,_,_,_,rfl,rfl,hv,cX (j:=1) rfl,k⟩⟩
end
structure Rok (q:Rs):Prop where
 stk:∀v∈q.stack,Vok q v
 vrs:∀v∈q.vars,Vok q v
 ces:VOK q.cs
 len:q.stack.length<=9000
 nv:q.vars.length=26
 ln:q.cs.length<=9000
 ou:q.out.length<=4096
 un:q.under.length<=100
inductive dq (c:Ct) (A:Ad) (pre:Rs->Int->Prop) (f:Rs->Int->Nat×Rs) (vs:List V) (H:Hp) (Q:VK) (E:XK):Prop
 |mk:∀W q z,vs= [.ref (RA.r W),.int z]->fO c A H W q->Rok q->pre q z->(∀H',fb c A H' W (f q z).2->((f q z).1=0\/H' W.t=some (.lst []))->dj (rmu W) H H'->Q (.int (((f q z).1:Nat):Int)) H')->dq c A pre f vs H Q E
theorem l3 (W:RA):∀p∈rmu W,p∈foot W:=by
 intro p hp;simp only[rmu,ag,aJ,bw]at hp;rcases hp with rfl|rfl|rfl|rfl|rfl|rfl|rfl|rfl|rfl|rfl|rfl|rfl<;>simp[foot]
section
variable {c:Ct} {A:Ad}
theorem fb.new {H:Hp} {W:RA} {q:Rs} {p:Addr} (h:fb c A H W q) (hp:H p=none):p∉rmu W:=fun z=>by
 obtain⟨o,e⟩:=h.old p (l3 W p z);rw[hp]at e;cases e
abbrev lU:Stmt:=top 31
theorem rD:cW ["run","number"] ["run","number"] (cS lU):=fsc
def ny (q:Rs) (z:Int):Prop:=True
def oP (q:Rs) (z:Int):Nat×Rs:=(0,{q with stack:=.num z::q.stack})
inductive jP (c:Ct) (A:Ad) (vs:List V) (H:Hp) (Q:VK) (E:XK):Prop
 |mk:∀W q z,vs= [.ref (RA.r W),.int z]->fb c A H W q->Rok q->Lo.isValue z=true->(∀H',fb c A H' W (oP q z).2->dj (rmu W) H H'->Q (.int 0) H')->jP c A vs H Q E
theorem Ar (T:Tx c A) (D:Df c "give_number" lU ["run","number"] A.eM) (dP:dA c 3 A.da "give" (lT c A)):Good c 4 "give_number" A.eM (jP c A):=by
 refine D.good rD ?_;rintro X H _ Q E rfl a sn hr ⟨W,q,z,rfl,R,ok,hz,k⟩;refine⟨_,(cN (dH (pm_ T.cY dP (hmo hr) (vr sn 0) (cK (h9 (cK (pc_ T.z5 (gl sn)) (cK (vr sn 1) cO))) cO))) (cQ (cV (pc_ T.dB (gl sn))))),?_⟩;refine⟨_,rfl,W.r,W.dx,_,rfl,R.ins,rfl,_,rfl,sz,fun p hp=>?_⟩
 have s1:dR H (upd H p (.tup [.int 0,.int z])):=.dm hp;exact⟨W,q,p,.num z,rfl,R.same s1,SqT.of cP,⟨trivial,hz⟩,by have:=ok.len;have:=ok.ln;omega,fun H' R' k'=>k _ R' ((dj.of s1).trans k')⟩
theorem w8 (T:Tx c A) (D:Df c "give_number" lU ["run","number"] A.eM) (dP:dA c 3 A.da "give" (lT c A)):Good c 4 "give_number" A.eM (dq c A (fun _ z=>Lo.isValue z=true) oP):=by
 refine D.good rD ?_;rintro X H _ Q E rfl a sn hr ⟨W,q,z,rfl,R,ok,hz,k⟩;refine⟨_,(cN (dH (pm_ T.cY dP (hmo hr) (vr sn 0) (cK (h9 (cK (pc_ T.z5 (gl sn)) (cK (vr sn 1) cO))) cO))) (cQ (cV (pc_ T.dB (gl sn))))),?_⟩;refine⟨_,rfl,W.r,W.dx,_,rfl,R.ins,rfl,_,rfl,sz,fun p hp=>?_⟩
 have s1:dR H (upd H p (.tup [.int 0,.int z])):=.dm hp;exact⟨W,q,p,.num z,rfl,R.same s1,SqT.of cP,⟨trivial,hz⟩,by have:=ok.len;have:=ok.ln;omega,fun H' R' k'=>k _ R' (.inl rfl) ((dj.of s1).trans k')⟩
abbrev pX:Stmt:=top 32
theorem BG:cW ["run","settled"] ["run","settled"] (cS pX):=fsc
def As (q:Rs) (z:Int):Nat×Rs:=(0,{q with stack:=.nil::q.stack})
theorem BH (T:Tx c A) (D:Df c "give_empty" pX ["run","settled"] A.gQ) (dP:dA c 3 A.da "give" (lT c A)):Good c 4 "give_empty" A.gQ (dq c A ny As):=by
 refine D.good BG ?_;rintro X H _ Q E rfl a sn hr ⟨W,q,z,rfl,R,ok,hz,k⟩;refine⟨_,(cN (dH (pm_ T.cY dP (hmo hr) (vr sn 0) (cK (pc_ T.gm (gl sn)) cO))) (cQ (cV (pc_ T.dB (gl sn))))),?_⟩;exact⟨_,rfl,W.r,W.dx,_,rfl,R.ins,rfl,W,q,A.gm,.nil,rfl,R,T.DI H,⟨trivial,trivial⟩,by have:=ok.len;have:=ok.ln;omega,fun H' R' k'=>k _ R' (.inl rfl) k'⟩
abbrev mm:Stmt:=top 33
theorem w9:cW ["run","many","order","taken","place"] ["run","many","order"] (cS mm):=fsc
def picks (q:Rs) (m:Nat) (ns:List Nat):List Lo.Val:=(ns.map fun n=>(q.stack.take m).reverse.getD n .nil).reverse++q.stack.drop m
inductive fV (c:Ct) (A:Ad) (vs:List V) (H:Hp) (Q:VK) (E:XK):Prop
 |mk:∀W q m o,∀ns:List Nat,vs= [.ref (RA.r W),.int ((m:Nat):Int),.ref o]->fO c A H W q->Rok q->m<=q.stack.length->m<=10->SqT c.K H o (ns.map fun (n:Nat)=>V.int (n:Int))->(∀n∈ns,n<m)->ns.length<=10->(∀H',fb c A H' W {q with stack:=picks q m ns}->dj (rmu W) H H'->Q (.int 0) H')->fV c A vs H Q E
theorem xa (T:Tx c A) (D:Df c "give_in_order" mm ["run","many","order"] A.fc) (dP:dA c 3 A.da "give" (lT c A)) (dI:dA c 1 A.da "take" (kZ c A)):
  Good c 4 "give_in_order" A.fc (fV c A):=by
 refine D.good w9 ?_;rintro X H _ Q E rfl a sn hr ⟨W,q,m,o,ns,rfl,R,ok,hm,hm10,ho,hns,hnl,k⟩;refine⟨_,(cN (pSt sn 3 (pm_ T.cY dI (hmo hr) (vr sn 0) (cK (vr sn 1) cO))) (cN (qO a.never a.calm (Sk (vr sn 2)) (gNm sn 4) (cQ (dH (pm_ T.cY dP (hmo hr) (vr sn 0) (cK (ixL (vr sn 3) (vr sn 4)) cO))))) (cQ (cV (pc_ T.dB (gl sn)))))),?_⟩;refine⟨_,rfl,W.r,W.dx,_,rfl,R.ins,rfl,_,rfl,W,q,m,rfl,R,hm,hm10,fun H1 p as R1 k1 hp h1 h2 ht=>⟨_,rfl,o,rfl,⟨_,dt ho k1 R.nt⟩,?_⟩⟩
 have hpn:=R.l.new hp;have uH:(q.stack.take m).reverse.length=m:=by rw[aB,aV];omega
 refine Pf (K:=X.K) (a:=o) (xs:=ns.map fun (n:Nat)=>V.int (n:Int)) (fun i σ H'=>∃(v:Option V),σ= [some (.ref W.r),some (.int (m:Int)),some (.ref o),some (.ref p),v]/\fb (ct X) A H' W {q with stack:=picks q m (ns.take i)}/\dj (rmu W) H1 H') ?_ ?_ ?_ ?_
 .exact⟨_,rfl,R1,.refl _ _⟩
 .rintro i σ H' _ ⟨v,rfl,R',k'⟩;exact dt (dt ho k1 R.nt) k' R1.nt
 .rintro i x σ H' hx ⟨v,rfl,R',k'⟩;rw[aF]at hx;obtain⟨n,hn,rfl⟩:=bc.mp hx;have hnm:=hns n (aP hn);obtain⟨u,hu⟩:∃u,(q.stack.take m).reverse[n]?=some u:=⟨_,af (by rw[uH];exact hnm)⟩
  obtain⟨b,hb,hbv⟩:=gX h2 hu;have hum:u∈q.stack:=by
   have:=aP hu
   rw[XJ]at this;exact List.mem_of_mem_take this
  have hp':=k' _ _ h1 hpn;refine⟨_,rfl,W.r,W.dx,_,rfl,R'.ins,rfl,_,rfl,_,rfl,p,_,_,_,rfl,rfl,SqL.of hp',cX (v:=V.ref b) (by rw[aF,hb];rfl),W,_,b,u,rfl,R',dt hbv k' R1.nt,ok.stk u hum,?_,fun H2 R2 k2=>⟨_,rfl,?_,k'.trans k2⟩⟩
  .refine⟨?_,by have:=ok.ln;show q.cs.length<=10000;omega⟩
   show (picks q m (ns.take i)).length<=10000;unfold picks;rw[List.length_append,aB,List.length_map,aV,aZ];have:=ok.len;omega
  .have e:picks q m (ns.take (i+1))=u::picks q m (ns.take i):=by
    unfold picks;rw[hX hn,aA,WA];show (q.stack.take m).reverse.getD n .nil::_=_;rw[ah,hu];rfl
   rw[e];exact R2
 .rintro σ H' ⟨v,rfl,R',k'⟩;rw[List.length_map,WY]at R';exact k _ R' (k1.trans k')
end
section
variable {c:Ct} {A:Ad}
def fe (m:Nat) (q:Rs) (z:Int):Prop:=m<=q.stack.length
def gj (m:Nat) (ns:List Nat) (q:Rs) (z:Int):Nat×Rs:=(0,{q with stack:=picks q m ns})
abbrev N6:Stmt:=top 34
theorem Tg:cW ["run","settled"] ["run","settled"] (cS N6):=fsc
theorem Th (T:Tx c A) (D:Df c "dup" N6 ["run","settled"] A.u7) (dN:Good c 4 "give_in_order" A.fc (fV c A)):Good c 5 "dup" A.u7 (dq c A (fe 1) (gj 1 ([0,0]:List Nat))):=by
 refine D.good Tg ?_;rintro X H _ Q E rfl a sn hr ⟨W,q,z,rfl,R,ok,hz,k⟩;refine⟨_,(cQ (cV (pf_ dN (hmo hr) (gl sn) (cK (vr sn 0) (cK cT (cK (h9 (cK cT (cK cT cO))) cO)))))),?_⟩;refine⟨_,rfl,sz,fun p hp=>?_⟩
 have s1:dR H (upd H p (.tup (([0,0]:List Nat).map fun (n:Nat)=>V.int (n:Int)))):=.dm hp
 exact⟨W,q,1,p,([0,0]:List Nat),rfl,R.same s1,ok,hz,by decide,SqT.of cP,by decide,by decide,fun H' R' k'=>k _ R' (.inl rfl) ((dj.of s1).trans k')⟩
abbrev IG:Stmt:=top 35
theorem Qm:cW ["run","settled"] ["run","settled"] (cS IG):=fsc
theorem Qn (T:Tx c A) (D:Df c "drop" IG ["run","settled"] A.pj) (dN:Good c 4 "give_in_order" A.fc (fV c A)):Good c 5 "drop" A.pj (dq c A (fe 1) (gj 1 ([]:List Nat))):=by
 refine D.good Qm ?_;rintro X H _ Q E rfl a sn hr ⟨W,q,z,rfl,R,ok,hz,k⟩;refine⟨_,(cQ (cV (pf_ dN (hmo hr) (gl sn) (cK (vr sn 0) (cK cT (cK (h9 cO) cO)))))),?_⟩;refine⟨_,rfl,sz,fun p hp=>?_⟩
 have s1:dR H (upd H p (.tup (([]:List Nat).map fun (n:Nat)=>V.int (n:Int)))):=.dm hp
 exact⟨W,q,1,p,([]:List Nat),rfl,R.same s1,ok,hz,by decide,SqT.of cP,by decide,by decide,fun H' R' k'=>k _ R' (.inl rfl) ((dj.of s1).trans k')⟩
abbrev IH:Stmt:=top 36
theorem Qo:cW ["run","settled"] ["run","settled"] (cS IH):=fsc
theorem Qp (T:Tx c A) (D:Df c "swap" IH ["run","settled"] A.pk) (dN:Good c 4 "give_in_order" A.fc (fV c A)):Good c 5 "swap" A.pk (dq c A (fe 2) (gj 2 ([1,0]:List Nat))):=by
 refine D.good Qo ?_;rintro X H _ Q E rfl a sn hr ⟨W,q,z,rfl,R,ok,hz,k⟩;refine⟨_,(cQ (cV (pf_ dN (hmo hr) (gl sn) (cK (vr sn 0) (cK cT (cK (h9 (cK cT (cK cT cO))) cO)))))),?_⟩;refine⟨_,rfl,sz,fun p hp=>?_⟩
 have s1:dR H (upd H p (.tup (([1,0]:List Nat).map fun (n:Nat)=>V.int (n:Int)))):=.dm hp
 exact⟨W,q,2,p,([1,0]:List Nat),rfl,R.same s1,ok,hz,by decide,SqT.of cP,by decide,by decide,fun H' R' k'=>k _ R' (.inl rfl) ((dj.of s1).trans k')⟩
abbrev II:Stmt:=top 37
theorem Qq:cW ["run","settled"] ["run","settled"] (cS II):=fsc
theorem Qr (T:Tx c A) (D:Df c "over" II ["run","settled"] A.pq) (dN:Good c 4 "give_in_order" A.fc (fV c A)):Good c 5 "over" A.pq (dq c A (fe 2) (gj 2 ([0,1,0]:List Nat))):=by
 refine D.good Qq ?_;rintro X H _ Q E rfl a sn hr ⟨W,q,z,rfl,R,ok,hz,k⟩;refine⟨_,(cQ (cV (pf_ dN (hmo hr) (gl sn) (cK (vr sn 0) (cK cT (cK (h9 (cK cT (cK cT (cK cT cO)))) cO)))))),?_⟩;refine⟨_,rfl,sz,fun p hp=>?_⟩
 have s1:dR H (upd H p (.tup (([0,1,0]:List Nat).map fun (n:Nat)=>V.int (n:Int)))):=.dm hp
 exact⟨W,q,2,p,([0,1,0]:List Nat),rfl,R.same s1,ok,hz,by decide,SqT.of cP,by decide,by decide,fun H' R' k'=>k _ R' (.inl rfl) ((dj.of s1).trans k')⟩
abbrev N7:Stmt:=top 38
theorem Ti:cW ["run","settled"] ["run","settled"] (cS N7):=fsc
theorem Tj (T:Tx c A) (D:Df c "rot" N7 ["run","settled"] A.u9) (dN:Good c 4 "give_in_order" A.fc (fV c A)):Good c 5 "rot" A.u9 (dq c A (fe 3) (gj 3 ([1,2,0]:List Nat))):=by
 refine D.good Ti ?_;rintro X H _ Q E rfl a sn hr ⟨W,q,z,rfl,R,ok,hz,k⟩;refine⟨_,(cQ (cV (pf_ dN (hmo hr) (gl sn) (cK (vr sn 0) (cK cT (cK (h9 (cK cT (cK cT (cK cT cO)))) cO)))))),?_⟩;refine⟨_,rfl,sz,fun p hp=>?_⟩
 have s1:dR H (upd H p (.tup (([1,2,0]:List Nat).map fun (n:Nat)=>V.int (n:Int)))):=.dm hp
 exact⟨W,q,3,p,([1,2,0]:List Nat),rfl,R.same s1,ok,hz,by decide,SqT.of cP,by decide,by decide,fun H' R' k'=>k _ R' (.inl rfl) ((dj.of s1).trans k')⟩
end
section
variable {c:Ct} {A:Ad}
abbrev D7:Stmt:=top 39
theorem N8:cW ["run","settled"] ["run","settled"] (cS D7):=fsc
def Au (q:Rs) (z:Int):Nat×Rs:=oP q (q.stack.length:Int)
theorem N9 (T:Tx c A) (D:Df c "depth" D7 ["run","settled"] A.mG) (gb:Good c 4 "give_number" A.eM (jP c A)):Good c 5 "depth" A.mG (dq c A ny Au):=by
 refine D.good N8 ?_;rintro X H _ Q E rfl a sn hr ⟨W,q,z,rfl,R,ok,hz,k⟩;refine⟨_,(cQ (cV (pf_ gb (hmo hr) (gl sn) (cK (vr sn 0) (cK (dv dk (gl sn) T.fE PySem.boot_len (cK (df (vr sn 0) rfl) cO)) cO))))),?_⟩;obtain⟨as,s1,s2⟩:=R.stk;have hl:(as.map V.ref).length=q.stack.length:=by rw[List.length_map,Paired.length s2,aB]
 refine⟨_,rfl,_,rfl,W.r,_,W.dx,_,_,rfl,R.ins,T.cY,T.ff,rfl,W.s,_,rfl,.inl (SqL.of s1),W,q,(q.stack.length:Int),?_,R,ok,?_,fun H' R' k'=>k _ R' (.inl rfl) k'⟩
 .rw[hl];rfl
 unfold Lo.isValue Lo.WIDEST;have:=ok.len;simp only[aH,aY];omega
abbrev oq:Stmt:=top 40
theorem Av:cW ["run","number"] ["run","number"] (cS oq):=fsc
def eD (q:Rs) (z:Int):Nat×Rs:=if Lo.isValue z=true then (0,{q with stack:=.num z::q.stack.drop 2})else (8,q)
theorem Aw (T:Tx c A) (D:Df c "give_result" oq ["run","number"] A.fi) (jv:Good c 1 "is_in_range" A.iL kK) (gb:Good c 4 "give_number" A.eM (jP c A)) (dI:dA c 1 A.da "take" (kZ c A)):
  Good c 5 "give_result" A.fi (dq c A (fe 2) eD):=by
 refine D.good Av ?_;rintro X H _ Q E rfl a sn hr ⟨W,q,z,rfl,R,ok,hm,k⟩;refine⟨_,(cN (dX (lr (fJ (pf_ jv (hmo hr) (gl sn) (cK (vr sn 1) cO)))) (cQ (cV (pc_ T.z4 (gl sn)))) dr) (cN (dH (pm_ T.cY dI (hmo hr) (vr sn 0) (cK cT cO))) (cQ (cV (pf_ gb (hmo hr) (gl sn) (cK (vr sn 0) (cK (vr sn 1) cO))))))),?_⟩;refine⟨_,rfl,z,rfl,_,rfl,?_⟩;refine ddn (fun hz=>?_) (fun hz=>?_)
 .rw[show eD q z=(8,q)from aj (by rw[hz];decide)]at k
  exact k H R (.inr R.t) (.refl _ _)
 .rw[show eD q z=(0,{q with stack:=.num z::q.stack.drop 2})from aq hz]at k
  refine⟨_,rfl,W.r,W.dx,_,rfl,R.ins,rfl,W,q,2,rfl,R,hm,by decide,fun H1 p as R1 k1 hp h1 h2 ht=>⟨_,rfl,_,rfl,W,_,z,rfl,R1,?_,hz,fun H2 R2 k2=>k _ R2 (.inl rfl) (k1.trans k2)⟩⟩
  exact⟨fun v hv=>ok.stk v (bo hv),ok.vrs,ok.ces,by show (q.stack.drop 2).length<=9000;rw[aZ];have:=ok.len;omega,ok.nv,ok.ln,ok.ou,ok.un⟩
def i5 (q:Rs) (z:Int):Prop:=∃a b s,q.stack= .num b:: .num a::s
def sN (q:Rs):Int:=vn (q.stack.getD 1 .nil)
def jI (q:Rs):Int:=vn (q.stack.getD 0 .nil)
def mn (f:Int->Int->Int) (q:Rs) (z:Int):Nat×Rs:=eD q (f (sN q) (jI q))
theorem i5.at_ {q:Rs} {z:Int} (h:i5 q z) (ok:Rok q):fe 2 q z/\q.stack[1]?=some (.num (sN q))/\q.stack[0]?=some (.num (jI q))/\Lo.isValue (sN q)=true/\Lo.isValue (jI q)=true:=by
 obtain⟨a,b,s,e⟩:=h;have h1:=ok.stk (.num a) (by rw[e];simp)
 have h0:=ok.stk (.num b) (by rw[e];simp)
 have e1:sN q=a:=by unfold sN;rw[e];rfl
 have e0:jI q=b:=by unfold jI;rw[e];rfl
 rw[e1,e0];refine⟨by unfold fe;rw[e];simp,by rw[e];rfl,by rw[e];rfl,h1.2,h0.2⟩
theorem Qs {a b:Int} (h:Lo.isValue a=true):Pg a b:=by
 unfold Lo.isValue Lo.WIDEST at h;simp only[aH,aY]at h;exact .inl (by omega)
theorem Qt {b:Int} (h:Lo.isValue b=true):b.natAbs.log2<9000:=by have:=D3 h;omega
abbrev Oa:Stmt:=top 41
theorem Tn:cW ["run","settled"] ["run","settled"] (cS Oa):=fsc
theorem To (T:Tx c A) (D:Df c "add" Oa ["run","settled"] A.vc) (cU:dA c 2 A.da "number_from_top" (eR c A)) (dJ:Good c 5 "give_result" A.fi (dq c A (fe 2) eD)):
  Good c 6 "add" A.vc (dq c A i5 (mn (·+·))):=by
 refine D.good Tn ?_;rintro X H _ Q E rfl a sn hr ⟨W,q,z,rfl,R,ok,hp,k⟩;refine⟨_,(cQ (cV (pf_ dJ (hmo hr) (gl sn) (cK (vr sn 0) (cK (fB iH (pm_ T.cY cU (hmo hr) (vr sn 0) (cK cT cO)) (pm_ T.cY cU (hmo hr) (vr sn 0) (cK cT cO))) cO))))),?_⟩;obtain⟨hm,h1,h0,v1,v0⟩:=hp.at_ ok;exact⟨_,rfl,_,rfl,W.r,W.dx,_,rfl,R.ins,rfl,W,q,1,_,rfl,R,h1,_,rfl,W.r,W.dx,_,rfl,R.ins,rfl,W,q,0,_,rfl,R,h0,_,_,rfl,rfl,W,q,_,rfl,R,ok,hm,k⟩
abbrev t4:Stmt:=top 42
theorem Gy:cW ["run","settled"] ["run","settled"] (cS t4):=fsc
theorem Gz (T:Tx c A) (D:Df c "subtract" t4 ["run","settled"] A.je) (cU:dA c 2 A.da "number_from_top" (eR c A)) (dJ:Good c 5 "give_result" A.fi (dq c A (fe 2) eD)):
  Good c 6 "subtract" A.je (dq c A i5 (mn (·-·))):=by
 refine D.good Gy ?_;rintro X H _ Q E rfl a sn hr ⟨W,q,z,rfl,R,ok,hp,k⟩;refine⟨_,(cQ (cV (pf_ dJ (hmo hr) (gl sn) (cK (vr sn 0) (cK (fB md (pm_ T.cY cU (hmo hr) (vr sn 0) (cK cT cO)) (pm_ T.cY cU (hmo hr) (vr sn 0) (cK cT cO))) cO))))),?_⟩;obtain⟨hm,h1,h0,v1,v0⟩:=hp.at_ ok;exact⟨_,rfl,_,rfl,W.r,W.dx,_,rfl,R.ins,rfl,W,q,1,_,rfl,R,h1,_,rfl,W.r,W.dx,_,rfl,R.ins,rfl,W,q,0,_,rfl,R,h0,_,_,rfl,rfl,W,q,_,rfl,R,ok,hm,k⟩
abbrev t5:Stmt:=top 43
theorem GA:cW ["run","settled"] ["run","settled"] (cS t5):=fsc
theorem GB (T:Tx c A) (D:Df c "multiply" t5 ["run","settled"] A.jf) (cU:dA c 2 A.da "number_from_top" (eR c A)) (dJ:Good c 5 "give_result" A.fi (dq c A (fe 2) eD)):
  Good c 6 "multiply" A.jf (dq c A i5 (mn (·*·))):=by
 refine D.good GA ?_;rintro X H _ Q E rfl a sn hr ⟨W,q,z,rfl,R,ok,hp,k⟩;refine⟨_,(cQ (cV (pf_ dJ (hmo hr) (gl sn) (cK (vr sn 0) (cK (fB So (pm_ T.cY cU (hmo hr) (vr sn 0) (cK cT cO)) (pm_ T.cY cU (hmo hr) (vr sn 0) (cK cT cO))) cO))))),?_⟩;obtain⟨hm,h1,h0,v1,v0⟩:=hp.at_ ok;exact⟨_,rfl,_,rfl,W.r,W.dx,_,rfl,R.ins,rfl,W,q,1,_,rfl,R,h1,_,rfl,W.r,W.dx,_,rfl,R.ins,rfl,W,q,0,_,rfl,R,h0,_,_,rfl,rfl,Qs v1,W,q,_,rfl,R,ok,hm,k⟩
abbrev Ax:Stmt:=top 44
theorem LR:cW ["run","settled"] ["run","settled"] (cS Ax):=fsc
def jQ (f:Int->Int->Int) (q:Rs) (z:Int):Nat×Rs:=if jI q=0 then (9,q)else mn f q z
theorem LS (T:Tx c A) (D:Df c "divide" Ax ["run","settled"] A.kI) (cU:dA c 2 A.da "number_from_top" (eR c A)) (dJ:Good c 5 "give_result" A.fi (dq c A (fe 2) eD)):
  Good c 6 "divide" A.kI (dq c A i5 (jQ Int.fdiv)):=by
 refine D.good LR ?_;rintro X H _ Q E rfl a sn hr ⟨W,q,z,rfl,R,ok,hp,k⟩;refine⟨_,(cN (dX (iK iR (pm_ T.cY cU (hmo hr) (vr sn 0) (cK cT cO)) cT) (cQ (cV (pc_ T.nX (gl sn)))) dr) (cQ (cV (pf_ dJ (hmo hr) (gl sn) (cK (vr sn 0) (cK (fB N5 (pm_ T.cY cU (hmo hr) (vr sn 0) (cK cT cO)) (pm_ T.cY cU (hmo hr) (vr sn 0) (cK cT cO))) cO)))))),?_⟩;obtain⟨hm,h1,h0,v1,v0⟩:=hp.at_ ok;refine⟨_,rfl,W.r,W.dx,_,rfl,R.ins,rfl,W,q,0,_,rfl,R,h0,rfl,_,rfl,?_⟩;show if decide (V.int (jI q)=V.int 0)=true then _ else _
 by_cases hz:jI q=0
 .rw[show decide (V.int (jI q)=V.int 0)=true from aI (by rw[hz])]
  rw[show jQ Int.fdiv q z=(9,q)from aq hz]at k;exact fm (k H R (.inr R.t) (.refl _ _))
 .rw[show decide (V.int (jI q)=V.int 0)=false from ao (fun e=>hz (by injection e))]
  rw[show jQ Int.fdiv q z=mn Int.fdiv q z from aj hz]at k;exact eY ⟨_,rfl,_,rfl,W.r,W.dx,_,rfl,R.ins,rfl,W,q,1,_,rfl,R,h1,_,rfl,W.r,W.dx,_,rfl,R.ins,rfl,W,q,0,_,rfl,R,h0,_,_,rfl,rfl,⟨hz,Qt v0⟩,W,q,_,rfl,R,ok,hm,k⟩
abbrev Ay:Stmt:=top 45
theorem LU:cW ["run","settled"] ["run","settled"] (cS Ay):=fsc
theorem LV (T:Tx c A) (D:Df c "remain" Ay ["run","settled"] A.kJ) (cU:dA c 2 A.da "number_from_top" (eR c A)) (dJ:Good c 5 "give_result" A.fi (dq c A (fe 2) eD)):
  Good c 6 "remain" A.kJ (dq c A i5 (jQ Int.fmod)):=by
 refine D.good LU ?_;rintro X H _ Q E rfl a sn hr ⟨W,q,z,rfl,R,ok,hp,k⟩;refine⟨_,(cN (dX (iK iR (pm_ T.cY cU (hmo hr) (vr sn 0) (cK cT cO)) cT) (cQ (cV (pc_ T.nX (gl sn)))) dr) (cQ (cV (pf_ dJ (hmo hr) (gl sn) (cK (vr sn 0) (cK (fB Ph (pm_ T.cY cU (hmo hr) (vr sn 0) (cK cT cO)) (pm_ T.cY cU (hmo hr) (vr sn 0) (cK cT cO))) cO)))))),?_⟩;obtain⟨hm,h1,h0,v1,v0⟩:=hp.at_ ok;refine⟨_,rfl,W.r,W.dx,_,rfl,R.ins,rfl,W,q,0,_,rfl,R,h0,rfl,_,rfl,?_⟩;show if decide (V.int (jI q)=V.int 0)=true then _ else _
 by_cases hz:jI q=0
 .rw[show decide (V.int (jI q)=V.int 0)=true from aI (by rw[hz])]
  rw[show jQ Int.fmod q z=(9,q)from aq hz]at k;exact fm (k H R (.inr R.t) (.refl _ _))
 .rw[show decide (V.int (jI q)=V.int 0)=false from ao (fun e=>hz (by injection e))]
  rw[show jQ Int.fmod q z=mn Int.fmod q z from aj hz]at k;exact eY ⟨_,rfl,_,rfl,W.r,W.dx,_,rfl,R.ins,rfl,W,q,1,_,rfl,R,h1,_,rfl,W.r,W.dx,_,rfl,R.ins,rfl,W,q,0,_,rfl,R,h0,_,_,rfl,rfl,hz,W,q,_,rfl,R,ok,hm,k⟩
end
section
variable {c:Ct} {A:Ad}
abbrev ow:Stmt:=top 46
theorem Az:cW ["run","is_so"] ["run","is_so"] (cS ow):=fsc
def ox (b:Rs->Bool) (q:Rs) (z:Int):Nat×Rs:=(0,{q with stack:=Lo.oneOf (b q)::q.stack.drop 2})
inductive jR (c:Ct) (A:Ad) (vs:List V) (H:Hp) (Q:VK) (E:XK):Prop
 |mk:∀W q b,vs= [.ref (RA.r W),.bl b]->fO c A H W q->Rok q->2<=q.stack.length->(∀H',fb c A H' W {q with stack:=Lo.oneOf b::q.stack.drop 2}->dj (rmu W) H H'->Q (.int 0) H')->jR c A vs H Q E
theorem AA (T:Tx c A) (D:Df c "give_answer" ow ["run","is_so"] A.gS) (dJ:Good c 5 "give_result" A.fi (dq c A (fe 2) eD)):Good c 6 "give_answer" A.gS (jR c A):=by
 refine D.good Az ?_;rintro X H _ Q E rfl a sn hr ⟨W,q,b,rfl,R,ok,hm,k⟩;refine⟨_,(cQ (cV (pf_ dJ (hmo hr) (gl sn) (cK (vr sn 0) (cK (lW (fJ (vr sn 1)) cT cT) cO))))),?_⟩;refine⟨_,rfl,_,rfl,_,rfl,?_⟩;cases b with
 |true=>exact fm ⟨W,q,1,rfl,R,ok,hm,fun H' R' _ k'=>k H' R' k'⟩
 |false=>exact eY ⟨W,q,0,rfl,R,ok,hm,fun H' R' _ k'=>k H' R' k'⟩
abbrev IJ:Stmt:=top 47
theorem Qu:cW ["run","settled"] ["run","settled"] (cS IJ):=fsc
theorem Qv (T:Tx c A) (D:Df c "less" IJ ["run","settled"] A.px) (cU:dA c 2 A.da "number_from_top" (eR c A)) (gf:Good c 6 "give_answer" A.gS (jR c A)):
  Good c 7 "less" A.px (dq c A i5 (ox fun q=>decide (sN q<jI q))):=by
 refine D.good Qu ?_;rintro X H _ Q E rfl a sn hr ⟨W,q,z,rfl,R,ok,hp,k⟩;refine⟨_,(cQ (cV (pf_ gf (hmo hr) (gl sn) (cK (vr sn 0) (cK (yn L2.mV (pm_ T.cY cU (hmo hr) (vr sn 0) (cK cT cO)) (pm_ T.cY cU (hmo hr) (vr sn 0) (cK cT cO))) cO))))),?_⟩;obtain⟨hm,h1,h0,v1,v0⟩:=hp.at_ ok;exact⟨_,rfl,_,rfl,W.r,W.dx,_,rfl,R.ins,rfl,W,q,1,_,rfl,R,h1,_,rfl,W.r,W.dx,_,rfl,R.ins,rfl,W,q,0,_,rfl,R,h0,_,_,rfl,rfl,W,q,_,rfl,R,ok,hm,fun H' R' k'=>k H' R' (.inl rfl) k'⟩
theorem IK {q:Rs} {z:Int} (h:fe 2 q z) (ok:Rok q):∃b a s,q.stack=b::a::s/\Vok q b/\Vok q a:=by
 unfold fe at h;cases e:q.stack with
 |nil=>rw[e]at h;simp at h
 |cons b s=>
  cases s with
  |nil=>rw[e]at h;simp at h
  |cons a s=>exact⟨b,a,s,rfl,ok.stk b (by rw[e];simp),ok.stk a (by rw[e];simp)⟩
abbrev oy:Stmt:=top 48
theorem AB:cW ["run","settled"] ["run","settled"] (cS oy):=fsc
theorem Ob (T:Tx c A) (D:Da c "alike_words" "alike" oy ["run","settled"] A.fX) (dD:dA c 1 A.da "from_top" (jb c A)) (gh:dA c 2 A.dh "are_alike" (mK c A)) (gf:Good c 6 "give_answer" A.gS (jR c A)):
  Good c 7 "alike_words" A.fX (dq c A (fe 2) (ox fun q=>Lo.alike q.cs.toArray (q.stack.getD 1 .nil) (q.stack.getD 0 .nil))):=by
 refine D.good AB ?_;rintro X H _ Q E rfl a sn hr ⟨W,q,z,rfl,R,ok,hm,k⟩;refine⟨_,(cQ (cV (pf_ gf (hmo hr) (gl sn) (cK (vr sn 0) (cK (pm_ T.dw gh (hmo hr) (df (vr sn 0) rfl) (cK (pm_ T.cY dD (hmo hr) (vr sn 0) (cK cT cO)) (cK (pm_ T.cY dD (hmo hr) (vr sn 0) (cK cT cO)) cO))) cO))))),?_⟩;obtain⟨b,a',s,e,vb,va⟩:=IK hm ok;obtain⟨ho,sh,d,xs,C,hd⟩:=R.cel;have e1:q.stack.getD 1 .nil=a':=by rw[e];rfl
 have e0:q.stack.getD 0 .nil=b:=by rw[e];rfl
 refine⟨_,rfl,_,rfl,W.r,_,W.dx,_,_,rfl,R.ins,T.cY,T.eQ,rfl,W.L.c,W.L.dx,_,rfl,C.ins,rfl,_,rfl,W.r,W.dx,_,rfl,R.ins,rfl,W,q,1,a',rfl,R,by rw[e];rfl,fun x1 hx1=>⟨_,rfl,W.r,W.dx,_,rfl,R.ins,rfl,W,q,0,b,rfl,R,by rw[e];rfl,fun x0 hx0=>⟨{W.L with ho:=ho,z:=Hm.hd ho},q.cs,sh,d,xs,x1,a',x0,b,rfl,C,hx1,hx0,va.1,vb.1,fun H1 s1=>⟨W,q,_,rfl,R.same s1,ok,hm,fun H' R' k'=>?_⟩⟩⟩⟩
 rw[<-e1,<-e0]at R';exact k _ R' (.inl rfl) ((dj.of s1).trans k')
theorem AD (v u:Lo.Val):decide (((vk v,vn v):Int×Int)=(vk u,vn u))=Lo.same v u:=by
 cases v with
 |num a=>cases u with
  |num b=>by_cases h:a=b<;>simp[vk,vn,Lo.same,h]
  |nil=>simp[vk,vn,Lo.same]
  |cell j=>simp[vk,vn,Lo.same]
 |nil=>cases u<;>simp[vk,vn,Lo.same]
 |cell i=>cases u with
  |num b=>simp[vk,vn,Lo.same]
  |nil=>simp[vk,vn,Lo.same]
  |cell j=>
   show decide (((2,(i:Int)):Int×Int)=(2,(j:Int)))=(i==j);by_cases h:i=j
   .subst h;simp
   .have h2:((2,(i:Int)):Int×Int)≠(2,(j:Int)):=fun z=>h (by injection z with _ z;omega)
    rw[ao h2];simp[h]
abbrev s_same:Stmt:=top 50
theorem Qw:cW ["run","settled"] ["run","settled"] (cS s_same):=fsc
theorem Qx (T:Tx c A) (D:Df c "same" s_same ["run","settled"] A.pz) (dD:dA c 1 A.da "from_top" (jb c A)) (gf:Good c 6 "give_answer" A.gS (jR c A)):
  Good c 7 "same" A.pz (dq c A (fe 2) (ox fun q=>Lo.same (q.stack.getD 1 .nil) (q.stack.getD 0 .nil))):=by
 refine D.good Qw ?_;rintro X H _ Q E rfl a sn hr ⟨W,q,z,rfl,R,ok,hm,k⟩;refine⟨_,(cQ (cV (pf_ gf (hmo hr) (gl sn) (cK (vr sn 0) (cK (yZ (Dn hr.units) (pm_ T.cY dD (hmo hr) (vr sn 0) (cK cT cO)) (pm_ T.cY dD (hmo hr) (vr sn 0) (cK cT cO)) (qP _)) cO))))),?_⟩;obtain⟨b,a',s,e,vb,va⟩:=IK hm ok;have e1:q.stack.getD 1 .nil=a':=by rw[e];rfl
 have e0:q.stack.getD 0 .nil=b:=by rw[e];rfl
 refine⟨_,rfl,_,rfl,W.r,W.dx,_,rfl,R.ins,rfl,W,q,1,a',rfl,R,by rw[e];rfl,fun x1 hx1=>⟨_,rfl,W.r,W.dx,_,rfl,R.ins,rfl,W,q,0,b,rfl,R,by rw[e];rfl,fun x0 hx0=>⟨_,_,iP hx1,iP hx0,eW _ _,eW _ _,W,q,_,rfl,R,ok,hm,fun H' R' k'=>?_⟩⟩⟩
 rw[l0,AD,<-e1,<-e0]at R';exact k _ R' (.inl rfl) k'
abbrev IL:Stmt:=top 51
theorem Qy:cW ["run","settled","taken"] ["run","settled"] (cS IL):=fsc
def pY (q:Rs) (z:Int):Nat×Rs:=(0,{q with stack:=.cell q.cs.length::q.stack.drop 2,cs:=q.cs++ [⟨q.stack.getD 1 .nil,q.stack.getD 0 .nil⟩]})
theorem Qz (T:Tx c A) (D:Df c "pair" IL ["run","settled"] A.pA) (dP:dA c 3 A.da "give" (lT c A)) (dI:dA c 1 A.da "take" (kZ c A)) (pZ:dA c 2 A.dh "make" (D1 c A)):
  Good c 4 "pair" A.pA (dq c A (fe 2) pY):=by
 refine D.good Qy ?_;rintro X H _ Q E rfl a sn hr ⟨W,q,z,rfl,R,ok,hm,k⟩;refine⟨_,(cN (pSt sn 2 (pm_ T.cY dI (hmo hr) (vr sn 0) (cK cT cO))) (cN (dH (pm_ T.cY dP (hmo hr) (vr sn 0) (cK (pm_ T.dw pZ (hmo hr) (df (vr sn 0) rfl) (cK (ixL (vr sn 2) cT) (cK (ixL (vr sn 2) cT) cO))) cO))) (cQ (cV (pc_ T.dB (gl sn)))))),?_⟩;obtain⟨b,a',s,e,vb,va⟩:=IK hm ok;have e1:q.stack.getD 1 .nil=a':=by rw[e];rfl
 have e0:q.stack.getD 0 .nil=b:=by rw[e];rfl
 refine⟨_,rfl,W.r,W.dx,_,rfl,R.ins,rfl,W,q,2,rfl,R,hm,by decide,fun H1 p as R1 k1 hp h1 h2 ht=>?_⟩
 rw[show (q.stack.take 2).reverse= [a',b]from by rw[e];rfl]at h2
 obtain⟨x1,as1,rfl,h21,h22⟩:∃x1 as1,as=x1::as1/\m9 X.K H1 x1 a'/\Vals X.K H1 as1 [b]:=by cases h2 with|cons u v=>exact⟨_,_,rfl,u,v⟩
 obtain⟨x0,rfl,h20⟩:∃x0,as1= [x0]/\m9 X.K H1 x0 b:=by cases h22 with|cons u v=>cases v;exact⟨_,rfl,u⟩
 have R1:=R1;obtain⟨tk1,R1x⟩:=id R1;obtain⟨ho,sh,d,xs,C,hd,hHi⟩:=R1x.cel;have hln:=ok.ln;refine⟨_,rfl,W.r,W.dx,_,rfl,R1.ins,rfl,_,rfl,W.r,_,W.dx,_,_,rfl,R1.ins,T.cY,T.eQ,rfl,W.L.c,W.L.dx,_,rfl,C.ins,rfl,_,rfl,p,_,_,_,rfl,rfl,SqL.of h1,cX (j:=0) rfl,_,rfl,p,_,_,_,rfl,rfl,SqL.of h1,cX (j:=1) rfl,
  {W.L with ho:=ho,z:=Hm.hd ho},q.cs,sh,d,xs,x1,a',x0,b,rfl,C,h21,h20,va.1,vb.1,by omega,by have:d.length<=q.cs.length:=hd;omega,fun H2 y sh' d' xs' C' hd' hy k2=>?_⟩
 have hd:d.length<=q.cs.length:=hd;have R2x:=R1x.zj (ho:=ho++ [0]) k2 (by rw[show Hm.hd (ho++ [0])=Hm.hd ho from by unfold Hm.hd;rw[Xo];rfl];exact C') (by rw[List.length_append];show d'.length<=q.cs.length+1;omega) (hHi.make C.wf _)
 have R2:fb (ct X) A H2 W {({q with stack:=q.stack.drop 2}:Rs)with cs:=q.cs++ [⟨a',b⟩]}:=⟨tk1,R2x⟩
 refine⟨W,_,y,.cell q.cs.length,rfl,R2,SqT.of hy,⟨by show q.cs.length<(q.cs++ [_]).length;rw[List.length_append];exact bt _,trivial⟩,?_,fun H3 R3 k3=>?_⟩
 .refine⟨?_,?_⟩
  .show (q.stack.drop 2).length<=10000;rw[aZ];have:=ok.len;omega
  .show (q.cs++ [_]).length<=10000;rw[List.length_append,bP];omega
 .refine k _ ?_ (.inl rfl) ((k1.trans (dj.mono k2 (zk W))).trans k3);unfold pY;rw[e1,e0];exact R3
end
theorem rE {K:PySem.W.Frag} {H:Hp} {as:List Addr} {v:Lo.Val} (h:Vals K H as [v]):∃x,as= [x]/\m9 K H x v:=by cases h with|cons u w=>cases w;exact⟨_,rfl,u⟩
theorem IM {q:Rs} {z:Int} (h:fe 1 q z) (ok:Rok q):∃b s,q.stack=b::s/\Vok q b:=by
 unfold fe at h;cases e:q.stack with
 |nil=>rw[e]at h;simp at h
 |cons b s=>exact⟨b,s,rfl,ok.stk b (by rw[e];simp)⟩
theorem Rok.drop {q:Rs} (ok:Rok q) (m:Nat):Rok {q with stack:=q.stack.drop m}:=
 ⟨fun v hv=>ok.stk v (bo hv),ok.vrs,ok.ces,by show (q.stack.drop m).length<=9000;rw[aZ];have:=ok.len;omega,ok.nv,ok.ln,ok.ou,ok.un⟩
def AE (q:Rs) (z:Int):Prop:=∃i s,q.stack= .cell i::s
def AF (q:Rs) (z:Int):Prop:=∃a s,q.stack= .num a::s
def AG (q:Rs):Lo.Cell:=match q.stack with
 | .cell i::_=>q.cs.getD i Lo.noCell
 |_=>Lo.noCell
def mL (f:Lo.Cell->Lo.Val) (q:Rs) (z:Int):Nat×Rs:=(0,{q with stack:=f (AG q)::q.stack.drop 1})
section
variable {c:Ct} {A:Ad}
abbrev D8:Stmt:=top 52
theorem Oc:cW ["run","settled","taken"] ["run","settled"] (cS D8):=fsc
theorem Od (T:Tx c A) (D:Df c "first" D8 ["run","settled"] A.mH) (dP:dA c 3 A.da "give" (lT c A)) (dI:dA c 1 A.da "take" (kZ c A)) (eh:dA c 1 A.dh "first_of" (kU c A Lo.Cell.first)):
  Good c 4 "first" A.mH (dq c A AE (mL Lo.Cell.first)):=by
 refine D.good Oc ?_;rintro X H _ Q E rfl a sn hr ⟨W,q,z,rfl,R,ok,⟨i,s,e⟩,k⟩;refine⟨_,(cN (pSt sn 2 (pm_ T.cY dI (hmo hr) (vr sn 0) (cK cT cO))) (cN (dH (pm_ T.cY dP (hmo hr) (vr sn 0) (cK (pm_ T.dw eh (hmo hr) (df (vr sn 0) rfl) (cK (ixL (vr sn 2) cT) cO)) cO))) (cQ (cV (pc_ T.dB (gl sn)))))),?_⟩;have hi:i<q.cs.length:=(ok.stk (.cell i) (by rw[e];simp)).1
 obtain⟨ce,hce⟩:∃ce,q.cs[i]?=some ce:=⟨_,af hi⟩;have hcel:AG q=ce:=by unfold AG;rw[e];show q.cs.getD i _=ce;rw[ah,hce];rfl
 refine⟨_,rfl,W.r,W.dx,_,rfl,R.ins,rfl,W,q,1,rfl,R,by rw[e];exact Xs _,by decide,fun H1 p as R1 k1 hp h1 h2 ht=>?_⟩
 rw[show (q.stack.take 1).reverse= [.cell i]from by rw[e];rfl]at h2
 obtain⟨x,rfl,hx⟩:=rE h2;obtain⟨ho,sh,d,xs,C,hd⟩:=R1.cel;have hwf:=C.wf i ce hce;have hok:=ok.ces ce (aP hce);refine⟨_,rfl,W.r,W.dx,_,rfl,R1.ins,rfl,_,rfl,W.r,_,W.dx,_,_,rfl,R1.ins,T.cY,T.eQ,rfl,W.L.c,W.L.dx,_,rfl,C.ins,rfl,_,rfl,p,_,_,_,rfl,rfl,SqL.of h1,cX (j:=0) rfl,{W.L with ho:=ho,z:=Hm.hd ho},q.cs,sh,d,xs,x,i,ce,rfl,C,hx,hce,fun y hy=>⟨W,_,y,Lo.Cell.first ce,rfl,R1,hy,⟨(by first|exact hwf.1.mono (bg hi)|exact hwf.2.mono (bg hi)),(by first|exact hok.1|exact hok.2)⟩,?_,fun H2 R2 k2=>k _ ?_ (.inl rfl) (k1.trans k2)⟩⟩
 .exact⟨ai (ok.drop 1).len (by decide),ai ok.ln (by decide)⟩
 .unfold mL;rw[hcel];exact R2
abbrev IP:Stmt:=top 53
theorem QA:cW ["run","settled","taken"] ["run","settled"] (cS IP):=fsc
theorem QB (T:Tx c A) (D:Df c "rest" IP ["run","settled"] A.pB) (dP:dA c 3 A.da "give" (lT c A)) (dI:dA c 1 A.da "take" (kZ c A)) (eI:dA c 1 A.dh "rest_of" (kU c A Lo.Cell.rest)):
  Good c 4 "rest" A.pB (dq c A AE (mL Lo.Cell.rest)):=by
 refine D.good QA ?_;rintro X H _ Q E rfl a sn hr ⟨W,q,z,rfl,R,ok,⟨i,s,e⟩,k⟩;refine⟨_,(cN (pSt sn 2 (pm_ T.cY dI (hmo hr) (vr sn 0) (cK cT cO))) (cN (dH (pm_ T.cY dP (hmo hr) (vr sn 0) (cK (pm_ T.dw eI (hmo hr) (df (vr sn 0) rfl) (cK (ixL (vr sn 2) cT) cO)) cO))) (cQ (cV (pc_ T.dB (gl sn)))))),?_⟩;have hi:i<q.cs.length:=(ok.stk (.cell i) (by rw[e];simp)).1
 obtain⟨ce,hce⟩:∃ce,q.cs[i]?=some ce:=⟨_,af hi⟩;have hcel:AG q=ce:=by unfold AG;rw[e];show q.cs.getD i _=ce;rw[ah,hce];rfl
 refine⟨_,rfl,W.r,W.dx,_,rfl,R.ins,rfl,W,q,1,rfl,R,by rw[e];exact Xs _,by decide,fun H1 p as R1 k1 hp h1 h2 ht=>?_⟩
 rw[show (q.stack.take 1).reverse= [.cell i]from by rw[e];rfl]at h2
 obtain⟨x,rfl,hx⟩:=rE h2;obtain⟨ho,sh,d,xs,C,hd⟩:=R1.cel;have hwf:=C.wf i ce hce;have hok:=ok.ces ce (aP hce);refine⟨_,rfl,W.r,W.dx,_,rfl,R1.ins,rfl,_,rfl,W.r,_,W.dx,_,_,rfl,R1.ins,T.cY,T.eQ,rfl,W.L.c,W.L.dx,_,rfl,C.ins,rfl,_,rfl,p,_,_,_,rfl,rfl,SqL.of h1,cX (j:=0) rfl,{W.L with ho:=ho,z:=Hm.hd ho},q.cs,sh,d,xs,x,i,ce,rfl,C,hx,hce,fun y hy=>⟨W,_,y,Lo.Cell.rest ce,rfl,R1,hy,⟨(by first|exact hwf.1.mono (bg hi)|exact hwf.2.mono (bg hi)),(by first|exact hok.1|exact hok.2)⟩,?_,fun H2 R2 k2=>k _ ?_ (.inl rfl) (k1.trans k2)⟩⟩
 .exact⟨ai (ok.drop 1).len (by decide),ai ok.ln (by decide)⟩
 .unfold mL;rw[hcel];exact R2
abbrev IQ:Stmt:=top 54
theorem QC:cW ["run","settled","taken"] ["run","settled"] (cS IQ):=fsc
def zl (q:Rs) (z:Int):Nat×Rs:=(0,{q with stack:=.num (vk (q.stack.getD 0 .nil))::q.stack.drop 1})
theorem QD (T:Tx c A) (D:Df c "kind" IQ ["run","settled"] A.pC) (dI:dA c 1 A.da "take" (kZ c A)) (gb:Good c 4 "give_number" A.eM (jP c A)):Good c 5 "kind" A.pC (dq c A (fe 1) zl):=by
 refine D.good QC ?_;rintro X H _ Q E rfl a sn hr ⟨W,q,z,rfl,R,ok,hm,k⟩;refine⟨_,(cN (pSt sn 2 (pm_ T.cY dI (hmo hr) (vr sn 0) (cK cT cO))) (cQ (cV (pf_ gb (hmo hr) (gl sn) (cK (vr sn 0) (cK (ixT (ixL (vr sn 2) cT) cT) cO)))))),?_⟩;obtain⟨b,s,e,vb⟩:=IM hm ok;have e0:q.stack.getD 0 .nil=b:=by rw[e];rfl
 refine⟨_,rfl,W.r,W.dx,_,rfl,R.ins,rfl,W,q,1,rfl,R,hm,by decide,fun H1 p as R1 k1 hp h1 h2 ht=>?_⟩
 rw[show (q.stack.take 1).reverse= [b]from by rw[e];rfl]at h2
 obtain⟨x,rfl,hx⟩:=rE h2;refine⟨_,rfl,_,rfl,p,_,_,_,rfl,rfl,SqL.of h1,cX (j:=0) rfl,x,_,_,_,rfl,rfl,hx,cX (j:=0) rfl,W,_,_,rfl,R1,ok.drop 1,?_,fun H2 R2 k2=>?_⟩
 .cases b<;>rfl
 .refine k _ ?_ (.inl rfl) (k1.trans k2);unfold zl;rw[e0];exact R2
def yf (q:Rs) (z:Int):Prop:=∃x:Nat,z=(x:Int)/\x<26
abbrev mq:Stmt:=top 55
theorem xb:cW ["run","variable"] ["run","variable"] (cS mq):=fsc
def D9 (q:Rs) (z:Int):Nat×Rs:=(0,{q with stack:=q.vars.getD z.toNat (.num 0)::q.stack})
theorem xg (T:Tx c A) (D:Df c "give_variable" mq ["run","variable"] A.ft) (dP:dA c 3 A.da "give" (lT c A)):Good c 4 "give_variable" A.ft (dq c A yf D9):=by
 refine D.good xb ?_;rintro X H _ Q E rfl a sn hr ⟨W,q,z,rfl,R,ok,hx,k⟩;refine⟨_,(cN (dH (pm_ T.cY dP (hmo hr) (vr sn 0) (cK (ixL (df (vr sn 0) rfl) (vr sn 1)) cO))) (cQ (cV (pc_ T.dB (gl sn))))),?_⟩;obtain⟨x,rfl,hx⟩:=hx;obtain⟨as,s1,s2⟩:=R.vrs;obtain⟨u,hu⟩:∃u,q.vars[x]?=some u:=⟨_,af (by rw[ok.nv];exact hx)⟩
 obtain⟨b,hb,hbv⟩:=gX s2 hu;refine⟨_,rfl,W.r,W.dx,_,rfl,R.ins,rfl,_,rfl,W.r,_,W.dx,_,_,rfl,R.ins,T.cY,T.fU,rfl,_,rfl,W.v,_,_,_,rfl,rfl,SqL.of s1,cX (v:=V.ref b) (by rw[aF,hb];rfl),W,q,b,u,rfl,R,hbv,ok.vrs u (aP hu),by have:=ok.len;have:=ok.ln;omega,fun H' R' k'=>k _ ?_ (.inl rfl) k'⟩
 unfold D9;rw[show ((x:Nat):Int).toNat=x from bp x,ah,hu];exact R'
abbrev nz:Stmt:=top 56
theorem yC:cW ["run","variable","taken"] ["run","variable"] (cS nz):=fsc
def AH (q:Rs) (z:Int):Nat×Rs:=(0,{q with stack:=q.stack.drop 1,vars:=q.vars.set z.toNat (q.stack.getD 0 .nil)})
theorem yD (T:Tx c A) (D:Df c "set_variable" nz ["run","variable"] A.fL) (dI:dA c 1 A.da "take" (kZ c A)) (jB:dA c 3 A.da "change_variable" (kh c A)):Good c 4 "set_variable" A.fL (dq c A (fun q z=>yf q z/\fe 1 q z) AH):=by
 refine D.good yC ?_;rintro X H _ Q E rfl a sn hr ⟨W,q,z,rfl,R,ok,⟨hx,hm⟩,k⟩;refine⟨_,(cN (pSt sn 2 (pm_ T.cY dI (hmo hr) (vr sn 0) (cK cT cO))) (cN (dH (pm_ T.cY jB (hmo hr) (vr sn 0) (cK (vr sn 1) (cK (ixL (vr sn 2) cT) cO)))) (cQ (cV (pc_ T.dB (gl sn)))))),?_⟩;obtain⟨x,rfl,hx⟩:=hx;obtain⟨b,s,e,vb⟩:=IM hm ok;have e0:q.stack.getD 0 .nil=b:=by rw[e];rfl
 refine⟨_,rfl,W.r,W.dx,_,rfl,R.ins,rfl,W,q,1,rfl,R,hm,by decide,fun H1 p as R1 k1 hp h1 h2 ht=>?_⟩
 rw[show (q.stack.take 1).reverse= [b]from by rw[e];rfl]at h2
 obtain⟨y,rfl,hy⟩:=rE h2;refine⟨_,rfl,W.r,W.dx,_,rfl,R1.ins,rfl,_,rfl,_,rfl,p,_,_,_,rfl,rfl,SqL.of h1,cX (j:=0) rfl,W,_,x,y,b,rfl,R1,by show x<q.vars.length;rw[ok.nv];exact hx,hy,vb,ht,ai ok.ln (by decide),fun H2 R2 k2=>k _ ?_ (.inl rfl) (k1.trans k2)⟩
 unfold AH;rw[show ((x:Nat):Int).toNat=x from bp x,e0];exact R2
end
section
variable {c:Ct} {A:Ad}
abbrev Ea:Stmt:=top 57
theorem Oe:cW ["run","row","many"] ["run","row","many"] (cS Ea):=fsc
def fg (row:Lo.Bytes) (m:Nat) (q:Rs):Nat×Rs:=if 4096<q.out.length+row.length then (12,q)else (0,{q with stack:=q.stack.drop m,out:=q.out++row})
inductive rF (c:Ct) (A:Ad) (vs:List V) (H:Hp) (Q:VK) (E:XK):Prop
 |mk:∀W q p,∀row:Lo.Bytes,∀m:Nat,vs= [.ref (RA.r W),.ref p,.int (m:Int)]->fO c A H W q->Rok q->H p=some (.lst (row.map iv))->p∉foot W->m<=q.stack.length->m<=10->(∀H',fb c A H' W (fg row m q).2->((fg row m q).1=0\/H' W.t=some (.lst []))->dj (rmu W) H H'->Q (.int (((fg row m q).1:Nat):Int)) H')->rF c A vs H Q E
theorem Of (T:Tx c A) (D:Df c "utter" Ea ["run","row","many"] A.nV) (dI:dA c 1 A.da "take" (kZ c A)):Good c 2 "utter" A.nV (rF c A):=by
 refine D.good Oe ?_;rintro X H _ Q E rfl a sn hr ⟨W,q,p,row,m,rfl,R,ok,hrow,hp,hm,hm10,k⟩;refine⟨_,(cN (dX (iK oA (fB iH (dv dk (gl sn) T.fE PySem.boot_len (cK (df (vr sn 0) rfl) cO)) (dv dk (gl sn) T.fE PySem.boot_len (cK (vr sn 1) cO))) (pc_ T.nY (gl sn))) (cQ (cV (pc_ T.yp (gl sn)))) dr) (cN (dH (pm_ T.cY dI (hmo hr) (vr sn 0) (cK (vr sn 2) cO))) (cN (dH (jJ PySem.F.plainAttrs_list PySem.F.slot_list_extend PySem.F.type_list_extend oE (df (vr sn 0) rfl) (cK (vr sn 1) cO))) (cQ (cV (pc_ T.dB (gl sn))))))),?_⟩;refine⟨_,rfl,W.r,_,W.dx,_,_,rfl,R.ins,T.cY,T.gW,rfl,W.o,_,rfl,.inl (SqL.of R.out),_,rfl,p,_,rfl,.inl (SqL.of hrow),_,_,rfl,rfl,_,_,rfl,rfl,_,rfl,?_⟩;rw[List.length_map,List.length_map];refine dd (fun h=>?_) (fun h=>?_)
 .have h:=aQ h;have h:4096<q.out.length+row.length:=by omega
  rw[show fg row m q=(12,q)from aq h]at k;exact k H R (.inr R.t) (.refl _ _)
 .have h:=bj h;have h:¬4096<q.out.length+row.length:=by omega
  rw[show fg row m q=(0,{q with stack:=q.stack.drop m,out:=q.out++row})from aj h]at k
  have hpr:p∉rmu W:=fun z=>hp (l3 W p z)
  refine⟨_,rfl,W.r,W.dx,_,rfl,R.ins,rfl,_,rfl,W,q,m,rfl,R,hm,hm10,fun H1 p1 as R1 k1 hp1 h1 h2 ht=>?_⟩
  have o1:=R1.out;refine⟨_,rfl,W.r,_,W.dx,_,_,rfl,R1.ins,T.cY,T.gW,rfl,.inl ⟨rfl,_,SqL.of o1⟩,_,rfl,W.o,p,_,_,rfl,rfl,o1,k1 _ _ hrow hpr,?_,?_⟩
  .rw[List.length_map,List.length_map];exact ai (show q.out.length+row.length<=4096 by omega) (by decide)
  .rw[<-aA];exact k _ R1.D5 (.inl rfl) (dj.d7 k1 (by simp[rmu]))
abbrev Og:Stmt:=top 58
theorem Tp:cW ["run","settled"] ["run","settled"] (cS Og):=fsc
def mr (q:Rs) (z:Int):Nat×Rs:=if 4096<q.out.length+Lo.longOf q.cs.toArray (q.stack.getD 0 .nil)then (12,q)else (0,{q with stack:=q.stack.drop 1,out:=q.out++Lo.said q.cs.toArray (q.stack.getD 0 .nil)})
theorem Tq (T:Tx c A) (D:Df c "say" Og ["run","settled"] A.vd) (dD:dA c 1 A.da "from_top" (jb c A)) (oQ:Good c 2 "saying" A.mZ (sA c A)) (mM:Good c 2 "utter" A.nV (rF c A)):
  Good c 3 "say" A.vd (dq c A (fe 1) mr):=by
 refine D.good Tp ?_;rintro X H _ Q E rfl a sn hr ⟨W,q,z,rfl,R,ok,hm,k⟩;refine⟨_,(cQ (cV (pf_ mM (hmo hr) (gl sn) (cK (vr sn 0) (cK (pf_ oQ (hmo hr) (gl sn) (cK (df (vr sn 0) rfl) (cK (pm_ T.cY dD (hmo hr) (vr sn 0) (cK cT cO)) (cK (fB md (pc_ T.nY (gl sn)) (dv dk (gl sn) T.fE PySem.boot_len (cK (df (vr sn 0) rfl) cO))) cO)))) (cK cT cO)))))),?_⟩;obtain⟨b,s,e,vb⟩:=IM hm ok;obtain⟨ho,sh,d,xs,C,hd⟩:=R.cel;have e0:q.stack.getD 0 .nil=b:=by rw[e];rfl
 have hou:=ok.ou;refine⟨_,rfl,_,rfl,W.r,_,W.dx,_,_,rfl,R.ins,T.cY,T.eQ,rfl,_,rfl,W.r,W.dx,_,rfl,R.ins,rfl,W,q,0,b,rfl,R,by rw[e];rfl,fun x0 hx0=>⟨_,rfl,W.r,_,W.dx,_,_,rfl,R.ins,T.cY,T.gW,rfl,W.o,_,rfl,.inl (SqL.of R.out),_,_,rfl,rfl,{W.L with ho:=ho,z:=Hm.hd ho},q.cs,sh,d,xs,x0,b,4096-q.out.length,?_,C,hx0,vb.1,vb.2,ok.ces,by omega,fun H1 p row s1 hp h1 hrl h2 h3=>?_⟩⟩
 .rw[List.length_map];show [V.ref W.L.c,V.ref x0,V.int (4096-(q.out.length:Int))]=_;rw[show (4096:Int)-(q.out.length:Int)=((4096-q.out.length:Nat):Int) by omega]
 .refine⟨W,q,p,row,1,rfl,R.same s1,ok,h1,fun z=>?_,hm,by decide,fun H2 R2 t2 k2=>?_⟩
  .obtain⟨o,eo⟩:=R.old p z;rw[hp]at eo;cases eo
  .have wf:Cm.WF (q.cs.toArray).toList:=by simpa using C.wf
   have hsl:=Cm.lZ wf (v:=b) (by simpa using vb.1)
   have em:fg row 1 q=mr q z:=by
    unfold fg mr;rw[e0];by_cases fH:4096<q.out.length+Lo.longOf q.cs.toArray b
    .rw[aq fH,aq (by have:=h3 (by omega);omega)]
    .have hr:row=Lo.said q.cs.toArray b:=h2 (by omega)
     rw[aj fH,aj (by rw[hr];omega),hr]
   rw[em]at R2 t2⊢;exact k _ R2 t2 ((dj.of s1).trans k2)
abbrev Oh:Stmt:=top 59
theorem Tr:cW ["run","settled","byte"] ["run","settled"] (cS Oh):=fsc
def lg (q:Rs) (z:Int):Nat×Rs:=if jI q<0\/255<jI q then (8,q)else fg [UInt8.ofNat (jI q).toNat] 1 q
theorem Ts (T:Tx c A) (D:Df c "put" Oh ["run","settled"] A.vf) (cU:dA c 2 A.da "number_from_top" (eR c A)) (mM:Good c 2 "utter" A.nV (rF c A)):
  Good c 3 "put" A.vf (dq c A AF lg):=by
 refine D.good Tr ?_;rintro X H _ Q E rfl a sn hr ⟨W,q,z,rfl,R,ok,⟨b,s,e⟩,k⟩;refine⟨_,(cN (pSt sn 2 (pm_ T.cY cU (hmo hr) (vr sn 0) (cK cT cO))) (cN (dX (Mv (iK L2.mV (vr sn 2) cT) (Hn (iK oA (vr sn 2) (pc_ T.rh (gl sn))))).pt (cQ (cV (pc_ T.z4 (gl sn)))) dr) (cQ (cV (pf_ mM (hmo hr) (gl sn) (cK (vr sn 0) (cK (eX (cK (vr sn 2) cO)) (cK cT cO)))))))),?_⟩;have e0:jI q=b:=by unfold jI;rw[e];rfl
 refine⟨_,rfl,W.r,W.dx,_,rfl,R.ins,rfl,W,q,0,.num b,rfl,R,by rw[e];rfl,?_⟩
 have fin:¬(b<0\/255<b)->∀p,H p=none->fb (ct X) A (upd H p (.lst [V.int b])) W q->(∀H',fb (ct X) A H' W (fg [UInt8.ofNat b.toNat] 1 q).2->((fg [UInt8.ofNat b.toNat] 1 q).1=0\/H' W.t=some (.lst []))->dj (rmu W) (upd H p (.lst [V.int b])) H'->Q (.int (((fg [UInt8.ofNat b.toNat] 1 q).1:Nat):Int)) H'):=fun hn p hp _ H' R' t' k'=>by
  rw[show lg q z=fg [UInt8.ofNat b.toNat] 1 q from by unfold lg;rw[e0];exact aj hn]at k
  exact k _ R' t' ((dj.of (.dm hp)).trans k')
 have big:(b<0\/255<b)->Q (.int 8) H:=fun hn=>by
  rw[show lg q z=(8,q)from by unfold lg;rw[e0];exact aq hn]at k
  exact k H R (.inr R.t) (.refl _ _)
 refine⟨_,rfl,_,_,rfl,rfl,_,rfl,?_⟩;refine dd (fun h=>?_) (fun h=>?_)
 .exact fm (big (.inl (aQ h)))
 .have h:=bj h;refine⟨_,rfl,_,_,rfl,rfl,_,rfl,?_⟩;refine dd (fun h'=>?_) (fun h'=>?_)
  .exact big (.inr (aQ h'))
  .have h':=bj h';have h:¬b<0:=h;have h':¬b>255:=h';refine⟨_,rfl,_,rfl,sz,fun p hp=>?_⟩
   have s1:dR H (upd H p (.lst [V.int b])):=.dm hp;refine⟨W,q,p,[UInt8.ofNat b.toNat],1,rfl,R.same s1,ok,?_,fun z=>?_,by rw[e];exact Xs _,by decide,fin (by omega) p hp (R.same s1)⟩
   .have eb:iv (UInt8.ofNat b.toNat)=V.int b:=by
     unfold iv;rw[Xr];congr 1;omega
    show upd H p (.lst [V.int b]) p=some (.lst [iv (UInt8.ofNat b.toNat)]);rw[eb];exact cP
   .obtain⟨o,eo⟩:=R.old p z;rw[hp]at eo;cases eo
abbrev t6:Stmt:=top 60
theorem GC:cW ["run","settled"] ["run","settled"] (cS t6):=fsc
theorem GD (T:Tx c A) (D:Df c "end_line" t6 ["run","settled"] A.jg) (mM:Good c 2 "utter" A.nV (rF c A)):
  Good c 3 "end_line" A.jg (dq c A ny (fun q _=>fg [10] 0 q)):=by
 refine D.good GC ?_;rintro X H _ Q E rfl a sn hr ⟨W,q,z,rfl,R,ok,_,k⟩;refine⟨_,(cQ (cV (pf_ mM (hmo hr) (gl sn) (cK (vr sn 0) (cK (eX (cK (pc_ T.Ib (gl sn)) cO)) (cK cT cO)))))),?_⟩;refine⟨_,rfl,sz,fun p hp=>?_⟩
 have s1:dR H (upd H p (.lst [V.int 10])):=.dm hp;refine⟨W,q,p,[10],0,rfl,R.same s1,ok,cP,fun z=>?_,aO _,by decide,fun H' R' t' k'=>k _ R' t' ((dj.of s1).trans k')⟩
 obtain⟨o,eo⟩:=R.old p z;rw[hp]at eo;cases eo
end
def nA (q:Rs) (z:Int):Prop:=∃t:Nat,z=(t:Int)
theorem vH (W:RA) (q:Rs) (t:Nat):dE "following" (.int (t:Int)) (kX W q)=kX W {q with fol:=t}:=rfl
theorem QE (W:RA) (q:Rs) (t:Nat):dE "position" (.int (t:Int)) (kX W q)=kX W {q with pos:=t}:=rfl
theorem LW (W:RA) (q:Rs) (t:Nat):dE "fault" (.int (t:Int)) (kX W q)=kX W {q with fault:=t}:=rfl
theorem Oi (W:RA) (q:Rs) (t:Nat):dE "carried_out" (.int (t:Int)) (kX W q)=kX W {q with done:=t}:=rfl
section
variable {c:Ct} {A:Ad}
abbrev Eb:Stmt:=top 61
theorem Oj:cW ["run","target"] ["run","target"] (cS Eb):=fsc
def mN (q:Rs) (z:Int):Nat×Rs:=(0,{q with fol:=z.toNat})
theorem Ol (T:Tx c A) (D:Df c "go_to" Eb ["run","target"] A.hZ):Good c 1 "go_to" A.hZ (dq c A nA mN):=by
 refine D.good Oj ?_;rintro X H _ Q E rfl a sn hr ⟨W,q,z,rfl,R,ok,⟨t,rfl⟩,k⟩;refine⟨_,(cN (eP (vr sn 0) (vr sn 1) rfl) (cQ (cV (pc_ T.dB (gl sn))))),?_⟩;refine⟨_,rfl,_,rfl,W.r,_,W.dx,_,rfl,R.ins,T.cY,T.eU,(by show 13<1000;decide),?_⟩
 rw[vH];exact k _ (R.l.kY rfl rfl rfl rfl rfl) (.inl rfl) (dj.d7 (dj.refl _ _) (by simp[rmu]))
abbrev mv:Stmt:=top 62
theorem xh:cW ["run","target","taken"] ["run","target"] (cS mv):=fsc
def mw (q:Rs) (z:Int):Nat×Rs:=(0,if jI q=0 then {q with stack:=q.stack.drop 1,fol:=z.toNat}else {q with stack:=q.stack.drop 1})
theorem xi (T:Tx c A) (D:Df c "go_to_at_zero" mv ["run","target"] A.eF) (dI:dA c 1 A.da "take" (kZ c A)):
  Good c 2 "go_to_at_zero" A.eF (dq c A (fun q z=>AF q z/\nA q z) mw):=by
 refine D.good xh ?_;rintro X H _ Q E rfl a sn hr ⟨W,q,z,rfl,R,ok,⟨⟨b,s,e⟩,⟨t,rfl⟩⟩,k⟩;refine⟨_,(cN (pSt sn 2 (pm_ T.cY dI (hmo hr) (vr sn 0) (cK cT cO))) (cN (dX (rW (Dn hr.units) (ixL (vr sn 2) cT) (pc_ T.lA (gl sn)) (qP _)) (cQ (eP (vr sn 0) (vr sn 1) rfl)) dr) (cQ (cV (pc_ T.dB (gl sn)))))),?_⟩;have e0:jI q=b:=by unfold jI;rw[e];rfl
 unfold mw at k;rw[e0]at k;refine⟨_,rfl,W.r,W.dx,_,rfl,R.ins,rfl,W,q,1,rfl,R,by rw[e];exact Xs _,by decide,fun H1 p as R1 k1 hp h1 h2 ht=>?_⟩
 rw[show (q.stack.take 1).reverse= [.num b]from by rw[e];rfl]at h2
 obtain⟨x,rfl,hx⟩:=rE h2;refine⟨_,rfl,p,_,_,_,rfl,rfl,SqL.of h1,cX (j:=0) rfl,_,_,iP hx,iP (T.z6 _),eW _ _,eW _ _,_,rfl,?_⟩;rw[l0];have R2:=R1;by_cases hb:b=0
 .rw[aq hb]at k;rw[show decide (((vk (.num b),vn (.num b)):Int×Int)=(0,0))=true from aI (by rw[hb];rfl)]
  refine fm ⟨_,rfl,_,rfl,W.r,_,W.dx,_,rfl,R2.ins,T.cY,T.eU,(by show 13<1000;decide),?_⟩
  rw[vH];exact k _ (R2.kY rfl rfl rfl rfl rfl) (.inl rfl) (dj.d7 k1 (by simp[rmu]))
 .rw[aj hb]at k;rw[show decide (((vk (.num b),vn (.num b)):Int×Int)=(0,0))=false from ao (fun z=>hb (by injection z))]
  exact eY (k _ R2 (.inl rfl) k1)
abbrev lh:Stmt:=top 63
theorem t7:cW ["run","target"] ["run","target"] (cS lh):=fsc
def i6 (q:Rs) (z:Int):Nat×Rs:=if q.under.length=100 then (10,q)else (0,{q with under:=q.fol::q.under,fol:=z.toNat})
theorem t8 (T:Tx c A) (D:Df c "begin_procedure" lh ["run","target"] A.eZ):Good c 1 "begin_procedure" A.eZ (dq c A nA i6):=by
 refine D.good t7 ?_;rintro X H _ Q E rfl a sn hr ⟨W,q,z,rfl,R,ok,⟨t,rfl⟩,k⟩;refine⟨_,(cN (dX (iK iR (dv dk (gl sn) T.fE PySem.boot_len (cK (df (vr sn 0) rfl) cO)) (pc_ T.wG (gl sn))) (cQ (cV (pc_ T.rf (gl sn)))) dr) (cN (dH (jJ PySem.F.plainAttrs_list PySem.F.slot_list_append PySem.F.type_list_append fh (df (vr sn 0) rfl) (cK (df (vr sn 0) rfl) cO))) (cN (eP (vr sn 0) (vr sn 1) rfl) (cQ (cV (pc_ T.dB (gl sn))))))),?_⟩;refine⟨_,rfl,W.r,_,W.dx,_,_,rfl,R.ins,T.cY,T.fF,rfl,W.u,_,rfl,.inl (SqL.of R.und),rfl,_,rfl,?_⟩;rw[List.length_map,aB];unfold i6 at k;by_cases hb:q.under.length=100
 .rw[aq hb]at k;rw[show decide (V.int ((q.under.length:Nat):Int)=V.int 100)=true from aI (by rw[hb];rfl)]
  exact fm (k H R (.inr R.t) (.refl _ _))
 .rw[aj hb]at k;rw[show decide (V.int ((q.under.length:Nat):Int)=V.int 100)=false from ao (fun z=>hb (by injection z with z;omega))]
  refine eY ⟨_,rfl,W.r,_,W.dx,_,_,rfl,R.ins,T.cY,T.fF,rfl,.inl ⟨rfl,_,SqL.of R.und⟩,_,rfl,W.r,_,W.dx,_,_,rfl,R.ins,T.cY,T.eU,rfl,W.u,_,_,rfl,rfl,R.und,?_,?_⟩
  .rw[List.length_map,aB];exact aE ok.un (by decide)
  rw[show (q.under.reverse.map fun (n:Nat)=>V.int (n:Int))++ [V.int (q.fol:Int)]=(q.fol::q.under).reverse.map fun (n:Nat)=>V.int (n:Int)from by rw[aX,aA];rfl]
  have R2:=R.sC (us:=q.fol::q.under);refine⟨_,rfl,_,rfl,W.r,_,W.dx,_,rfl,R2.ins,T.cY,T.eU,(by show 13<1000;decide),?_⟩
  rw[vH];exact k _ (R2.kY rfl rfl rfl rfl rfl) (.inl rfl) (dj.d7 (dj.d7 (dj.refl _ _) (by simp[rmu])) (by simp[rmu]))
abbrev mx:Stmt:=top 64
theorem xj:cW ["run","settled"] ["run","settled"] (cS mx):=fsc
def oe (q:Rs) (z:Int):Nat×Rs:=(0,{q with under:=q.under.drop 1,fol:=q.under.headD 0})
theorem xk (T:Tx c A) (D:Df c "end_procedure" mx ["run","settled"] A.eG):Good c 1 "end_procedure" A.eG (dq c A (fun q _=>1<=q.under.length) oe):=by
 refine D.good xj ?_;rintro X H _ Q E rfl a sn hr ⟨W,q,z,rfl,R,ok,hu,k⟩;refine⟨_,(cN (eP (vr sn 0) (tq PySem.F.plainAttrs_list PySem.F.slot_list_pop PySem.F.type_list_pop wj (df (vr sn 0) rfl)) rfl) (cQ (cV (pc_ T.dB (gl sn))))),?_⟩;unfold oe at k;have und:=R.und;cases e:q.under with
 |nil=>rw[e]at hu;simp at hu
 |cons t us=>
  rw[e,aX,aA]at und;rw[e]at k;refine⟨_,rfl,W.r,_,W.dx,_,_,rfl,R.ins,T.cY,T.fF,rfl,.inl ⟨rfl,_,SqL.of und⟩,W.u,_,V.int (t:Int),rfl,rfl,und,by simp,?_⟩
  rw[show ((us.reverse.map fun (n:Nat)=>V.int (n:Int))++ [t].map fun (n:Nat)=>V.int (n:Int)).dropLast=us.reverse.map fun (n:Nat)=>V.int (n:Int)from by show ((us.reverse.map fun (n:Nat)=>V.int (n:Int))++ [V.int (t:Int)]).dropLast=_;rw[bU]]
  have R2:=R.sC (us:=us);refine⟨_,rfl,W.r,_,W.dx,_,rfl,R2.ins,T.cY,T.eU,(by show 13<1000;decide),?_⟩
  rw[vH];exact k _ (R2.kY rfl rfl rfl rfl rfl) (.inl rfl) (dj.d7 (dj.d7 (dj.refl _ _) (by simp[rmu])) (by simp[rmu]))
end
def fits (x:Str) (v:Lo.Val):Bool:=if decide (V.str x=V.str "n")=true then decide (V.int (vk v)=V.int 0)else if decide (V.str x=V.str "c")=true then decide (V.int (vk v)=V.int 2)else true
def sgn (n:Nat):Str:=⟨#[n]⟩
def fos (st:List Lo.Val) (w:Str):Nat:=if st.length<w.cps.size then 6 else if ((st.take w.cps.size).reverse.zip w.cps.toList).all (fun p=>fits (sgn p.2) p.1)=true then 0 else 7
section
variable {c:Ct} {A:Ad}
abbrev rG:Stmt:=top 80
theorem Ec:cW ["value","want"] ["value","want"] (cS rG):=fsc
inductive p9 (c:Ct) (vs:List V) (H:Hp) (Q:VK) (E:XK):Prop
 |mk:∀a v x,vs= [.ref a,.str x]->m9 c.K H a v->Q (.bl (fits x v)) H->p9 c vs H Q E
theorem Ed (T:Tx c A) (D:Df c "is_wanted" rG ["value","want"] A.kr):Good c 1 "is_wanted" A.kr (p9 c):=by
 refine D.good Ec ?_;rintro X H _ Q E rfl a sn hr ⟨av,v,x,rfl,hv,k⟩;refine⟨_,(cN (dX (iK iR (vr sn 1) gk) (cQ (cV (yn iR (ixT (vr sn 0) cT) (pc_ T.z5 (gl sn))))) dr) (cN (dX (iK iR (vr sn 1) gk) (cQ (cV (yn iR (ixT (vr sn 0) cT) (pc_ T.rg (gl sn))))) dr) (cQ (cV E8)))),?_⟩;unfold fits at k;refine⟨_,rfl,rfl,_,rfl,dd (fun h=>?_) (fun h=>?_)⟩
 .rw[aq h]at k;exact⟨_,rfl,av,_,_,_,rfl,rfl,hv,cX (j:=0) rfl,rfl,k⟩
 .rw[aj (by rw[h];decide)]at k
  refine⟨_,rfl,rfl,_,rfl,dd (fun h'=>?_) (fun h'=>?_)⟩
  .rw[aq h']at k;exact⟨_,rfl,av,_,_,_,rfl,rfl,hv,cX (j:=0) rfl,rfl,k⟩
  .rw[aj (by rw[h'];decide)]at k
   exact k
abbrev lN:Stmt:=top 79
theorem vI:cW ["stack","wanted","below","place","want"] ["stack","wanted"] (cS lN):=fsc
inductive lj (c:Ct) (vs:List V) (H:Hp) (Q:VK) (E:XK):Prop
 |mk:∀sa as st w,vs= [.ref sa,.str w]->H sa=some (.lst ((as:List Addr).map V.ref))->Vals c.K H as (List.reverse st)->w.cps.size<=10->(∀H',dR H H'->Q (.int ((fos st w:Nat):Int)) H')->lj c vs H Q E
theorem vJ (T:Tx c A) (D:Df c "fault_of_stack" lN ["stack","wanted"] A.gY) (rH:Good c 1 "is_wanted" A.kr (p9 c)):Good c 2 "fault_of_stack" A.gY (lj c):=by
 refine D.good vI ?_;rintro X H _ Q E rfl a sn hr ⟨sa,as,st,w,rfl,h1,h2,hw,k⟩;refine⟨_,(cN (pSt sn 2 (fB md (dv dk (gl sn) T.fE PySem.boot_len (cK (vr sn 0) cO)) (dv mC (gl sn) T.fE PySem.boot_len (cK (vr sn 1) cO)))) (cN (dX (iK L2.mV (vr sn 2) cT) (cQ (cV (pc_ T.wD (gl sn)))) dr) (cN (qO a.never a.calm (Nt (gl sn) T.ya (cK (vr sn 1) cO)) (Hq a.calm (oz (gNm sn 3) (oz (gNm sn 4) Dd))) (cQ (dX (lr (fJ (pf_ rH (hmo hr) (gl sn) (cK (ixL (vr sn 0) (fB iH (vr sn 2) (vr sn 3))) (cK (vr sn 4) cO))))) (cQ (cV (pc_ T.DH (gl sn)))) dr))) (cQ (cV (pc_ T.dB (gl sn))))))),?_⟩;have hl:(as.map V.ref).length=st.length:=by rw[List.length_map,Paired.length h2,aB]
 refine⟨_,rfl,sa,_,rfl,.inl (SqL.of h1),_,rfl,w,rfl,ai hw (by decide),_,_,rfl,rfl,?_⟩
 rw[hl];refine⟨_,rfl,_,_,rfl,rfl,_,rfl,dd (fun h=>?_) (fun h=>?_)⟩
 .have h:=aQ h;have h:st.length<w.cps.size:=by
   have e:w.length=w.cps.size:=rfl;omega
  rw[show fos st w=6 from aq h]at k;exact k H (.refl _)
 have h:=bj h;have e:w.length=w.cps.size:=rfl;have h:¬st.length<w.cps.size:=by omega
 unfold fos at k;rw[aj h]at k;refine⟨_,rfl,w,rfl,?_⟩;generalize hzz:(st.take w.cps.size).reverse.zip w.cps.toList=zz at k;have hzl:zz.length=w.cps.size:=by rw[<-hzz,Xg,aB,aV,bV (xs:=w.cps)];omega
 refine Ly (x:=w) (fun i σ H'=>∃(v1 v2:Option V),σ= [some (.ref sa),some (.str w),some (.int ((st.length:Int)-(w.cps.size:Int))),v1,v2]/\dR H H'/\(zz.take i).all (fun p=>fits (sgn p.2) p.1)=true) ?_ ?_ ?_
 .exact⟨_,_,rfl,.refl _,rfl⟩
 .rintro i cp σ H' t hcp ⟨v1,v2,rfl,s,kD⟩ ht;have hi:i<w.cps.size:=(Array.getElem?_eq_some_iff.mp hcp).1;obtain⟨u,hu⟩:∃u,(st.take w.cps.size).reverse[i]?=some u:=⟨_,af (by rw[aB,aV];omega)⟩
  have hz:zz[i]?=some (u,cp):=by
   rw[<-hzz,Wx];exact⟨hu,by rw[cz];exact hcp⟩
  have mB:st.reverse[st.length-w.cps.size+i]?=some u:=by
   rw[WV (by rw[aV];omega),aV,List.getElem?_take]at hu
   rw[WV (by omega)]
   rw[show st.length-1-(st.length-w.cps.size+i)=min w.cps.size st.length-1-i by omega]
   split at hu
   .exact hu
   .cases hu
  obtain⟨b,hb,hbv⟩:=gX h2 mB;have s2:dR H' (upd H' t (.tup [.int (i:Nat),.str ⟨#[cp]⟩])):=.dm ht;have s3:=s.trans s2;refine⟨t,_,rfl,SqT.of cP,rfl,_,_,rfl,_,_,rfl,rfl,?_⟩;refine⟨_,rfl,_,rfl,_,rfl,_,_,rfl,rfl,sa,_,_,V.ref b,rfl,rfl,SqL.of (s3 _ _ h1),?_,_,rfl,b,u,_,rfl,fT hbv s3,_,rfl,?_⟩
  .show atI (as.map V.ref) ((st.length:Int)-(w.cps.size:Int)+(i:Int))=_;rw[show (st.length:Int)-(w.cps.size:Int)+(i:Int)=((st.length-w.cps.size+i:Nat):Int) by omega]
   exact cX (by rw[aF,hb];rfl)
  refine ddn (fun hf=>?_) (fun hf=>?_)
  .have:zz.all (fun p=>fits (sgn p.2) p.1)=false:=by
    cases q:zz.all (fun p=>fits (sgn p.2) p.1)with
    |false=>rfl
    |true=>
     have:=bJ.mp q (u,cp) (aP hz)
     have this:fits ⟨#[cp]⟩ u=true:=this;rw[hf]at this;cases this
   rw[this]at k;exact k _ s3
  .refine⟨_,_,rfl,s3,?_⟩;rw[hX hz,List.all_append,kD];show (true&&(fits ⟨#[cp]⟩ u&&true))=true;rw[hf];rfl
 .rintro σ H' ⟨v1,v2,rfl,s,kD⟩;rw[<-hzl,WY]at kD;rw[kD]at k;exact k _ s
end
def opW (n:Nat):Str:=match n with
 |0=>""
 |1=>"v"
 |2=>"v"
 |3=>"vv"
 |4=>"vv"
 |5=>"vvv"
 |6=>""
 |7=>"nn"
 |8=>"nn"
 |9=>"nn"
 |10=>"nn"
 |11=>"nn"
 |12=>"nn"
 |13=>"vv"
 |14=>"vv"
 |15=>"vv"
 |16=>"c"
 |17=>"c"
 |18=>"v"
 |19=>"v"
 |20=>"n"
 |21=>""
 |22=>"n"
 |23=>""
 |24=>""
 |25=>""
 |26=>"n"
 |27=>""
 |28=>""
 |29=>""
 |_=>""
def opP (n:Nat):Rs->Int->Prop:=match n with
 |0=>ny
 |1=>(fe 1)
 |2=>(fe 1)
 |3=>(fe 2)
 |4=>(fe 2)
 |5=>(fe 3)
 |6=>ny
 |7=>i5
 |8=>i5
 |9=>i5
 |10=>i5
 |11=>i5
 |12=>i5
 |13=>(fe 2)
 |14=>(fe 2)
 |15=>(fe 2)
 |16=>AE
 |17=>AE
 |18=>(fe 1)
 |19=>(fe 1)
 |20=>AF
 |21=>ny
 |22=>(fun q z=>AF q z/\nA q z)
 |23=>nA
 |24=>nA
 |25=>nA
 |26=>(fun q z=>AF q z/\nA q z)
 |27=>nA
 |28=>(fun q _=>1<=q.under.length)
 |29=>(fun q _=>1<=q.under.length)
 |_=>ny
def opM (n:Nat):Rs->Int->Nat×Rs:=match n with
 |0=>As
 |1=>(gj 1 [0,0])
 |2=>(gj 1 [])
 |3=>(gj 2 [1,0])
 |4=>(gj 2 [0,1,0])
 |5=>(gj 3 [1,2,0])
 |6=>Au
 |7=>(mn (·+·))
 |8=>(mn (·-·))
 |9=>(mn (·*·))
 |10=>(jQ Int.fdiv)
 |11=>(jQ Int.fmod)
 |12=>(ox fun q=>decide (sN q<jI q))
 |13=>(ox fun q=>Lo.alike q.cs.toArray (q.stack.getD 1 .nil) (q.stack.getD 0 .nil))
 |14=>(ox fun q=>Lo.same (q.stack.getD 1 .nil) (q.stack.getD 0 .nil))
 |15=>pY
 |16=>(mL Lo.Cell.first)
 |17=>(mL Lo.Cell.rest)
 |18=>zl
 |19=>mr
 |20=>lg
 |21=>(fun q _=>fg [10] 0 q)
 |22=>mw
 |23=>mN
 |24=>mN
 |25=>mN
 |26=>mw
 |27=>mN
 |28=>oe
 |29=>oe
 |_=>fun q _=>(0,q)
def qu:Lo.Kind->Str
 | .number _=>""
 | .op n=>opW n
 | .get _=>""
 | .set _=>"v"
 | .name=>""
 | .none_=>""
def Tt:Lo.Kind->Rs->Int->Prop
 | .number _=>fun _ z=>Lo.isValue z=true
 | .op n=>opP n
 | .get _=>yf
 | .set _=>fun q z=>yf q z/\fe 1 q z
 | .name=>nA
 | .none_=>ny
def vK:Lo.Kind->Rs->Int->Nat×Rs
 | .number _=>oP
 | .op n=>opM n
 | .get _=>D9
 | .set _=>AH
 | .name=>i6
 | .none_=>fun q _=>(0,q)
structure Ee (c:Ct) (A:Ad):Prop where
 give_number:Good c 4 "give_number" A.eM (dq c A (fun _ z=>Lo.isValue z=true) oP)
 give_empty:Good c 4 "give_empty" A.gQ (dq c A ny As)
 dup:Good c 5 "dup" A.u7 (dq c A (fe 1) (gj 1 [0,0]))
 drop:Good c 5 "drop" A.pj (dq c A (fe 1) (gj 1 []))
 swap:Good c 5 "swap" A.pk (dq c A (fe 2) (gj 2 [1,0]))
 over:Good c 5 "over" A.pq (dq c A (fe 2) (gj 2 [0,1,0]))
 rot:Good c 5 "rot" A.u9 (dq c A (fe 3) (gj 3 [1,2,0]))
 depth:Good c 5 "depth" A.mG (dq c A ny Au)
 add:Good c 6 "add" A.vc (dq c A i5 (mn (·+·)))
 subtract:Good c 6 "subtract" A.je (dq c A i5 (mn (·-·)))
 multiply:Good c 6 "multiply" A.jf (dq c A i5 (mn (·*·)))
 divide:Good c 6 "divide" A.kI (dq c A i5 (jQ Int.fdiv))
 remain:Good c 6 "remain" A.kJ (dq c A i5 (jQ Int.fmod))
 less:Good c 7 "less" A.px (dq c A i5 (ox fun q=>decide (sN q<jI q)))
 alike_words:Good c 7 "alike_words" A.fX (dq c A (fe 2) (ox fun q=>Lo.alike q.cs.toArray (q.stack.getD 1 .nil) (q.stack.getD 0 .nil)))
 same:Good c 7 "same" A.pz (dq c A (fe 2) (ox fun q=>Lo.same (q.stack.getD 1 .nil) (q.stack.getD 0 .nil)))
 pair:Good c 4 "pair" A.pA (dq c A (fe 2) pY)
 first:Good c 4 "first" A.mH (dq c A AE (mL Lo.Cell.first))
 rest:Good c 4 "rest" A.pB (dq c A AE (mL Lo.Cell.rest))
 kind:Good c 5 "kind" A.pC (dq c A (fe 1) zl)
 give_variable:Good c 4 "give_variable" A.ft (dq c A yf D9)
 set_variable:Good c 4 "set_variable" A.fL (dq c A (fun q z=>yf q z/\fe 1 q z) AH)
 say:Good c 3 "say" A.vd (dq c A (fe 1) mr)
 put:Good c 3 "put" A.vf (dq c A AF lg)
 end_line:Good c 3 "end_line" A.jg (dq c A ny (fun q _=>fg [10] 0 q))
 go_to:Good c 1 "go_to" A.hZ (dq c A nA mN)
 go_to_at_zero:Good c 2 "go_to_at_zero" A.eF (dq c A (fun q z=>AF q z/\nA q z) mw)
 begin_procedure:Good c 1 "begin_procedure" A.eZ (dq c A nA i6)
 end_procedure:Good c 1 "end_procedure" A.eG (dq c A (fun q _=>1<=q.under.length) oe)
theorem Om (t:Lo.Tok):tM (dZ t)=match Lo.kindOf t.b with
  | .number _=>Str.ofString "a number"
  | .get _=>Str.ofString "@ variable"
  | .set _=>Str.ofString "! variable"
  | .name=>Str.ofString "a name"
  |_=>dZ t:=by
 unfold tM;rw[jj,<-Km.il]
 all_goals (cases Lo.kindOf t.b<;>rfl)
section
variable {X:Cx} {A:Ad} {kk:Nat}
theorem c30:∀n,n<30->n=0\/n=1\/n=2\/n=3\/n=4\/n=5\/n=6\/n=7\/n=8\/n=9\/n=10\/n=11\/n=12\/n=13\/n=14\/n=15\/n=16\/n=17\/n=18\/n=19\/n=20\/n=21\/n=22\/n=23\/n=24\/n=25\/n=26\/n=27\/n=28\/n=29:=by decide
theorem Tu (T:Tx (ct X) A) (G:Ee (ct X) A) (hr:iI kk X.A) (hk:7<=kk) {t:Lo.Tok} {n:Nat} (h:Lo.kindOf t.b= .op n):
  ∃e f,fC (m3 A) (.inr (dZ t))=some (.ref e)/\(∀H,SqT X.K H e [.str (opW n),.ref f])/\Can X f (dq (ct X) A (opP n) (opM n))/\PySem.W.keepIn X.K (.ref f)=true:=by
 have hn:=mV h;have cs:=c30 n hn;rcases cs with rfl|rfl|rfl|rfl|rfl|rfl|rfl|rfl|rfl|rfl|rfl|rfl|rfl|rfl|rfl|rfl|rfl|rfl|rfl|rfl|rfl|rfl|rfl|rfl|rfl|rfl|rfl|rfl|rfl|rfl
 .exact⟨A.iq,A.gQ,by rw[fj (s:=Str.ofString "()") h (by decide+kernel)];rfl,T.iq,dO G.give_empty hr (ai (by decide) hk)⟩
 .exact⟨A.ir,A.u7,by rw[fj (s:=Str.ofString "dup") h (by decide+kernel)];rfl,T.ir,dO G.dup hr (ai (by decide) hk)⟩
 .exact⟨A.iu,A.pj,by rw[fj (s:=Str.ofString "drop") h (by decide+kernel)];rfl,T.iu,dO G.drop hr (ai (by decide) hk)⟩
 .exact⟨A.iw,A.pk,by rw[fj (s:=Str.ofString "swap") h (by decide+kernel)];rfl,T.iw,dO G.swap hr (ai (by decide) hk)⟩
 .exact⟨A.iy,A.pq,by rw[fj (s:=Str.ofString "over") h (by decide+kernel)];rfl,T.iy,dO G.over hr (ai (by decide) hk)⟩
 .exact⟨A.iz,A.u9,by rw[fj (s:=Str.ofString "rot") h (by decide+kernel)];rfl,T.iz,dO G.rot hr (ai (by decide) hk)⟩
 .exact⟨A.iA,A.mG,by rw[fj (s:=Str.ofString "depth") h (by decide+kernel)];rfl,T.iA,dO G.depth hr (ai (by decide) hk)⟩
 .exact⟨A.iB,A.vc,by rw[fj (s:=Str.ofString "+") h (by decide+kernel)];rfl,T.iB,dO G.add hr (ai (by decide) hk)⟩
 .exact⟨A.iC,A.je,by rw[fj (s:=Str.ofString "-") h (by decide+kernel)];rfl,T.iC,dO G.subtract hr (ai (by decide) hk)⟩
 .exact⟨A.gn,A.jf,by rw[fj (s:=Str.ofString "*") h (by decide+kernel)];rfl,T.gn,dO G.multiply hr (ai (by decide) hk)⟩
 .exact⟨A.gp,A.kI,by rw[fj (s:=Str.ofString "/") h (by decide+kernel)];rfl,T.gp,dO G.divide hr (ai (by decide) hk)⟩
 .exact⟨A.gq,A.kJ,by rw[fj (s:=Str.ofString "mod") h (by decide+kernel)];rfl,T.gq,dO G.remain hr (ai (by decide) hk)⟩
 .exact⟨A.gu,A.px,by rw[fj (s:=Str.ofString "<") h (by decide+kernel)];rfl,T.gu,dO G.less hr (ai (by decide) hk)⟩
 .exact⟨A.gv,A.fX,by rw[fj (s:=Str.ofString "=") h (by decide+kernel)];rfl,T.gv,dO G.alike_words hr (ai (by decide) hk)⟩
 .exact⟨A.gw,A.pz,by rw[fj (s:=Str.ofString "same") h (by decide+kernel)];rfl,T.gw,dO G.same hr (ai (by decide) hk)⟩
 .exact⟨A.gy,A.pA,by rw[fj (s:=Str.ofString "pair") h (by decide+kernel)];rfl,T.gy,dO G.pair hr (ai (by decide) hk)⟩
 .exact⟨A.gz,A.mH,by rw[fj (s:=Str.ofString "first") h (by decide+kernel)];rfl,T.gz,dO G.first hr (ai (by decide) hk)⟩
 .exact⟨A.gA,A.pB,by rw[fj (s:=Str.ofString "rest") h (by decide+kernel)];rfl,T.gA,dO G.rest hr (ai (by decide) hk)⟩
 .exact⟨A.gB,A.pC,by rw[fj (s:=Str.ofString "kind") h (by decide+kernel)];rfl,T.gB,dO G.kind hr (ai (by decide) hk)⟩
 .exact⟨A.gE,A.vd,by rw[fj (s:=Str.ofString "say") h (by decide+kernel)];rfl,T.gE,dO G.say hr (ai (by decide) hk)⟩
 .exact⟨A.gF,A.vf,by rw[fj (s:=Str.ofString "put") h (by decide+kernel)];rfl,T.gF,dO G.put hr (ai (by decide) hk)⟩
 .exact⟨A.gG,A.jg,by rw[fj (s:=Str.ofString "cr") h (by decide+kernel)];rfl,T.gG,dO G.end_line hr (ai (by decide) hk)⟩
 .exact⟨A.gH,A.eF,by rw[fj (s:=Str.ofString "if") h (by decide+kernel)];rfl,T.gH,dO G.go_to_at_zero hr (ai (by decide) hk)⟩
 .exact⟨A.gI,A.hZ,by rw[fj (s:=Str.ofString "else") h (by decide+kernel)];rfl,T.gI,dO G.go_to hr (ai (by decide) hk)⟩
 .exact⟨A.gJ,A.hZ,by rw[fj (s:=Str.ofString "end") h (by decide+kernel)];rfl,T.gJ,dO G.go_to hr (ai (by decide) hk)⟩
 .exact⟨A.gK,A.hZ,by rw[fj (s:=Str.ofString "while") h (by decide+kernel)];rfl,T.gK,dO G.go_to hr (ai (by decide) hk)⟩
 .exact⟨A.gL,A.eF,by rw[fj (s:=Str.ofString "do") h (by decide+kernel)];rfl,T.gL,dO G.go_to_at_zero hr (ai (by decide) hk)⟩
 .exact⟨A.gM,A.hZ,by rw[fj (s:=Str.ofString ":") h (by decide+kernel)];rfl,T.gM,dO G.go_to hr (ai (by decide) hk)⟩
 .exact⟨A.gO,A.eG,by rw[fj (s:=Str.ofString ";") h (by decide+kernel)];rfl,T.gO,dO G.end_procedure hr (ai (by decide) hk)⟩
 .exact⟨A.gP,A.eG,by rw[fj (s:=Str.ofString "leave") h (by decide+kernel)];rfl,T.gP,dO G.end_procedure hr (ai (by decide) hk)⟩
theorem Tv (T:Tx (ct X) A) (G:Ee (ct X) A) (hr:iI kk X.A) (hk:7<=kk) {t:Lo.Tok} (hn:Lo.kindOf t.b≠ .none_):
  ∃e f,fC (m3 A) (.inr (tM (dZ t)))=some (.ref e)/\(∀H,SqT X.K H e [.str (qu (Lo.kindOf t.b)),.ref f])/\Can X f (dq (ct X) A (Tt (Lo.kindOf t.b)) (vK (Lo.kindOf t.b)))/\PySem.W.keepIn X.K (.ref f)=true:=by
 rw[Om];cases h:Lo.kindOf t.b with
 |none_=>exact absurd h hn
 |number z=>exact⟨A.ip,A.eM,rfl,T.ip,dO G.give_number hr (ai (by decide) hk)⟩
 |op n=>exact Tu T G hr hk h
 |get x=>exact⟨A.gC,A.ft,rfl,T.gC,dO G.give_variable hr (ai (by decide) hk)⟩
 |set x=>exact⟨A.gD,A.fL,rfl,T.gD,dO G.set_variable hr (ai (by decide) hk)⟩
 |name=>exact⟨A.gN,A.eZ,rfl,T.gN,dO G.begin_procedure hr (ai (by decide) hk)⟩
end
theorem jH {st:List Lo.Val} {w:Str} (h:fos st w=0):w.cps.size<=st.length:=by
 unfold fos at h;split at h
 .cases h
 .omega
theorem Ef {st:List Lo.Val} {w:Str} (h:fos st w=0):((st.take w.cps.size).reverse.zip w.cps.toList).all (fun p=>fits (sgn p.2) p.1)=true:=by
 unfold fos at h;split at h
 .cases h
 .split at h
  .assumption
  .cases h
theorem IS {v:Lo.Val} (h:fits (sgn 110) v=true):∃a,v= .num a:=by
 cases v with
 |num a=>exact⟨a,rfl⟩
 |nil=>exact absurd h (by decide)
 |cell i=>
  have:fits (sgn 110) (.cell i)=false:=by show (if decide (V.str (sgn 110)=V.str "n")=true then decide (V.int 2=V.int 0)else _)=false;rw[aq (by decide)];decide
  rw[this]at h;cases h
theorem Tw {v:Lo.Val} (h:fits (sgn 99) v=true):∃a,v= .cell a:=by
 cases v with
 |cell a=>exact⟨a,rfl⟩
 |nil=>exact absurd h (by decide)
 |num i=>
  have:fits (sgn 99) (.num i)=false:=by show (if decide (V.str (sgn 99)=V.str "n")=true then _ else if decide (V.str (sgn 99)=V.str "c")=true then decide (V.int 0=V.int 2)else _)=false;rw[aj (by decide),aq (by decide)];decide
  rw[this]at h;cases h
theorem Oo {st:List Lo.Val} (h:fos st "n"=0):∃a s,st= .num a::s:=by
 have hl:1<=st.length:=jH h;cases st with
 |nil=>simp at hl
 |cons v s=>
  have hf:(fits (sgn 110) v&&true)=true:=Ef h;rw[cv]at hf;obtain⟨a,rfl⟩:=IS hf;exact⟨a,s,rfl⟩
theorem RR {st:List Lo.Val} (h:fos st "c"=0):∃a s,st= .cell a::s:=by
 have hl:1<=st.length:=jH h;cases st with
 |nil=>simp at hl
 |cons v s=>
  have hf:(fits (sgn 99) v&&true)=true:=Ef h;rw[cv]at hf;obtain⟨a,rfl⟩:=Tw hf;exact⟨a,s,rfl⟩
theorem xl {st:List Lo.Val} (h:fos st "nn"=0):∃a b s,st= .num b:: .num a::s:=by
 have hl:2<=st.length:=jH h;cases st with
 |nil=>simp at hl
 |cons v s=>
  cases s with
  |nil=>simp at hl
  |cons u s=>
   have hf:(fits (sgn 110) u&&(fits (sgn 110) v&&true))=true:=Ef h;rw[cv,aH]at hf;obtain⟨a,rfl⟩:=IS hf.1;obtain⟨b,rfl⟩:=IS hf.2;exact⟨a,b,s,rfl⟩
def Extra:Lo.Kind->Rs->Int->Prop
 | .number _=>fun _ z=>Lo.isValue z=true
 | .op n=>fun q z=>nA q z/\(28<=n->1<=q.under.length)
 | .get _=>yf
 | .set _=>yf
 | .name=>nA
 | .none_=>fun _ _=>False
theorem KN {κ:Lo.Kind} {q:Rs} {z:Int} (hκ:∀n,κ= .op n->n<30) (h:fos q.stack (qu κ)=0) (e:Extra κ q z):Tt κ q z:=by
 cases κ with
 |number _=>exact e
 |get _=>exact e
 |set _=>exact⟨e,jH (w:="v") h⟩
 |name=>exact e
 |none_=>exact e.elim
 |op n=>
  have hn:=hκ n rfl;obtain⟨t,hu⟩:=e;have cs:=c30 n hn;rcases cs with rfl|rfl|rfl|rfl|rfl|rfl|rfl|rfl|rfl|rfl|rfl|rfl|rfl|rfl|rfl|rfl|rfl|rfl|rfl|rfl|rfl|rfl|rfl|rfl|rfl|rfl|rfl|rfl|rfl|rfl
  .exact trivial
  .exact jH (w:="v") h
  .exact jH (w:="v") h
  .exact jH (w:="vv") h
  .exact jH (w:="vv") h
  .exact jH (w:="vvv") h
  .exact trivial
  .exact xl h
  .exact xl h
  .exact xl h
  .exact xl h
  .exact xl h
  .exact xl h
  .exact jH (w:="vv") h
  .exact jH (w:="vv") h
  .exact jH (w:="vv") h
  .exact RR h
  .exact RR h
  .exact jH (w:="v") h
  .exact jH (w:="v") h
  .exact Oo h
  .exact trivial
  .exact⟨Oo h,t⟩
  .exact t
  .exact t
  .exact t
  .exact⟨Oo h,t⟩
  .exact t
  .exact hu (by decide)
  .exact hu (by decide)
theorem Oq (κ:Lo.Kind) (hκ:∀n,κ= .op n->n<30):(qu κ).cps.size<=10:=by
 cases κ with
 |op n=>
  have hn:=hκ n rfl;have:∀n<30,(opW n).cps.size<=10:=by decide+kernel
  exact this n hn
 |_=>show (Str.ofString _).cps.size<=10;decide
def ll (t:Lo.Tok) (tg:Nat) (q:Rs):Nat×Rs:=if q.done=3000 then (11,q)else if fos q.stack (qu (Lo.kindOf t.b))=0 then vK (Lo.kindOf t.b) q (jY (dZ t) (tg:Int))else (fos q.stack (qu (Lo.kindOf t.b)),q)
section
variable {c:Ct} {A:Ad}
abbrev t9:Stmt:=top 78
theorem GF:cW ["run","step","action","fault","doing"] ["run"] (cS t9):=fsc
inductive rJ (c:Ct) (A:Ad) (vs:List V) (H:Hp) (Q:VK) (E:XK):Prop
 |mk:∀W q t tg,vs= [.ref (RA.r W)]->fO c A H W q->Rok q->W.l[q.pos]?=some t->W.tg[q.pos]?=some tg->Extra (Lo.kindOf t.b) q (jY (dZ t) ((tg:Nat):Int))->(∀H',fb c A H' W (ll t tg q).2->((ll t tg q).1=0\/H' W.t=some (.lst []))->dj (rmu W) H H'->Q (.int (((ll t tg q).1:Nat):Int)) H')->rJ c A vs H Q E
theorem GG (T:Tx c A) (D:Df c "try_word" t9 ["run"] A.lB) (lO:Good c 2 "fault_of_stack" A.gY (lj c)) (G:Ee c A):Good c 8 "try_word" A.lB (rJ c A):=by
 refine D.good GF ?_;rintro X H _ Q E rfl a sn hr ⟨W,q,t,tg,rfl,R,ok,ht,htg,hx,k⟩;refine⟨_,(cN (dX (iK iR (df (vr sn 0) rfl) (pc_ T.tI (gl sn))) (cQ (cV (pc_ T.wF (gl sn)))) dr) (cN (pSt sn 1 (ixL (df (df (vr sn 0) rfl) rfl) (df (vr sn 0) rfl))) (cN (pSt sn 2 (zg (pc_ T.jo (gl sn)) (ixT (vr sn 1) cT) (fun _ _=>rfl))) (cN (pSt sn 3 (pf_ lO (hmo hr) (gl sn) (cK (df (vr sn 0) rfl) (cK (ixT (vr sn 2) cT) cO)))) (cN (dX (iK Cw (vr sn 3) (pc_ T.dB (gl sn))) (cQ (cV (vr sn 3))) dr) (cN (pSt sn 4 (ixT (vr sn 2) cT)) (cQ (cV (zX 4 (cK (vr sn 0) (cK (ixT (vr sn 1) cT) cO)) (nx sn 4) (nq sn 4).v))))))))),?_⟩
 unfold ll at k;refine⟨_,rfl,W.r,_,W.dx,_,_,rfl,R.ins,T.cY,T.fz,rfl,rfl,_,rfl,dd (fun h=>?_) (fun h=>?_)⟩
 .have h:=aQ h;rw[aq (by injection h with h;omega)]at k
  exact k H R (.inr R.t) (.refl _ _)
 have h:=bj h;rw[aj (fun z=>h (by rw[z];rfl))]at k
 obtain⟨ss,p1,p2⟩:=R.prog.steps;have hz:(W.l.zip W.tg)[q.pos]?=some (t,tg):=by rw[Wx];exact⟨ht,htg⟩
 obtain⟨sb,hsb,hsv⟩:=gX p2 hz;have nM:Lo.kindOf t.b≠ .none_:=fun z=>by rw[z]at hx;exact hx
 have h30:∀n,Lo.kindOf t.b= .op n->n<30:=fun n z=>mV z
 obtain⟨e,f,hv,he,hcan,hkp⟩:=Tv (X:=X) T G hr (au _) nM;obtain⟨as,s1,s2⟩:=R.stk;refine⟨_,rfl,W.r,_,W.dx,_,_,rfl,R.ins,T.cY,T.hR,rfl,W.g,_,W.dg,_,_,rfl,R.prog.ins,T.m4,T.i4,rfl,_,rfl,W.r,_,W.dx,_,_,rfl,R.ins,T.cY,T.fQ,rfl,W.ps,_,_,V.ref sb,rfl,rfl,SqL.of p1,cX (by rw[aF,hsb];rfl),?_⟩
 refine⟨_,rfl,sb,_,_,_,rfl,rfl,SqT.of hsv,cX (j:=0) rfl,_,_,rfl,⟨_,.inr (tM (dZ t)),T.wH,rfl,hv.symm⟩,?_⟩;refine⟨_,rfl,W.r,_,W.dx,_,_,rfl,R.ins,T.cY,T.ff,rfl,_,rfl,e,_,_,_,rfl,rfl,he H,cX (j:=0) rfl,W.s,as,q.stack,qu (Lo.kindOf t.b),rfl,s1,s2,Oq _ h30,fun H1 sm=>?_⟩
 have R1:=R.same sm;refine⟨_,rfl,rfl,_,rfl,?_⟩;by_cases hf:fos q.stack (qu (Lo.kindOf t.b))=0
 .rw[aq hf]at k;rw[hf];refine eY ⟨_,rfl,e,_,_,_,rfl,rfl,he H1,cX (j:=1) rfl,?_⟩;refine⟨f,rfl,hkp,_,rfl,_,rfl,sb,_,_,_,rfl,rfl,SqT.of (sm _ _ hsv),cX (j:=1) rfl,_,hcan,W,q,_,rfl,R1,ok,KN h30 hf hx,fun H2 R2 t2 k2=>k _ R2 t2 ((dj.of sm).trans k2)⟩
 .rw[aj hf]at k;rw[show decide (V.int ((fos q.stack (qu (Lo.kindOf t.b)):Nat):Int)=V.int 0)=false from ao (fun z=>hf (by injection z with z;omega))]
  exact fm ⟨_,rfl,k _ R1 (.inr R1.t) (.of sm)⟩
end
def alv (q:Rs):Nat:=q.stack.length+(nzv q.vars+(q.under.length+Lo.reached q.cs.toArray (q.stack++q.vars)))
def oR (q:Rs):Rs:={q with done:=q.done+1,pos:=q.fol}
def IT (q:Rs):Rs:={q with full:=max q.full (alv q)}
def fG (t:Lo.Tok) (tg:Nat) (q:Rs):Rs:=
 let r:=ll t tg {q with fol:=q.pos+1}
 if r.1=0 then IT (oR r.2)else {r.2 with fault:=r.1}
theorem Ot (W:RA) (q:Rs) (t:Nat):dE "fullest" (.int (t:Int)) (kX W q)=kX W {q with full:=t}:=rfl
section
variable {c:Ct} {A:Ad}
theorem fb.back {H H':Hp} {W:RA} {q:Rs} {p:Addr} (R:fb c A H' W q) (k:dj (rmu W) H H') (hp:H' p=none):H p=none:=by
 cases e:H p with
 |none=>rfl
 |some o=>
  by_cases hm:p∈rmu W
  .obtain⟨o',e'⟩:=R.old p (l3 W p hm);rw[hp]at e';cases e'
  .rw[k _ _ e hm]at hp;cases hp
theorem LX {W:RA} {t b:Addr} (h:b∈rmu {W with t:=t}):b=t\/b∈rmu W:=by
 simp only[rmu,ag,aJ,bw]at h⊢;rcases h with h|h|h|h|h|h|h|h|h|h|h|h<;>simp[h]
theorem IU {W:RA} {t b:Addr} (h:b∈rmu W) (n:b≠W.t):b∈rmu {W with t:=t}:=by
 simp only[rmu,ag,aJ,bw]at h⊢;rcases h with h|h|h|h|h|h|h|h|h|h|h|h<;>first|exact absurd h n|simp[h]
theorem Tz {H H1 H2:Hp} {W:RA} {t:Addr} (k:dj (rmu W) H H1) (ht:t=W.t\/H t=none) (k2:dj (rmu {W with t:=t}) H1 H2):dj (rmu W) H H2:=fun b o e n=>
 k2 b o (k b o e n) fun z=>by
  rcases LX z with z|z
  .rcases ht with ht|ht
   .exact n (by rw[z,ht];simp[rmu])
   .rw[z,ht]at e;cases e
  .exact n z
theorem TB {H H1:Hp} {W:RA} {t t2:Addr} {q:Rs} (R:fb c A H1 {W with t:=t} q) (k:dj (rmu W) H H1) (ht:t=W.t\/H t=none) (h2:t2=t\/H1 t2=none):t2=W.t\/H t2=none:=by
 rcases h2 with rfl|h2
 .exact ht
 .by_cases e0:t2=W.t
  .exact .inl e0
  .right
   cases e:H t2 with
   |none=>rfl
   |some o=>
    by_cases hm:t2∈rmu W
    .obtain⟨o',e'⟩:=R.old t2 (l3 _ t2 (IU hm e0));rw[h2]at e';cases e'
    .rw[k _ _ e hm]at h2;cases h2
abbrev s_alive:Stmt:=top 75
theorem Ou:cW ["run"] ["run"] (cS s_alive):=fsc
inductive vL (c:Ct) (A:Ad) (vs:List V) (H:Hp) (Q:VK) (E:XK):Prop
 |mk:∀W q,vs= [.ref (RA.r W)]->fO c A H W q->Q (.int ((alv q:Nat):Int)) H->vL c A vs H Q E
theorem Ov (T:Tx c A) (D:Df c "alive" s_alive ["run"] A.pD):Good c 1 "alive" A.pD (vL c A):=by
 refine D.good Ou ?_;rintro X H _ Q E rfl a sn hr ⟨W,q,rfl,R,k⟩;refine⟨_,(cQ (cV (fB iH (fB iH (fB iH (dv dk (gl sn) T.fE PySem.boot_len (cK (df (vr sn 0) rfl) cO)) (df (vr sn 0) rfl)) (dv dk (gl sn) T.fE PySem.boot_len (cK (df (vr sn 0) rfl) cO))) (df (df (vr sn 0) rfl) rfl)))),?_⟩;have Rx:=R.x;obtain⟨as,s1,s2⟩:=Rx.stk;obtain⟨ho,sh,d,xs,c1,c2,c3⟩:=Rx.cel;have hreach:=c3.reached c1.wf;have hl:(as.map V.ref).length=q.stack.length:=by rw[List.length_map,Paired.length s2,aB]
 have hu:(q.under.reverse.map fun (n:Nat)=>V.int (n:Int)).length=q.under.length:=by rw[List.length_map,aB]
 refine⟨_,rfl,W.r,_,W.dx,_,_,rfl,R.ins,T.cY,T.ff,rfl,W.s,_,rfl,.inl (SqL.of s1),_,rfl,W.r,_,W.dx,_,_,rfl,R.ins,T.cY,T.d8,rfl,_,_,rfl,rfl,_,rfl,W.r,_,W.dx,_,_,rfl,R.ins,T.cY,T.fF,rfl,W.u,_,rfl,.inl (SqL.of R.und),_,_,rfl,rfl,
  _,rfl,W.r,_,W.dx,_,_,rfl,R.ins,T.cY,T.eQ,rfl,W.L.c,_,W.L.dx,_,_,rfl,c1.ins,T.dw,T.js,rfl,_,_,rfl,rfl,?_⟩
 rw[hl,hu];show Q (V.int ((q.stack.length:Int)+((nzv q.vars:Nat):Int)+(q.under.length:Int)+((Hm.hd ho:Nat):Int))) H;rw[show ((q.stack.length:Int)+((nzv q.vars:Nat):Int)+(q.under.length:Int)+((Hm.hd ho:Nat):Int))=((alv q:Nat):Int)from ?_]
 .exact k
 unfold roots at hreach;rw[WC]at hreach;unfold alv;omega
abbrev rK:Stmt:=top 77
theorem Eg:cW ["run","fault"] ["run"] (cS rK):=fsc
inductive qa (c:Ct) (A:Ad) (vs:List V) (H:Hp) (Q:VK) (E:XK):Prop
 |mk:∀W q t tg,vs= [.ref (RA.r W)]->fO c A H W q->Rok q->W.l[q.pos]?=some t->W.tg[q.pos]?=some tg->Extra (Lo.kindOf t.b) q (jY (dZ t) ((tg:Nat):Int))->(fG t tg q).cs.length<=10000->(∀H' t',fO c A H' {W with t:=t'} (fG t tg q)->dj (rmu W) H H'->(t'=W.t\/H t'=none)->ml H H'->Q .non H')->qa c A vs H Q E
theorem Eh (T:Tx c A) (D:Df c "carry_out" rK ["run"] A.kq) (ub:Good c 8 "try_word" A.lB (rJ c A)) (sD:Good c 1 "alive" A.pD (vL c A)) (jC:dA c 3 A.da "let_go_of_taken" (ki c A)):Good c 9 "carry_out" A.kq (qa c A):=by
 refine D.good Eg ?_;rintro X H _ Q E rfl a sn hr ⟨W,q,t,tg,rfl,R,ok,ht,htg,hx,hcs,k⟩;refine⟨_,(cN (eP (vr sn 0) (fB iH (df (vr sn 0) rfl) cT) rfl) (cN (pSt sn 1 (pf_ ub (hmo hr) (gl sn) (cK (vr sn 0) cO))) (cQ (dX (iK Cw (vr sn 1) (pc_ T.dB (gl sn))) (cQ (eP (vr sn 0) (vr sn 1) rfl)) (cN (oB (vr sn 0) cT Hu) (cN (eP (vr sn 0) (df (vr sn 0) rfl) rfl) (cN (dH (F7 T.cY jC (hmo hr) (vr sn 0))) (cQ (eP (vr sn 0) (dv (K9 a.calm) (gl sn) T.Vd PyProof.Rows.boot_max (cK (df (vr sn 0) rfl) (cK (pf_ sD (hmo hr) (gl sn) (cK (vr sn 0) cO)) cO))) rfl))))))))),?_⟩;refine⟨_,rfl,W.r,_,W.dx,_,_,rfl,R.ins,T.cY,T.fQ,rfl,_,_,rfl,rfl,_,rfl,W.r,_,W.dx,_,rfl,R.ins,T.cY,T.eU,(by show 13<1000;decide),?_⟩
 rw[show V.int (((q.pos:Nat):Int)+1)=V.int ((q.pos+1:Nat):Int)from rfl,vH];have R1:fO (ct X) A (upd H W.r (.ins A.da W.dx (kX W {q with fol:=q.pos+1}))) W {q with fol:=q.pos+1}:=R.kY rfl rfl rfl rfl rfl
 have k0:dj (rmu W) H (upd H W.r (.ins A.da W.dx (kX W {q with fol:=q.pos+1}))):=dj.d7 (dj.refl _ _) (by simp[rmu])
 have ok1:Rok {q with fol:=q.pos+1}:=⟨ok.stk,ok.vrs,ok.ces,ok.len,ok.nv,ok.ln,ok.ou,ok.un⟩
 have hx1:Extra (Lo.kindOf t.b) {q with fol:=q.pos+1} (jY (dZ t) ((tg:Nat):Int)):=by
  revert hx;cases Lo.kindOf t.b<;>exact fun z=>z
 refine⟨_,rfl,W,_,t,tg,rfl,R1,ok1,ht,htg,hx1,fun H2 R2 t2 k2=>?_⟩
 unfold fG at k hcs;dsimp only at k hcs;generalize ll t tg {q with fol:=q.pos+1}=r at R2 t2 k hcs⊢
 refine⟨_,rfl,rfl,_,rfl,?_⟩;by_cases hr0:r.1=0
 .rw[aq hr0]at k hcs;rw[hr0];refine eY ⟨_,rfl,W.r,_,W.dx,_,_,rfl,R2.ins,T.cY,T.fz,rfl,_,_,rfl,rfl,W.dx,_,R2.ins,(by show 13<1000;decide),?_⟩
  rw[show V.int ((r.2.done:Nat)+1:Int)=V.int ((r.2.done+1:Nat):Int)from rfl,Oi];have R3:fb (ct X) A (upd H2 W.r (.ins A.da W.dx (kX W {r.2 with done:=r.2.done+1}))) W {r.2 with done:=r.2.done+1}:=R2.kY rfl rfl rfl rfl rfl
  refine⟨_,rfl,W.r,_,W.dx,_,_,rfl,R3.ins,T.cY,T.eU,rfl,_,rfl,W.r,_,W.dx,_,rfl,R3.ins,T.cY,T.fQ,(by show 13<1000;decide),?_⟩
  rw[QE];have R4:fb (ct X) A _ W (oR r.2):=R3.kY (q':=oR r.2) rfl rfl rfl rfl rfl;have k4:dj (rmu W) H (upd (upd H2 W.r (.ins A.da W.dx (kX W {r.2 with done:=r.2.done+1}))) W.r (.ins A.da W.dx (kX W (oR r.2)))):=dj.d7 (dj.d7 (k0.trans k2) (by simp[rmu])) (by simp[rmu])
  refine⟨_,rfl,W.r,W.dx,_,rfl,R4.ins,rfl,W,oR r.2,rfl,R4,hcs,fun H5 t' R5 k5 hn g5=>?_⟩
  refine⟨_,rfl,W.r,_,W.dx,_,_,rfl,R5.ins,T.cY,T.i3,rfl,_,rfl,{W with t:=t'},oR r.2,rfl,R5,_,_,rfl,_,rfl,W.r,_,W.dx,_,rfl,R5.ins,T.cY,T.i3,(by show 13<1000;decide),?_⟩
  rw[show V.int (if ((alv (oR r.2):Nat):Int)>(((oR r.2).full:Nat):Int)then ((alv (oR r.2):Nat):Int)else (((oR r.2).full:Nat):Int))=V.int ((max (oR r.2).full (alv (oR r.2)):Nat):Int)from congrArg V.int (by split<;>omega),Ot]
  refine k _ t' (R5.kY (q':=IT (oR r.2)) rfl rfl rfl rfl rfl) (dj.d7 (k4.trans k5) (by simp[rmu])) (.inr (R4.back k4 hn)) (ml.upd (ml.trans (ml.keep k4 fun p hp=>R4.old p (l3 W p hp)) g5))
 .rw[aj hr0]at k;rw[show decide (V.int ((r.1:Nat):Int)=V.int 0)=false from ao (fun z=>hr0 (by injection z with z;omega))]
  refine fm ⟨_,rfl,_,rfl,W.r,_,W.dx,_,rfl,R2.ins,T.cY,T.jX,(by show 13<1000;decide),?_⟩
  rw[LW];have R3:fO (ct X) A H2 W r.2:=⟨R2,t2.resolve_left hr0⟩;exact k _ W.t (R3.kY rfl rfl rfl rfl rfl) (dj.d7 (k0.trans k2) (by simp[rmu])) (.inl rfl) (ml.upd (ml.keep (k0.trans k2) fun p hp=>R2.old p (l3 W p hp)))
abbrev uc:Stmt:=top 73
theorem GH:cW ["run"] ["run"] (cS uc):=fsc
def du (W:RA) (q:Rs):Nat:=if q.fault=0 then (if q.pos=W.l.length then 1 else 0)else 2
inductive l9 (c:Ct) (A:Ad) (vs:List V) (H:Hp) (Q:VK) (E:XK):Prop
 |mk:∀W q,vs= [.ref (RA.r W)]->fb c A H W q->W.tg.length=W.l.length->W.l.length<=10000->Q (.int ((du W q:Nat):Int)) H->l9 c A vs H Q E
theorem GI (T:Tx c A) (D:Df c "standing" uc ["run"] A.jM):Good c 1 "standing" A.jM (l9 c A):=by
 refine D.good GH ?_;rintro X H _ Q E rfl a sn hr ⟨W,q,rfl,R,hl,hl2,k⟩;refine⟨_,(cN (dX (iK Cw (df (vr sn 0) rfl) (pc_ T.dB (gl sn))) (cQ (cV (pc_ T.z7 (gl sn)))) dr) (cN (dX (iK iR (df (vr sn 0) rfl) (dv dk (gl sn) T.fE PySem.boot_len (cK (df (df (vr sn 0) rfl) rfl) cO))) (cQ (cV (pc_ T.F9 (gl sn)))) dr) (cQ (cV (pc_ T.yc (gl sn)))))),?_⟩;unfold du at k;refine⟨_,rfl,W.r,_,W.dx,_,_,rfl,R.ins,T.cY,T.jX,rfl,rfl,_,rfl,?_⟩;by_cases hf:q.fault=0
 .rw[aq hf]at k;rw[hf];obtain⟨ss,p1,p2⟩:=R.prog.steps;have hsl:(ss.map V.ref).length=W.l.length:=by rw[List.length_map,Paired.length p2,Xg,hl];exact Nat.min_self _
  refine eY ⟨_,rfl,W.r,_,W.dx,_,_,rfl,R.ins,T.cY,T.fQ,rfl,_,rfl,W.r,_,W.dx,_,_,rfl,R.ins,T.cY,T.hR,rfl,W.g,_,W.dg,_,_,rfl,R.prog.ins,T.m4,T.i4,rfl,W.ps,_,rfl,.inl (SqL.of p1),rfl,_,rfl,?_⟩;rw[hsl];by_cases hp:q.pos=W.l.length
  .rw[aq hp]at k;rw[show decide (V.int ((q.pos:Nat):Int)=V.int ((W.l.length:Nat):Int))=true from aI (by rw[hp])]
   exact fm k
  .rw[aj hp]at k;rw[show decide (V.int ((q.pos:Nat):Int)=V.int ((W.l.length:Nat):Int))=false from ao (fun z=>hp (by injection z with z;omega))]
   exact eY k
 .rw[aj hf]at k;rw[show decide (V.int ((q.fault:Nat):Int)=V.int 0)=false from ao (fun z=>hf (by injection z with z;omega))]
  exact fm k
abbrev my:Stmt:=top 74
theorem xm:cW ["run"] ["run"] (cS my):=fsc
inductive j3 (c:Ct) (A:Ad) (vs:List V) (H:Hp) (Q:VK) (E:XK):Prop
 |mk:∀W q t,vs= [.ref (RA.r W)]->fb c A H W q->W.l[q.pos]?=some t->Q (.int ((t.at_:Nat):Int)) H->j3 c A vs H Q E
theorem xn (T:Tx c A) (D:Df c "place_of_next" my ["run"] A.gi):Good c 1 "place_of_next" A.gi (j3 c A):=by
 refine D.good xm ?_;rintro X H _ Q E rfl a sn hr ⟨W,q,t,rfl,R,ht,k⟩;refine⟨_,(cQ (cV (ixL (df (df (vr sn 0) rfl) rfl) (df (vr sn 0) rfl)))),?_⟩;exact⟨_,rfl,W.r,_,W.dx,_,_,rfl,R.ins,T.cY,T.hR,rfl,W.g,_,W.dg,_,_,rfl,R.prog.ins,T.m4,T.jF,rfl,_,rfl,W.r,_,W.dx,_,_,rfl,R.ins,T.cY,T.fQ,rfl,W.pp,_,_,_,rfl,rfl,SqL.of R.prog.places,cX (v:=V.int ((t.at_:Nat):Int)) (by rw[aF,ht];rfl),k⟩
def eO (W:RA) (q:Rs):Rs:=match W.l[q.pos]?,W.tg[q.pos]? with
 |some t,some tg=>fG t tg q
 |_,_=>q
def lq (W:RA):Nat->Rs->Rs
 |0,q=>q
 |n+1,q=>if du W q=0 then lq W n (eO W q)else q
def RT (W:RA) (I:Rs->Prop):Prop:=∀q,I q->Rok q/\(du W q=0->(∃t tg,W.l[q.pos]?=some t/\W.tg[q.pos]?=some tg/\Extra (Lo.kindOf t.b) q (jY (dZ t) ((tg:Nat):Int)))/\I (eO W q))
abbrev Ei:Stmt:=top 76
theorem Ow:cW ["run","most","left"] ["run","most"] (cS Ei):=fsc
inductive AI (c:Ct) (A:Ad) (vs:List V) (H:Hp) (Q:VK) (E:XK):Prop
 |mk:∀W q n,∀I:Rs->Prop,vs= [.ref (RA.r W),.int ((n:Nat):Int)]->fO c A H W q->W.tg.length=W.l.length->W.l.length<=10000->RT W I->I q->(∀H' t',fO c A H' {W with t:=t'} (lq W n q)->I (lq W n q)->dj (rmu W) H H'->(t'=W.t\/H t'=none)->ml H H'->Q .non H')->AI c A vs H Q E
theorem Ox (T:Tx c A) (D:Df c "go_on" Ei ["run","most"] A.sk) (jl:Good c 1 "standing" A.jM (l9 c A)) (rL:Good c 9 "carry_out" A.kq (qa c A)):Good c 10 "go_on" A.sk (AI c A):=by
 refine D.good Ow ?_;rintro X H _ Q E rfl a sn hr ⟨W,q,n,I,rfl,R,hl,hl2,hI,hq,k⟩;refine⟨_,(cN (pSt sn 2 (vr sn 1)) (cQ (qN a.never (Ho (iK oA (vr sn 2) cT) (Dc (iK iR (pf_ jl (hmo hr) (gl sn) (cK (vr sn 0) cO)) (pc_ T.yc (gl sn))))).pt (cN (dH (pf_ rL (hmo hr) (gl sn) (cK (vr sn 0) cO))) (cQ (Si sn.nd (nx sn 2) (nq sn 2).l cT Mw (.inl (a.fn _)))))))),?_⟩;refine⟨_,rfl,?_⟩
 let Pv:L2.St->Hp->Prop:=fun σ H'=>∃(m:Nat) (q':Rs) (t':Addr),σ= [some (.ref W.r),some (.int (n:Int)),some (.int (m:Int))]/\fO (ct X) A H' {W with t:=t'} q'/\I q'/\dj (rmu W) H H'/\(t'=W.t\/H t'=none)/\ml H H'/\lq W m q'=lq W n q
 let mu':L2.St->Hp->Nat:=fun σ _=>match σ[2]? with
  |some (some (V.int m))=>m.toNat
  |_=>0
 refine Fe Pv mu' ?_ ?_ ?_
 .exact⟨n,q,W.t,rfl,R,hq,.refl _ _,.inl rfl,.refl _,rfl⟩
 .rintro σ H' ⟨m,q',t',rfl,R',hq',kp,ht',gr,hgo⟩;refine⟨_,rfl,_,_,rfl,rfl,_,rfl,?_⟩;cases m with
  |zero=>
   refine eY (eY ?_);have e:q'=lq W n q:=hgo;rw[e]at R' hq';exact k _ t' R' hq' kp ht' gr
  |succ m=>
   rw[show decide ((0:Int)<((m+1:Nat):Int))=true from aI (by omega)]
   refine fm ⟨_,rfl,{W with t:=t'},q',rfl,R',hl,hl2,rfl,_,rfl,?_⟩
   rw[show du {W with t:=t'} q'=du W q' from rfl]
   by_cases hs:du W q'=0
   .rw[hs];obtain⟨ok,hg⟩:=hI q' hq';obtain⟨⟨t,tg,ht,htg,hx⟩,hI2⟩:=hg hs;have ec:eO W q'=fG t tg q':=by unfold eO;rw[ht,htg]
    refine fm ⟨_,rfl,{W with t:=t'},q',t,tg,rfl,R',ok,ht,htg,hx,by rw[<-ec];exact ai (hI _ hI2).1.ln (by decide),fun H2 t2 R2 k2 hn2 g2=>?_⟩
    refine⟨_,rfl,_,_,rfl,rfl,⟨m,fG t tg q',t2,?_,R2,by rw[<-ec];exact hI2,Tz kp ht' k2,TB R'.l kp ht' hn2,gr.trans g2,?_⟩,?_⟩
    .show [_,_,some (V.int (((m+1:Nat):Int)-1))]=_;rw[show ((m+1:Nat):Int)-1=(m:Int) by omega]
    .rw[<-hgo,<-ec];show _=if du W q'=0 then lq W m (eO W q')else q'
     rw[aq hs]
    .show (((m+1:Nat):Int)-1).toNat<((m+1:Nat):Int).toNat;omega
   .rw[show decide (V.int ((du W q':Nat):Int)=V.int 0)=false from ao (fun z=>hs (by injection z with z;omega))]
    refine eY ?_;have e:q'=lq W n q:=by
     rw[<-hgo];show q'=if du W q'=0 then lq W m (eO W q')else q'
     rw[aj hs]
    rw[e]at R' hq';exact k _ t' R' hq' kp ht' gr
 .rintro σ H' Q1 Q2 hq12 ⟨v1,e1,i1,j1,e2,e3,b1,e4,h⟩;refine⟨v1,e1,i1,j1,e2,e3,b1,e4,?_⟩;cases b1 with
  |false=>exact eY (hq12 _ _ ((aj (by decide)).mp h))
  |true=>
   obtain⟨v2,g1,W2,q2,g2,g3,g4,g5,g6,b2,g7,h⟩:=(aq (rfl:true=true)).mp h;exact fm ⟨v2,g1,W2,q2,g2,g3,g4,g5,g6,b2,g7,hq12 _ _ h⟩
end
def eN (q:Rs) (m:Nat) (s:Lo.Stand):Lo.Run:=⟨q.pos,q.stack,q.vars,q.under,q.cs.toArray,q.out,q.done,m,s⟩
def sO (m:Nat) (s:Lo.Stand) (r:Nat×Rs):Except Nat Lo.Run:=if r.1=0 then .ok (eN {r.2 with pos:=r.2.fol} m s)else .error r.1
def comes (κ:Lo.Kind) (q:Rs) (z:Int) (m:Nat) (s:Lo.Stand):Except Nat Lo.Run:=if fos q.stack (qu κ)=0 then sO m s (vK κ {q with fol:=q.pos+1} z)else .error (fos q.stack (qu κ))
theorem xo (v:Lo.Val):fits (sgn 118) v=true:=by
 unfold fits;rw[aj (by decide),aj (by decide)]
theorem zm (a:Int):fits (sgn 110) (.num a)=true:=by
 unfold fits;rw[aq (by decide)];rfl
theorem zo:fits (sgn 110) .nil=false:=by decide
theorem zp (i:Nat):fits (sgn 110) (.cell i)=false:=by
 unfold fits;rw[aq (by decide)];rfl
theorem KO (i:Int):fits (sgn 99) (.num i)=false:=by
 unfold fits;rw[aj (by decide),aq (by decide)];rfl
theorem KP:fits (sgn 99) .nil=false:=by decide
theorem KQ (i:Nat):fits (sgn 99) (.cell i)=true:=by
 unfold fits;rw[aj (by decide),aq (by decide)];rfl
theorem yg (st:List Lo.Val):fos st ""=0:=by
 show (if st.length<0 then 6 else if _ then 0 else 7)=0
 rw[aj (by omega)]
 show (if ((st.take 0).reverse.zip []).all _=true then 0 else 7)=0
 simp
theorem GJ (v:Lo.Val) (s:List Lo.Val) (w:Str) (n:Nat) (h1:w.cps.size=1) (h2:w.cps.toList= [n]):fos (v::s) w=if fits (sgn n) v=true then 0 else 7:=by
 unfold fos;rw[h1,h2,aj (by simp)]
 show (if (fits (sgn n) v&&true)=true then 0 else 7)=_
 rw[cv]
theorem RU (v u:Lo.Val) (s:List Lo.Val) (w:Str) (n m:Nat) (h1:w.cps.size=2) (h2:w.cps.toList= [n,m]):fos (v::u::s) w=if (fits (sgn n) u&&fits (sgn m) v)=true then 0 else 7:=by
 unfold fos;rw[h1,h2,aj (by simp)]
 show (if (fits (sgn n) u&&(fits (sgn m) v&&true))=true then 0 else 7)=_
 rw[cv]
theorem AJ (v:Lo.Val) (s:List Lo.Val):fos (v::s) "v"=0:=by rw[GJ v s "v" 118 rfl rfl,xo];rfl
theorem vM (v u:Lo.Val) (s:List Lo.Val):fos (v::u::s) "vv"=0:=by rw[RU v u s "vv" 118 118 rfl rfl,xo,xo];rfl
theorem QF (v u x:Lo.Val) (s:List Lo.Val):fos (v::u::x::s) "vvv"=0:=by
 unfold fos;rw[aj (by show¬(_<3);simp)]
 show (if (fits (sgn 118) x&&(fits (sgn 118) u&&(fits (sgn 118) v&&true)))=true then 0 else 7)=0
 rw[xo,xo,xo];rfl
section
variable (l:List Lo.Tok) (q:Rs) (m:Nat) (s:Lo.Stand) (z:Int)
theorem c0:Lo.opOn l (eN q m s) 0=comes (.op 0) q z m s:=by
 show _=if fos q.stack ""=0 then _ else _
 rw[yg];rfl
theorem c6:Lo.opOn l (eN q m s) 6=comes (.op 6) q z m s:=by
 show _=if fos q.stack ""=0 then _ else _
 rw[yg];rfl
theorem c1:Lo.opOn l (eN q m s) 1=comes (.op 1) q z m s:=by
 obtain⟨st,vs,un,ou,cs,dn,ps,fo,fa⟩:=q;cases st with
 |nil=>rfl
 |cons a st=>show _=if fos (a::st) "v"=0 then _ else _;rw[AJ];rfl
theorem c2:Lo.opOn l (eN q m s) 2=comes (.op 2) q z m s:=by
 obtain⟨st,vs,un,ou,cs,dn,ps,fo,fa⟩:=q;cases st with
 |nil=>rfl
 |cons a st=>show _=if fos (a::st) "v"=0 then _ else _;rw[AJ];rfl
theorem c18:Lo.opOn l (eN q m s) 18=comes (.op 18) q z m s:=by
 obtain⟨st,vs,un,ou,cs,dn,ps,fo,fa⟩:=q;cases st with
 |nil=>rfl
 |cons a st=>show _=if fos (a::st) "v"=0 then _ else _;rw[AJ];cases a<;>rfl
theorem c3:Lo.opOn l (eN q m s) 3=comes (.op 3) q z m s:=by
 obtain⟨st,vs,un,ou,cs,dn,ps,fo,fa⟩:=q;cases st with
 |nil=>rfl
 |cons b st=>cases st with
  |nil=>rfl
  |cons a st=>show _=if fos (b::a::st) "vv"=0 then _ else _;rw[vM];rfl
theorem c4:Lo.opOn l (eN q m s) 4=comes (.op 4) q z m s:=by
 obtain⟨st,vs,un,ou,cs,dn,ps,fo,fa⟩:=q;cases st with
 |nil=>rfl
 |cons b st=>cases st with
  |nil=>rfl
  |cons a st=>show _=if fos (b::a::st) "vv"=0 then _ else _;rw[vM];rfl
theorem c13:Lo.opOn l (eN q m s) 13=comes (.op 13) q z m s:=by
 obtain⟨st,vs,un,ou,cs,dn,ps,fo,fa⟩:=q;cases st with
 |nil=>rfl
 |cons b st=>cases st with
  |nil=>rfl
  |cons a st=>show _=if fos (b::a::st) "vv"=0 then _ else _;rw[vM];rfl
theorem c14:Lo.opOn l (eN q m s) 14=comes (.op 14) q z m s:=by
 obtain⟨st,vs,un,ou,cs,dn,ps,fo,fa⟩:=q;cases st with
 |nil=>rfl
 |cons b st=>cases st with
  |nil=>rfl
  |cons a st=>show _=if fos (b::a::st) "vv"=0 then _ else _;rw[vM];rfl
theorem c15:Lo.opOn l (eN q m s) 15=comes (.op 15) q z m s:=by
 obtain⟨st,vs,un,ou,cs,dn,ps,fo,fa⟩:=q;cases st with
 |nil=>rfl
 |cons b st=>cases st with
  |nil=>rfl
  |cons a st=>
   show _=if fos (b::a::st) "vv"=0 then _ else _
   rw[vM];show Except.ok _=Except.ok _;congr 1;show Lo.Run.mk _ _ _ _ _ _ _ _ _=Lo.Run.mk _ _ _ _ _ _ _ _ _;congr 1;show cs.toArray.push _=(cs++ [_]).toArray;simp
theorem c5:Lo.opOn l (eN q m s) 5=comes (.op 5) q z m s:=by
 obtain⟨st,vs,un,ou,cs,dn,ps,fo,fa⟩:=q;cases st with
 |nil=>rfl
 |cons b st=>cases st with
  |nil=>rfl
  |cons a st=>cases st with
   |nil=>rfl
   |cons x st=>show _=if fos (b::a::x::st) "vvv"=0 then _ else _;rw[QF];rfl
theorem sE (n:Nat) (f:Int->Int->List Lo.Val->Except Nat Lo.Run) (e1:opW n="nn") (hs:∀a b st,q.stack= .num b:: .num a::st->f a b st=sO m s (opM n {q with fol:=q.pos+1} z)):
  Lo.two (eN q m s) f=comes (.op n) q z m s:=by
 unfold comes;rw[show qu (.op n)=opW n from rfl,e1];obtain⟨st,vs,un,ou,cs,dn,ps,fo,fa⟩:=q;cases st with
 |nil=>rfl
 |cons b st=>cases st with
  |nil=>cases b<;>rfl
  |cons a st=>
   show _=if fos (b::a::st) "nn"=0 then _ else Except.error (fos (b::a::st) "nn")
   rw[RU b a st "nn" 110 110 rfl rfl];cases b with
   |num b=>
    cases a with
    |num a=>rw[zm,zm];exact hs a b st rfl
    |nil=>rw[zo];rfl
    |cell i=>rw[zp];rfl
   |nil=>rw[zo,Xu];rfl
   |cell i=>rw[zp,Xu];rfl
theorem AK (y:Int) (a b:Lo.Val) (st:List Lo.Val) (e:q.stack=b::a::st):Lo.number (eN q m s) y st=sO m s (eD {q with fol:=q.pos+1} y):=by
 unfold Lo.number eD;split
 .show _=Except.ok _;show Except.ok _=Except.ok _;congr 1;show Lo.Run.mk _ _ _ _ _ _ _ _ _=Lo.Run.mk _ _ _ _ _ _ _ _ _;congr 1;show _=_::q.stack.drop 2;rw[e];rfl
 .rfl
theorem args_eq {q:Rs} {a b:Int} {st:List Lo.Val} (e:q.stack= .num b:: .num a::st):sN {q with fol:=q.pos+1}=a/\jI {q with fol:=q.pos+1}=b:=by
 unfold sN jI;dsimp only;rw[e];exact⟨rfl,rfl⟩
theorem c7:Lo.opOn l (eN q m s) 7=comes (.op 7) q z m s:=sE q m s z 7 _ rfl fun a b st e=>by
 obtain⟨h1,h0⟩:=args_eq e;show _=sO m s (eD _ (sN _+jI _));rw[h1,h0];exact AK q m s _ _ _ st e
theorem c8:Lo.opOn l (eN q m s) 8=comes (.op 8) q z m s:=sE q m s z 8 _ rfl fun a b st e=>by
 obtain⟨h1,h0⟩:=args_eq e;show _=sO m s (eD _ (sN _-jI _));rw[h1,h0];exact AK q m s _ _ _ st e
theorem c9:Lo.opOn l (eN q m s) 9=comes (.op 9) q z m s:=sE q m s z 9 _ rfl fun a b st e=>by
 obtain⟨h1,h0⟩:=args_eq e;show _=sO m s (eD _ (sN _*jI _));rw[h1,h0];exact AK q m s _ _ _ st e
theorem c10:Lo.opOn l (eN q m s) 10=comes (.op 10) q z m s:=sE q m s z 10 _ rfl fun a b st e=>by
 obtain⟨h1,h0⟩:=args_eq e;show _=sO m s (if jI _=0 then _ else eD _ (Int.fdiv (sN _) (jI _)))
 rw[h1,h0];split
 .rfl
 .exact AK q m s _ _ _ st e
theorem c11:Lo.opOn l (eN q m s) 11=comes (.op 11) q z m s:=sE q m s z 11 _ rfl fun a b st e=>by
 obtain⟨h1,h0⟩:=args_eq e;show _=sO m s (if jI _=0 then _ else eD _ (Int.fmod (sN _) (jI _)))
 rw[h1,h0];split
 .rfl
 .exact AK q m s _ _ _ st e
theorem c12:Lo.opOn l (eN q m s) 12=comes (.op 12) q z m s:=sE q m s z 12 _ rfl fun a b st e=>by
 obtain⟨h1,h0⟩:=args_eq e;show _=Except.ok (eN {q with stack:=Lo.oneOf (decide (sN {q with fol:=q.pos+1}<jI {q with fol:=q.pos+1}))::q.stack.drop 2,pos:=q.pos+1,fol:=q.pos+1} m s)
 rw[h1,h0,e];rfl
end
section
variable (l:List Lo.Tok) (q:Rs) (m:Nat) (s:Lo.Stand) (z:Int)
theorem GK (cs:List Lo.Cell) (i:Nat):cs.toArray.getD i Lo.noCell=cs.getD i Lo.noCell:=by
 simp[aS,ah]
theorem c16:Lo.opOn l (eN q m s) 16=comes (.op 16) q z m s:=by
 obtain⟨st,vs,un,ou,cs,dn,ps,fo,fa⟩:=q;cases st with
 |nil=>rfl
 |cons a st=>
  show _=if fos (a::st) "c"=0 then _ else Except.error (fos (a::st) "c")
  rw[GJ a st "c" 99 rfl rfl];cases a with
  |num a=>rw[KO];rfl
  |nil=>rw[KP];rfl
  |cell i=>
   rw[KQ];show Except.ok (Lo.Run.mk _ ((cs.toArray.getD i Lo.noCell).first::st) _ _ _ _ _ _ _)=Except.ok (Lo.Run.mk _ ((cs.getD i Lo.noCell).first::st) _ _ _ _ _ _ _);rw[GK];rfl
theorem c17:Lo.opOn l (eN q m s) 17=comes (.op 17) q z m s:=by
 obtain⟨st,vs,un,ou,cs,dn,ps,fo,fa⟩:=q;cases st with
 |nil=>rfl
 |cons a st=>
  show _=if fos (a::st) "c"=0 then _ else Except.error (fos (a::st) "c")
  rw[GJ a st "c" 99 rfl rfl];cases a with
  |num a=>rw[KO];rfl
  |nil=>rw[KP];rfl
  |cell i=>
   rw[KQ];show Except.ok (Lo.Run.mk _ ((cs.toArray.getD i Lo.noCell).rest::st) _ _ _ _ _ _ _)=Except.ok (Lo.Run.mk _ ((cs.getD i Lo.noCell).rest::st) _ _ _ _ _ _ _);rw[GK];rfl
theorem c19 (wf:Cm.WF q.cs) (hb:∀v∈q.stack,Cm.below v q.cs.length):Lo.opOn l (eN q m s) 19=comes (.op 19) q z m s:=by
 obtain⟨st,vs,un,ou,cs,dn,ps,fo,fa⟩:=q;cases st with
 |nil=>rfl
 |cons a st=>
  show _=if fos (a::st) "v"=0 then _ else _
  rw[AJ];have wf':Cm.WF (cs.toArray).toList:=by simpa using wf
  have hsl:=Cm.lZ wf' (v:=a) (by simpa using hb a (by simp))
  show (if 4096<Lo.longOf cs.toArray a then Except.error 12 else if 4096<ou.length+(Lo.said cs.toArray a).length then Except.error 12 else _)=sO m s (if 4096<ou.length+Lo.longOf cs.toArray a then _ else _)
  rw[hsl];by_cases h:4096<ou.length+Lo.longOf cs.toArray a
  .rw[aq h,aq h];split<;>rfl
  .rw[aj h,aj h,aj (by omega)];rfl
theorem c20:Lo.opOn l (eN q m s) 20=comes (.op 20) q z m s:=by
 obtain⟨st,vs,un,ou,cs,dn,ps,fo,fa⟩:=q;cases st with
 |nil=>rfl
 |cons a st=>
  show _=if fos (a::st) "n"=0 then _ else Except.error (fos (a::st) "n")
  rw[GJ a st "n" 110 rfl rfl];cases a with
  |nil=>rw[zo];rfl
  |cell i=>rw[zp];rfl
  |num a=>
   rw[zm];show (if a<0\/255<a then Except.error 8 else if 4096<ou.length+1 then Except.error 12 else _)=sO m s (if a<0\/255<a then _ else if 4096<ou.length+1 then _ else _)
   by_cases h:a<0\/255<a
   .rw[aq h,aq h];rfl
   .rw[aj h,aj h];by_cases h2:4096<ou.length+1
    .rw[aq h2,aq h2];rfl
    .rw[aj h2,aj h2];rfl
theorem c21:Lo.opOn l (eN q m s) 21=comes (.op 21) q z m s:=by
 show _=if fos q.stack ""=0 then _ else _
 rw[yg];show (if 4096<q.out.length+1 then Except.error 12 else _)=sO m s (if 4096<q.out.length+1 then _ else _)
 by_cases h2:4096<q.out.length+1
 .rw[aq h2,aq h2];rfl
 .rw[aj h2,aj h2];rfl
theorem Vl (n t:Nat) (e1:opW n="n") (e2:opM n=mw) (hn:n=22\/n=26) (ht:t=if n=22 then Lo.matchOf l (fun (m:Nat)=>m==Lo.ELSE||m==Lo.END) q.pos+1 else Lo.matchOf l (fun (m:Nat)=>m==Lo.END) q.pos+1):Lo.opOn l (eN q m s) n=comes (.op n) q (t:Int) m s:=by
 have e0:Lo.opOn l (eN q m s) n=(match q.stack with
  | .num z::st=>if z≠0 then Lo.give (eN q m s) st else if n=Lo.IF then Lo.goTo {eN q m s with stack:=st} (Lo.matchOf l (fun (m:Nat)=>m==Lo.ELSE||m==Lo.END) q.pos+1)else Lo.goTo {eN q m s with stack:=st} (Lo.matchOf l (fun (m:Nat)=>m==Lo.END) q.pos+1)
  |_::_=>.error 7
  | []=>.error 6):=by rcases hn with rfl|rfl<;>rfl
 rw[e0];unfold comes;rw[show qu (.op n)=opW n from rfl,e1,show vK (.op n)=opM n from rfl,e2];obtain⟨st,vs,un,ou,cs,dn,ps,fo,fa⟩:=q;cases st with
 |nil=>rfl
 |cons a st=>
  show _=if fos (a::st) "n"=0 then _ else Except.error (fos (a::st) "n")
  rw[GJ a st "n" 110 rfl rfl];cases a with
  |nil=>rw[zo];rfl
  |cell i=>rw[zp];rfl
  |num a=>
   rw[zm];show (if a≠0 then _ else if n=Lo.IF then _ else _)=sO m s (0,if a=0 then _ else _)
   by_cases h:a=0
   .rw[aj (by simp[h]),aq h]
    rcases hn with rfl|rfl
    .rw[aq rfl]at ht;rw[aq (by decide:(22:Nat)=Lo.IF),ht];rfl
    .rw[aj (by decide)]at ht
     rw[aj (by decide:¬(26:Nat)=Lo.IF),ht];rfl
   .rw[aq h,aj h];rfl
theorem QG (n t:Nat) (e1:opW n="") (e2:opM n=mN) (h:Lo.opOn l (eN q m s) n=Lo.goTo (eN q m s) t):Lo.opOn l (eN q m s) n=comes (.op n) q (t:Int) m s:=by
 rw[h];unfold comes;rw[show qu (.op n)=opW n from rfl,e1,show vK (.op n)=opM n from rfl,e2,yg];rfl
theorem Oy (n:Nat) (hn:n=28\/n=29) (hu:1<=q.under.length):Lo.opOn l (eN q m s) n=comes (.op n) q z m s:=by
 have e0:Lo.opOn l (eN q m s) n=Lo.back (eN q m s):=by rcases hn with rfl|rfl<;>rfl
 have e1:comes (.op n) q z m s=comes (.op 28) q z m s:=by rcases hn with rfl|rfl<;>rfl
 rw[e0,e1];show _=if fos q.stack ""=0 then _ else _
 rw[yg];obtain⟨st,vs,un,ou,cs,dn,ps,fo,fa⟩:=q;cases un with
 |nil=>simp at hu
 |cons k un=>rfl
theorem IV {t:Lo.Tok} {tg:List Nat} {reg:Nat->Bool} (R:Pz.Rt l tg reg) (ht:l[q.pos]?=some t) (wf:Cm.WF q.cs) (hb:∀v∈q.stack,Cm.below v q.cs.length) (hp:q.under.length<=100) (hu:reg q.pos=true->1<=q.under.length):
  Lo.wordOn l (eN q m s) t=comes (Lo.kindOf t.b) q (jY (dZ t) ((Pz.tgt l q.pos:Nat):Int)) m s:=by
 have hw:=R.word q.pos t ht;unfold Pz.Nc at hw;have es:∀z:Int,jY (dZ t) z=match Lo.kindOf t.b with
   | .number z=>z
   | .get n=>(n:Int)
   | .set n=>(n:Int)
   |_=>z:=fun z=>by
  unfold jY;rw[jj,<-Km.il]
  all_goals (cases Lo.kindOf t.b<;>rfl)
 rw[es];unfold Lo.wordOn;cases e:Lo.kindOf t.b with
 |none_=>rw[e]at hw;exact hw.elim
 |number y=>
  show _=if fos q.stack ""=0 then _ else _
  rw[yg];rfl
 |get x=>
  show _=if fos q.stack ""=0 then _ else _
  rw[yg];rfl
 |set x=>
  obtain⟨st,vs,un,ou,cs,dn,ps,fo,fa⟩:=q;cases st with
  |nil=>rfl
  |cons a st=>show _=if fos (a::st) "v"=0 then _ else _;rw[AJ];rfl
 |name=>
  rw[e]at hw;obtain⟨_,_,j,hj⟩:=hw;show _=if fos q.stack ""=0 then _ else _
  rw[yg];dsimp only;rw[hj];have etg:Pz.tgt l q.pos=j+1:=by unfold Pz.tgt;rw[ht];dsimp only;rw[e];dsimp only;rw[hj]
  rw[etg];show (if 100<=q.under.length then Except.error 10 else _)=sO m s (if q.under.length=100 then _ else _)
  by_cases h:q.under.length=100
  .rw[aq (by omega),aq h];rfl
  .rw[aj (by omega),aj h];rfl
 |op n=>
  rw[e]at hw;have hn:=mV e;have sY:Pz.i9 l q.pos n:=⟨t,ht,e⟩;have etg:=Pz.ly sY;have cs:=c30 n hn;dsimp only;rcases cs with rfl|rfl|rfl|rfl|rfl|rfl|rfl|rfl|rfl|rfl|rfl|rfl|rfl|rfl|rfl|rfl|rfl|rfl|rfl|rfl|rfl|rfl|rfl|rfl|rfl|rfl|rfl|rfl|rfl|rfl
  .exact c0 ..
  .exact c1 ..
  .exact c2 ..
  .exact c3 ..
  .exact c4 ..
  .exact c5 ..
  .exact c6 ..
  .exact c7 ..
  .exact c8 ..
  .exact c9 ..
  .exact c10 ..
  .exact c11 ..
  .exact c12 ..
  .exact c13 ..
  .exact c14 ..
  .exact c15 ..
  .exact c16 ..
  .exact c17 ..
  .exact c18 ..
  .exact c19 l q m s _ wf hb
  .exact c20 ..
  .exact c21 ..
  .exact Vl l q m s 22 _ rfl rfl (.inl rfl) etg
  .exact QG l q m s 23 _ rfl rfl (by rw[etg];rfl)
  .refine QG l q m s 24 _ rfl rfl ?_;rw[etg];show (match l[Lo.openOf l q.pos]? with
    |some t=>if Lo.isOp Lo.WHILE t=true then Lo.goTo (eN q m s) (Lo.openOf l q.pos)else Lo.goTo (eN q m s) (q.pos+1)
    |none=>Lo.goTo (eN q m s) (q.pos+1))=Lo.goTo (eN q m s) (match l[Lo.openOf l q.pos]? with
    |some u=>if Lo.isOp Lo.WHILE u=true then Lo.openOf l q.pos else q.pos+1
    |none=>q.pos+1)
   cases l[Lo.openOf l q.pos]? with
   |none=>rfl
   |some u=>dsimp only;split<;>rfl
  .exact QG l q m s 25 _ rfl rfl (by rw[etg];rfl)
  .exact Vl l q m s 26 _ rfl rfl (.inr rfl) etg
  .exact QG l q m s 27 _ rfl rfl (by rw[etg];rfl)
  .exact Oy l q m s _ 28 (.inl rfl) (hu (hw.2.2.2 (.inl rfl)))
  .exact Oy l q m s _ 29 (.inr rfl) (hu (hw.2.2.2 (.inr rfl)))
end
structure Cor (d:Nat) (q:Rs):Prop where
 stk:∀v∈q.stack,Vok q v
 vrs:∀v∈q.vars,Vok q v
 ces:VOK q.cs
 wf:Cm.WF q.cs
 nv:q.vars.length=26
 ou:q.out.length<=4096
 un:q.under.length<=100
 sd:q.stack.length<=d
 cd:q.cs.length<=d
theorem Cor.rok {d:Nat} {q:Rs} (h:Cor d q) (hd:d<=9000):Rok q:=⟨h.stk,h.vrs,h.ces,ai h.sd hd,h.nv,ai h.cd hd,h.ou,h.un⟩
theorem Cor.of {d:Nat} {q q':Rs} (h:Cor d q) (e1:q'.vars=q.vars) (e2:q'.cs=q.cs) (e3:q'.out.length<=4096) (e4:q'.under.length<=100) (h1:∀v∈q'.stack,Vok q v) (h2:q'.stack.length<=d+1):Cor (d+1) q':=by
 have vk:∀v,Vok q v->Vok q' v:=fun v z=>by unfold Vok at z⊢;rw[e2];exact z
 exact⟨fun v z=>vk v (h1 v z),fun v z=>by rw[e1]at z;exact vk v (h.vrs v z),by rw[e2];exact h.ces,by rw[e2];exact h.wf,by rw[e1];exact h.nv,e3,e4,h2,by rw[e2];have:=h.cd;omega⟩
theorem LY {z:Int} (h:z.natAbs<=10000):Lo.isValue z=true:=by
 unfold Lo.isValue Lo.WIDEST;simp only[aH,aY];omega
theorem LZ {q:Rs} {m:Nat} {ns:List Nat} (hm:m<=q.stack.length) (hn:∀n∈ns,n<m):∀v∈picks q m ns,v∈q.stack:=by
 intro v hv;unfold picks at hv;rcases bO.mp hv with hv|hv
 .rw[XJ]at hv;obtain⟨n,h1,rfl⟩:=bx.mp hv;have fH:n<(q.stack.take m).reverse.length:=by rw[aB,aV];have:=hn n h1;omega
  rw[ah,af fH];have:=bB fH;rw[XJ]at this;exact List.mem_of_mem_take this
 .exact bo hv
theorem L0 {q:Rs} {m:Nat} {ns:List Nat}:(picks q m ns).length=ns.length+(q.stack.length-m):=by
 unfold picks;rw[List.length_append,aB,List.length_map,aZ]
section
variable {d:Nat} {q:Rs} {z:Int}
theorem oS (h:Cor d q) {m:Nat} {ns:List Nat} (hm:m<=q.stack.length) (hn:∀n∈ns,n<m) (hl:ns.length<=m+1):Cor (d+1) (gj m ns q z).2:=
 h.of rfl rfl h.ou h.un (fun v hv=>h.stk v (LZ hm hn v hv)) (by show (picks q m ns).length<=d+1;rw[L0];have:=h.sd;omega)
theorem ma (h:Cor d q) {v:Lo.Val} {m:Nat} (hv:Vok q v):Cor (d+1) {q with stack:=v::q.stack.drop m}:=
 h.of rfl rfl h.ou h.un (fun u hu=>by
  rcases ag.mp hu with rfl|hu
  .exact hv
  .exact h.stk u (bo hu)) (by show (v::q.stack.drop m).length<=d+1;rw[aG,aZ];have:=h.sd;omega)
theorem qb (h:Cor d q) {y:Int} (h0:(eD q y).1=0):Cor (d+1) (eD q y).2:=by
 unfold eD at h0⊢;split at h0
 .rename_i hv
  rw[aq hv];exact ma h (m:=2) ⟨trivial,hv⟩
 .cases h0
theorem KR (h:Cor d q) {f:Int->Int->Int} (h0:(jQ f q z).1=0):Cor (d+1) (jQ f q z).2:=by
 unfold jQ at h0⊢;split at h0
 .cases h0
 .rename_i hv
  rw[aj hv];exact qb h h0
theorem Ej (h:Cor d q) (b:Rs->Bool):Cor (d+1) (ox b q z).2:=ma h (m:=2) ⟨trivial,by
 show Lo.isValue (if b q=true then 1 else 0)=true
 split<;>decide⟩
theorem ud {v:Lo.Val} {n m:Nat} (h:Cm.below v n) (l:n<=m):Cm.below v m:=h.mono l
theorem Oz (h:Cor d q) (hm:2<=q.stack.length):Cor (d+1) (pY q z).2:=by
 have a1:Vok q (q.stack.getD 1 .nil):=h.stk _ (by rw[ah,af (by omega)];exact bB _)
 have a0:Vok q (q.stack.getD 0 .nil):=h.stk _ (by rw[ah,af (by omega)];exact bB _)
 have hl:(pY q z).2.cs.length=q.cs.length+1:=by show (q.cs++ [_]).length=_;rw[List.length_append];rfl
 have vk:∀v,Vok q v->Vok (pY q z).2 v:=fun v hv=>⟨ud hv.1 (by rw[hl];omega),hv.2⟩
 refine⟨fun v hv=>?_,fun v hv=>vk v (h.vrs v hv),fun e he=>?_,h.wf.snoc a1.1 a0.1,h.nv,h.ou,h.un,?_,by rw[hl];have:=h.cd;omega⟩
 .rcases ag.mp hv with rfl|hv
  .exact⟨by show q.cs.length<_;rw[hl];omega,trivial⟩
  .exact vk v (h.stk v (bo hv))
 .rcases bO.mp he with he|he
  .exact h.ces e he
  .rw[bz]at he;subst he;exact⟨a1.2,a0.2⟩
 .show (Lo.Val.cell q.cs.length::q.stack.drop 2).length<=d+1;rw[aG,aZ];have:=h.sd;omega
theorem GL (h:Cor d q) (f:Lo.Cell->Lo.Val) (hf:(∀e,f e=e.first)\/∀e,f e=e.rest) (hp:AE q z):Cor (d+1) (mL f q z).2:=by
 obtain⟨i,s,e⟩:=hp;have hi:i<q.cs.length:=(h.stk (.cell i) (by rw[e];simp)).1
 have hce:q.cs[i]?=some q.cs[i]:=af hi;have hcel:AG q=q.cs[i]:=by unfold AG;rw[e];show q.cs.getD i _=_;rw[ah,hce];rfl
 refine ma h (m:=1) ?_;rw[hcel];have hwf:=h.wf i _ hce;have hok:=h.ces _ (bB hi);rcases hf with hf|hf
 .rw[hf];exact⟨ud hwf.1 (bg hi),hok.1⟩
 .rw[hf];exact⟨ud hwf.2 (bg hi),hok.2⟩
theorem CV (h:Cor d q) {row:Lo.Bytes} {m:Nat} (h0:(fg row m q).1=0):Cor (d+1) (fg row m q).2:=by
 unfold fg at h0⊢;split at h0
 .cases h0
 .rename_i hv
  rw[aj hv];exact h.of rfl rfl (by show (q.out++row).length<=4096;rw[List.length_append];omega) h.un (fun v hv=>h.stk v (bo hv)) (by show (q.stack.drop m).length<=d+1;rw[aZ];have:=h.sd;omega)
theorem QH (h:Cor d q) (hm:1<=q.stack.length) (h0:(mr q z).1=0):Cor (d+1) (mr q z).2:=by
 unfold mr at h0⊢;split at h0
 .cases h0
 .rename_i hv
  rw[aj hv];have a0:Vok q (q.stack.getD 0 .nil):=h.stk _ (by rw[ah,af (by omega)];exact bB _)
  have wf':Cm.WF (q.cs.toArray).toList:=by simpa using h.wf
  have hsl:=Cm.lZ wf' (v:=q.stack.getD 0 .nil) (by simpa using a0.1)
  exact h.of rfl rfl (by show (q.out++_).length<=4096;rw[List.length_append,hsl];omega) h.un (fun v hv=>h.stk v (bo hv)) (by show (q.stack.drop 1).length<=d+1;rw[aZ];have:=h.sd;omega)
theorem QI (h:Cor d q) (h0:(lg q z).1=0):Cor (d+1) (lg q z).2:=by
 unfold lg at h0⊢;split at h0
 .cases h0
 .rename_i hv
  rw[aj hv];exact CV h h0
theorem KS (h:Cor d q):Cor (d+1) (mw q z).2:=by
 have hl:(q.stack.drop 1).length<=d+1:=by rw[aZ];have:=h.sd;omega
 show Cor (d+1) (if jI q=0 then _ else _)
 split
 .exact h.of rfl rfl h.ou h.un (fun v hv=>h.stk v (bo hv)) hl
 .exact h.of rfl rfl h.ou h.un (fun v hv=>h.stk v (bo hv)) hl
theorem rM (h:Cor d q) {q':Rs} (e0:q'.stack=q.stack) (e1:q'.vars=q.vars) (e2:q'.cs=q.cs) (e3:q'.out=q.out) (e4:q'.under.length<=100):Cor (d+1) q':=
 h.of e1 e2 (by rw[e3];exact h.ou) e4 (by rw[e0];exact h.stk) (by rw[e0];have:=h.sd;omega)
theorem QJ (h:Cor d q) (hm:1<=q.stack.length):Cor (d+1) (AH q z).2:=by
 have a0:Vok q (q.stack.getD 0 .nil):=h.stk _ (by rw[ah,af (by omega)];exact bB _)
 refine⟨fun v hv=>h.stk v (bo hv),fun v hv=>?_,h.ces,h.wf,by show (q.vars.set _ _).length=26;rw[bF];exact h.nv,h.ou,h.un,by show (q.stack.drop 1).length<=d+1;rw[aZ];have:=h.sd;omega,by show q.cs.length<=d+1;have:=h.cd;omega⟩
 rcases List.mem_or_eq_of_mem_set hv with hv|rfl
 .exact h.vrs v hv
 .exact a0
theorem QK {κ:Lo.Kind} (h:Cor d q) (hd:d<=5000) (hκ:∀n,κ= .op n->n<30) (hp:Tt κ q z) (h0:(vK κ q z).1=0):Cor (d+1) (vK κ q z).2:=by
 cases κ with
 |number y=>exact ma h (m:=0) ⟨trivial,hp⟩
 |get x=>
  obtain⟨x,rfl,hx⟩:=hp;refine ma h (m:=0) (h.vrs _ ?_);rw[bp,ah,af (by rw[h.nv];exact hx)]
  exact bB _
 |set x=>exact QJ h hp.2
 |none_=>exact rM h rfl rfl rfl rfl h.un
 |name=>
  have h0:(i6 q z).1=0:=h0;show Cor (d+1) (i6 q z).2;unfold i6 at h0⊢;split at h0
  .cases h0
  .rename_i hv
   rw[aj hv];exact rM h rfl rfl rfl rfl (by show (q.fol::q.under).length<=100;rw[aG];have:=h.un;omega)
 |op n=>
  have hn:=hκ n rfl;have cs:=c30 n hn;rcases cs with rfl|rfl|rfl|rfl|rfl|rfl|rfl|rfl|rfl|rfl|rfl|rfl|rfl|rfl|rfl|rfl|rfl|rfl|rfl|rfl|rfl|rfl|rfl|rfl|rfl|rfl|rfl|rfl|rfl|rfl
  .exact ma h (m:=0) ⟨trivial,trivial⟩
  .exact oS (z:=z) h hp (by decide) (by decide)
  .exact oS (z:=z) h hp (by decide) (by decide)
  .exact oS (z:=z) h hp (by decide) (by decide)
  .exact oS (z:=z) h hp (by decide) (by decide)
  .exact oS (z:=z) h hp (by decide) (by decide)
  .exact ma h (m:=0) ⟨trivial,LY (by have:=h.sd;omega)⟩
  .exact qb h h0
  .exact qb h h0
  .exact qb h h0
  .exact KR h h0
  .exact KR h h0
  .exact Ej (z:=z) h _
  .exact Ej (z:=z) h _
  .exact Ej (z:=z) h _
  .exact Oz (z:=z) h hp
  .exact GL (z:=z) h _ (.inl fun _=>rfl) hp
  .exact GL (z:=z) h _ (.inr fun _=>rfl) hp
  .exact ma h (m:=1) ⟨trivial,by show Lo.isValue (vk _)=true;cases q.stack.getD 0 .nil<;>rfl⟩
  .exact QH (z:=z) h hp h0
  .exact QI (z:=z) h h0
  .exact CV h h0
  .exact KS (z:=z) h
  .exact rM h rfl rfl rfl rfl h.un
  .exact rM h rfl rfl rfl rfl h.un
  .exact rM h rfl rfl rfl rfl h.un
  .exact KS (z:=z) h
  .exact rM h rfl rfl rfl rfl h.un
  .exact rM h rfl rfl rfl rfl (by show (q.under.drop 1).length<=100;rw[aZ];have:=h.un;omega)
  .exact rM h rfl rfl rfl rfl (by show (q.under.drop 1).length<=100;rw[aZ];have:=h.un;omega)
end
def Num (q:Rs) (r:Nat×Rs):Prop:=(r.1≠0->r.2=q)/\r.2.done=q.done/\r.2.fault=q.fault/\r.2.pos=q.pos/\r.2.full=q.full
theorem AL (q:Rs) (y:Int):Num q (eD q y):=by
 unfold eD;split
 .exact⟨fun h=>absurd rfl h,rfl,rfl,rfl,rfl⟩
 .exact⟨fun _=>rfl,rfl,rfl,rfl,rfl⟩
theorem QL (q:Rs) (z:Int) (f:Int->Int->Int):Num q (jQ f q z):=by
 unfold jQ;split
 .exact⟨fun _=>rfl,rfl,rfl,rfl,rfl⟩
 .exact AL q _
theorem CW (q:Rs) (row:Lo.Bytes) (m:Nat):Num q (fg row m q):=by
 unfold fg;split
 .exact⟨fun _=>rfl,rfl,rfl,rfl,rfl⟩
 .exact⟨fun h=>absurd rfl h,rfl,rfl,rfl,rfl⟩
theorem QM (q:Rs) (z:Int):Num q (lg q z):=by
 unfold lg;split
 .exact⟨fun _=>rfl,rfl,rfl,rfl,rfl⟩
 .exact CW q _ _
theorem QN (q:Rs) (z:Int):Num q (mr q z):=by
 unfold mr;split
 .exact⟨fun _=>rfl,rfl,rfl,rfl,rfl⟩
 .exact⟨fun h=>absurd rfl h,rfl,rfl,rfl,rfl⟩
theorem L1 (q:Rs) (z:Int):Num q (i6 q z):=by
 unfold i6;split
 .exact⟨fun _=>rfl,rfl,rfl,rfl,rfl⟩
 .exact⟨fun h=>absurd rfl h,rfl,rfl,rfl,rfl⟩
theorem QO (q:Rs) (z:Int):Num q (mw q z):=by
 unfold mw;split
 .exact⟨fun h=>absurd rfl h,rfl,rfl,rfl,rfl⟩
 .exact⟨fun h=>absurd rfl h,rfl,rfl,rfl,rfl⟩
theorem KU (κ:Lo.Kind) (q:Rs) (z:Int):Num q (vK κ q z):=by
 have triv:∀r:Rs,r.done=q.done->r.fault=q.fault->r.pos=q.pos->r.full=q.full->Num q (0,r):=fun r h1 h2 h3 h4=>⟨fun h=>absurd rfl h,h1,h2,h3,h4⟩
 cases κ with
 |number y=>exact triv _ rfl rfl rfl rfl
 |get x=>exact triv _ rfl rfl rfl rfl
 |set x=>exact triv _ rfl rfl rfl rfl
 |none_=>exact triv _ rfl rfl rfl rfl
 |name=>exact L1 q z
 |op n=>
  show Num q (opM n q z);unfold opM;split
  all_goals first|exact triv _ rfl rfl rfl rfl|exact AL q _|exact QL q z _|exact CW q _ _|exact QM q z|exact QN q z|exact QO q z
def IW (q:Rs) (r:Nat×Rs):Prop:=r.2.fol=q.fol/\r.2.under=q.under
theorem yh (q:Rs) (y:Int):IW q (eD q y):=by unfold eD;split<;>exact⟨rfl,rfl⟩
theorem OA (q:Rs) (z:Int) (f:Int->Int->Int):IW q (jQ f q z):=by
 unfold jQ;split
 .exact⟨rfl,rfl⟩
 .exact yh q _
theorem AM (q:Rs) (row:Lo.Bytes) (m:Nat):IW q (fg row m q):=by unfold fg;split<;>exact⟨rfl,rfl⟩
theorem OB (q:Rs) (z:Int):IW q (lg q z):=by
 unfold lg;split
 .exact⟨rfl,rfl⟩
 .exact AM q _ _
theorem OC (q:Rs) (z:Int):IW q (mr q z):=by unfold mr;split<;>exact⟨rfl,rfl⟩
theorem QP (n:Nat) (hn:n<=21) (q:Rs) (z:Int):IW q (opM n q z):=by
 have cs:=c30 n (by omega)
 rcases cs with rfl|rfl|rfl|rfl|rfl|rfl|rfl|rfl|rfl|rfl|rfl|rfl|rfl|rfl|rfl|rfl|rfl|rfl|rfl|rfl|rfl|rfl|rfl|rfl|rfl|rfl|rfl|rfl|rfl|rfl
 all_goals first|omega|exact⟨rfl,rfl⟩|exact yh q _|exact OA q z _|exact AM q _ _|exact OB q z|exact OC q z
def nG (reg:Nat->Bool) (n:Nat):Nat->List Nat->Prop
 |a,[]=>reg a=false/\a<=n
 |a,k::s=>reg a=true/\a<=n/\nG reg n k s
theorem nG.move {reg:Nat->Bool} {n a b:Nat} {u:List Nat} (h:nG reg n a u) (e:reg b=reg a) (hb:b<=n):nG reg n b u:=by
 cases u with
 |nil=>exact⟨by rw[e];exact h.1,hb⟩
 |cons k s=>exact⟨by rw[e];exact h.1,hb,h.2.2⟩
theorem nG.in_ {reg:Nat->Bool} {n a:Nat} {u:List Nat} (h:nG reg n a u) (e:reg a=true):1<=u.length:=by
 cases u with
 |nil=>have:=h.1;rw[e]at this;cases this
 |cons k s=>simp
theorem nG.le {reg:Nat->Bool} {n a:Nat} {u:List Nat} (h:nG reg n a u):a<=n:=by
 cases u with
 |nil=>exact h.2
 |cons k s=>exact h.2.1
theorem GN (t:Lo.Tok) (z:Int):jY (dZ t) z=match Lo.kindOf t.b with
   | .number z=>z
   | .get n=>(n:Int)
   | .set n=>(n:Int)
   |_=>z:=by
 unfold jY;rw[jj,<-Km.il]
 all_goals (cases Lo.kindOf t.b<;>rfl)
theorem QQ {l:List Lo.Tok} {tg:List Nat} {reg:Nat->Bool} (R:Pz.Rt l tg reg) {q:Rs} {t:Lo.Tok} (ht:l[q.pos]?=some t) (hr:nG reg l.length q.pos q.under) (hf:q.fol=q.pos+1)
  (h0:(vK (Lo.kindOf t.b) q (jY (dZ t) ((Pz.tgt l q.pos:Nat):Int))).1=0):
  nG reg l.length (vK (Lo.kindOf t.b) q (jY (dZ t) ((Pz.tgt l q.pos:Nat):Int))).2.fol (vK (Lo.kindOf t.b) q (jY (dZ t) ((Pz.tgt l q.pos:Nat):Int))).2.under:=by
 have hw:=R.word q.pos t ht;have fH:=(aa.mp ht).1;have hle:=R.le q.pos fH;unfold Pz.Nc at hw;rw[GN]at h0⊢;have yi:∀r:Nat×Rs,IW q r->reg (q.pos+1)=reg q.pos->nG reg l.length r.2.fol r.2.under:=fun r hs e=>by
  rw[hs.1,hs.2,hf];exact hr.move e (by omega)
 cases e:Lo.kindOf t.b with
 |none_=>rw[e]at hw;exact hw.elim
 |number y=>rw[e]at hw;exact yi _ ⟨rfl,rfl⟩ hw.2
 |get x=>rw[e]at hw;exact yi _ ⟨rfl,rfl⟩ hw
 |set x=>rw[e]at hw;exact yi _ ⟨rfl,rfl⟩ hw
 |name=>
  rw[e]at hw h0;obtain⟨e1,e2,_⟩:=hw;have h0:(i6 q ((Pz.tgt l q.pos:Nat):Int)).1=0:=h0;show nG reg l.length (i6 q ((Pz.tgt l q.pos:Nat):Int)).2.fol (i6 q ((Pz.tgt l q.pos:Nat):Int)).2.under;unfold i6 at h0⊢;split at h0
  .cases h0
  .rename_i hv
   rw[aj hv];show nG reg l.length ((Pz.tgt l q.pos:Nat):Int).toNat (q.fol::q.under);rw[bp,hf];exact⟨e2,hle,hr.move e1 (by omega)⟩
 |op n=>
  rw[e]at hw;obtain⟨w1,w2,w3,w4⟩:=hw;have hn:=mV e;by_cases h21:n<=21
  .exact yi _ (QP n h21 q _) (w1 (by omega) (by omega))
  have to:∀{b:Nat},reg b=reg q.pos->b<=l.length->nG reg l.length b q.under:=fun e hb=>hr.move e hb
  have cs:n=22\/n=23\/n=24\/n=25\/n=26\/n=27\/n=28\/n=29:=by omega
  have goto:reg (Pz.tgt l q.pos)=reg q.pos->nG reg l.length (mN q ((Pz.tgt l q.pos:Nat):Int)).2.fol (mN q ((Pz.tgt l q.pos:Nat):Int)).2.under:=fun e=>by
   show nG reg l.length ((Pz.tgt l q.pos:Nat):Int).toNat q.under;rw[bp];exact to e hle
  have go0:reg (Pz.tgt l q.pos)=reg q.pos->reg (q.pos+1)=reg q.pos->nG reg l.length (mw q ((Pz.tgt l q.pos:Nat):Int)).2.fol (mw q ((Pz.tgt l q.pos:Nat):Int)).2.under:=fun e e1=>by
   unfold mw;split
   .show nG reg l.length ((Pz.tgt l q.pos:Nat):Int).toNat q.under;rw[bp];exact to e hle
   .show nG reg l.length q.fol q.under;rw[hf];exact to e1 (by omega)
  have back:nG reg l.length (oe q ((Pz.tgt l q.pos:Nat):Int)).2.fol (oe q ((Pz.tgt l q.pos:Nat):Int)).2.under\/q.under= []:=by
   unfold oe;cases hu:q.under with
   |nil=>exact .inr rfl
   |cons k s=>rw[hu]at hr;exact .inl hr.2.2
  rcases cs with rfl|rfl|rfl|rfl|rfl|rfl|rfl|rfl
  .exact go0 (w2 (.inl rfl)) (w1 (by decide) (by decide))
  .exact goto (w2 (.inr (.inl rfl)))
  .exact goto (w2 (.inr (.inr (.inl rfl))))
  .refine goto ?_;have etg:=Pz.ly (l:=l) (k:=q.pos) (n:=25) ⟨t,ht,e⟩;rw[etg];exact w1 (by decide) (by decide)
  .exact go0 (w2 (.inr (.inr (.inr rfl)))) (w1 (by decide) (by decide))
  .refine goto ?_;obtain⟨a,b⟩:=w3 rfl;rw[a,b]
  .rcases back with b|b
   .exact b
   .have:=hr.in_ (w4 (.inl rfl));rw[b]at this;simp at this
  .rcases back with b|b
   .exact b
   .have:=hr.in_ (w4 (.inr rfl));rw[b]at this;simp at this
theorem OD {b:Lo.Bytes} {x:Nat} (h:Lo.kindOf b= .get x\/Lo.kindOf b= .set x):x<26:=by
 rw[Km.il]at h;cases Km.kc (Km.dQ b)with
 |num e _=>rw[e]at h;rcases h with h|h<;>cases h
 |op n e _ _ _=>rw[e]at h;rcases h with h|h<;>cases h
 |get d e hw hL=>
  rw[e]at h;unfold Km.isL at hL;simp only[aH,aY]at hL;rcases h with h|h
  .injection h with h;omega
  .cases h
 |set d e hw hL=>
  rw[e]at h;unfold Km.isL at hL;simp only[aH,aY]at hL;rcases h with h|h
  .cases h
  .injection h with h;omega
 |name e _ _ _ _=>rw[e]at h;rcases h with h|h<;>cases h
 |none_ e _ _ _ _=>rw[e]at h;rcases h with h|h<;>cases h
theorem GO {l:List Lo.Tok} {tg:List Nat} {reg:Nat->Bool} (R:Pz.Rt l tg reg) {q:Rs} {t:Lo.Tok} (ht:l[q.pos]?=some t) (hr:nG reg l.length q.pos q.under):
  Extra (Lo.kindOf t.b) q (jY (dZ t) ((Pz.tgt l q.pos:Nat):Int)):=by
 have hw:=R.word q.pos t ht;unfold Pz.Nc at hw;rw[GN];cases e:Lo.kindOf t.b with
 |none_=>rw[e]at hw;exact hw
 |number y=>rw[e]at hw;exact hw.1
 |get x=>exact⟨x,rfl,OD (.inl e)⟩
 |set x=>exact⟨x,rfl,OD (.inr e)⟩
 |name=>exact⟨_,rfl⟩
 |op n=>
  rw[e]at hw;have hn:=mV e;exact⟨⟨_,rfl⟩,fun h=>hr.in_ (hw.2.2.2 (by omega))⟩
structure Inv (l:List Lo.Tok) (reg:Nat->Bool) (q:Rs):Prop where
 cor:Cor q.done q
 dn:q.done<=3000
 reg:nG reg l.length q.pos q.under
def BI (l:List Lo.Tok) (q:Rs):Lo.Stand->Prop
 | .on=>q.fault=0/\q.pos<l.length
 | .over=>q.fault=0/\q.pos=l.length
 | .fault f p=>q.fault=f/\f≠0/\∃t,l[q.pos]?=some t/\p=t.at_
def Rel (l:List Lo.Tok) (q:Rs) (m:Nat) (r:Lo.Run):Prop:=∃s,r=eN q m s/\BI l q s
def IX (q:Rs):Nat:=Lo.alive (eN q 0 .on)
def i7 (m:Nat) (q:Rs):Nat:=if q.fault=0 then max m (IX q)else m
theorem Cor.cast {d d':Nat} {q q':Rs} (h:Cor d q) (ed:d<=d') (e0:q'.stack=q.stack) (e1:q'.vars=q.vars) (e2:q'.cs=q.cs) (e3:q'.out=q.out) (e4:q'.under=q.under):Cor d' q':=by
 have vk:∀v,Vok q v->Vok q' v:=fun v z=>by unfold Vok at z⊢;rw[e2];exact z
 exact⟨fun v z=>vk v (h.stk v (by rw[<-e0];exact z)),fun v z=>vk v (h.vrs v (by rw[<-e1];exact z)),by rw[e2];exact h.ces,by rw[e2];exact h.wf,by rw[e1];exact h.nv,by rw[e3];exact h.ou,by rw[e4];exact h.un,by rw[e0];exact ai h.sd ed,by rw[e2];exact ai h.cd ed⟩
def fin (r:Nat×Rs):Rs:=if r.1=0 then IT (oR r.2)else {r.2 with fault:=r.1}
theorem xp {l:List Lo.Tok} {tg:List Nat} {reg:Nat->Bool} (R:Pz.Rt l tg reg) {q:Rs} {t:Lo.Tok} (ht:l[q.pos]?=some t) (I:Inv l reg q) (hf:q.fault=0) (m:Nat):
  Inv l reg (fG t (Pz.tgt l q.pos) q)/\Rel l (fG t (Pz.tgt l q.pos) q) (i7 m (fG t (Pz.tgt l q.pos) q)) (Lo.stepOn l (eN q m .on)):=by
 have fH:=(aa.mp ht).1;have hw:=IV l q m .on R ht I.cor.wf (fun v hv=>(I.cor.stk v hv).1) I.cor.un (fun e=>I.reg.in_ e)
 have hx:=GO R ht I.reg;have hd:=I.dn;have estep:Lo.stepOn l (eN q m .on)=if 3000<=q.done then {eN q m .on with stand:=.fault 11 t.at_}else match Lo.wordOn l (eN q m .on) t with
   | .error f=>{eN q m .on with stand:=.fault f t.at_}
   | .ok q'=>
    let z:Lo.Run:={q' with done:=q.done+1}
    {z with most:=max m (Lo.alive z),stand:=if l.length<=z.at_ then .over else .on}:=by
  show (match l[q.pos]? with
   |none=>_
   |some t=>_)=_
  rw[ht];rfl
 rw[estep,hw];have bad:∀f,f≠0->Inv l reg {({q with fol:=q.pos+1}:Rs)with fault:=f}/\Rel l {({q with fol:=q.pos+1}:Rs)with fault:=f} (i7 m {({q with fol:=q.pos+1}:Rs)with fault:=f}) {eN q m .on with stand:=.fault f t.at_}:=fun f h0=>
  ⟨⟨I.cor.cast (au _) rfl rfl rfl rfl rfl,hd,I.reg⟩,by rw[show i7 m {({q with fol:=q.pos+1}:Rs)with fault:=f}=m from aj h0];exact⟨.fault f t.at_,rfl,rfl,h0,t,ht,rfl⟩⟩
 rw[show fG t (Pz.tgt l q.pos) q=fin (ll t (Pz.tgt l q.pos) {q with fol:=q.pos+1})from rfl]
 by_cases h3:q.done=3000
 .rw[show ll t (Pz.tgt l q.pos) {q with fol:=q.pos+1}=(11,{q with fol:=q.pos+1})from aq h3,aq (show 3000<=q.done by omega)]
  exact bad 11 (by decide)
 rw[aj (show¬3000<=q.done by omega)]
 by_cases h6:fos q.stack (qu (Lo.kindOf t.b))=0
 .rw[show ll t (Pz.tgt l q.pos) {q with fol:=q.pos+1}=vK (Lo.kindOf t.b) {q with fol:=q.pos+1} (jY (dZ t) ((Pz.tgt l q.pos:Nat):Int))from(aj h3).trans (aq h6),
   show comes (Lo.kindOf t.b) q (jY (dZ t) ((Pz.tgt l q.pos:Nat):Int)) m .on=sO m .on (vK (Lo.kindOf t.b) {q with fol:=q.pos+1} (jY (dZ t) ((Pz.tgt l q.pos:Nat):Int)))from aq h6]
  have hx1:Extra (Lo.kindOf t.b) {q with fol:=q.pos+1} (jY (dZ t) ((Pz.tgt l q.pos:Nat):Int)):=by revert hx;cases Lo.kindOf t.b<;>exact fun z=>z
  have hp:=KN (q:={q with fol:=q.pos+1}) (fun n z=>mV z) h6 hx1
  have hc1:Cor q.done {q with fol:=q.pos+1}:=I.cor.cast (au _) rfl rfl rfl rfl rfl
  have v7:=KU (Lo.kindOf t.b) {q with fol:=q.pos+1} (jY (dZ t) ((Pz.tgt l q.pos:Nat):Int))
  have hcor:=QK (z:=jY (dZ t) ((Pz.tgt l q.pos:Nat):Int)) hc1 (by omega) (fun n z=>mV z) hp
  have hreg:=QQ (q:={q with fol:=q.pos+1}) R ht I.reg rfl
  dsimp only at hreg;generalize vK (Lo.kindOf t.b) {q with fol:=q.pos+1} (jY (dZ t) ((Pz.tgt l q.pos:Nat):Int))=r at v7 hcor hreg⊢
  obtain⟨n1,n2,n3,n4,n5⟩:=v7;by_cases h0:r.1=0
  .rw[show sO m .on r= .ok (eN {r.2 with pos:=r.2.fol} m .on)from aq h0,show fin r=IT (oR r.2)from aq h0]
   have hc:=hcor h0;have hg:=hreg h0;have n2:r.2.done=q.done:=n2;have n3:r.2.fault=q.fault:=n3;refine⟨⟨?_,?_,hg⟩,?_⟩
   .exact hc.cast (by show q.done+1<=r.2.done+1;omega) rfl rfl rfl rfl rfl
   .show r.2.done+1<=3000;omega
   .rw[show i7 m (IT (oR r.2))=max m (IX (oR r.2))from aq (show r.2.fault=0 by rw[n3];exact hf)]
    refine⟨if l.length<=r.2.fol then .over else .on,?_,?_⟩
    .show Lo.Run.mk r.2.fol r.2.stack r.2.vars r.2.under r.2.cs.toArray r.2.out (q.done+1) _ _=Lo.Run.mk r.2.fol r.2.stack r.2.vars r.2.under r.2.cs.toArray r.2.out (r.2.done+1) _ _;rw[n2];rfl
    .have hle:=hg.le;split
     .exact⟨by show r.2.fault=0;rw[n3];exact hf,by show r.2.fol=l.length;omega⟩
     .exact⟨by show r.2.fault=0;rw[n3];exact hf,by show r.2.fol<l.length;omega⟩
  .rw[show sO m .on r= .error r.1 from aj h0,show fin r={r.2 with fault:=r.1}from aj h0,n1 h0]
   exact bad r.1 h0
 .rw[show ll t (Pz.tgt l q.pos) {q with fol:=q.pos+1}=(fos q.stack (qu (Lo.kindOf t.b)),{q with fol:=q.pos+1})from(aj h3).trans (aj h6),
   show comes (Lo.kindOf t.b) q (jY (dZ t) ((Pz.tgt l q.pos:Nat):Int)) m .on= .error (fos q.stack (qu (Lo.kindOf t.b)))from aj h6,
   show fin (fos q.stack (qu (Lo.kindOf t.b)),{q with fol:=q.pos+1})={({q with fol:=q.pos+1}:Rs)with fault:=fos q.stack (qu (Lo.kindOf t.b))}from aj h6]
  exact bad _ h6
theorem IY {t:Lo.Tok} {tg:Nat} {q:Rs} (hf:q.fault=0):(fG t tg q).full=i7 q.full (fG t tg q):=by
 have hr:Num {q with fol:=q.pos+1} (ll t tg {q with fol:=q.pos+1}):=by
  unfold ll;split
  .exact⟨fun _=>rfl,rfl,rfl,rfl,rfl⟩
  .split
   .exact KU _ _ _
   .exact⟨fun _=>rfl,rfl,rfl,rfl,rfl⟩
 rw[show fG t tg q=fin (ll t tg {q with fol:=q.pos+1})from rfl]
 generalize ll t tg {q with fol:=q.pos+1}=r at hr
 obtain⟨n1,n2,n3,n4,n5⟩:=hr;have n3:r.2.fault=q.fault:=n3;have n5:r.2.full=q.full:=n5;by_cases h0:r.1=0
 .rw[show fin r=IT (oR r.2)from aq h0,show i7 q.full (IT (oR r.2))=max q.full (IX (oR r.2))from aq (show r.2.fault=0 by rw[n3];exact hf),<-n5]
  rfl
 .rw[show fin r={r.2 with fault:=r.1}from aj h0,show i7 q.full {r.2 with fault:=r.1}=q.full from aj h0]
  exact n5
theorem GP {W:RA} {reg:Nat->Bool} (R:Pz.Rt W.l W.tg reg) {q:Rs} (I:Inv W.l reg q):Rok q/\(du W q=0->(∃t tg,W.l[q.pos]?=some t/\W.tg[q.pos]?=some tg/\Extra (Lo.kindOf t.b) q (jY (dZ t) ((tg:Nat):Int)))/\Inv W.l reg (eO W q)):=by
 refine⟨I.cor.rok (by have:=I.dn;omega),fun h=>?_⟩
 have h:(if q.fault=0 then (if q.pos=W.l.length then 1 else 0)else 2)=0:=h
 have hle:=I.reg.le;by_cases hf:q.fault=0
 .rw[aq hf]at h;by_cases hp:q.pos=W.l.length
  .rw[aq hp]at h;cases h
  .have fH:q.pos<W.l.length:=by omega
   have ht:W.l[q.pos]?=some W.l[q.pos]:=af fH;have htg:=R.tgs q.pos fH;have ec:eO W q=fG W.l[q.pos] (Pz.tgt W.l q.pos) q:=by unfold eO;rw[ht,htg]
   exact⟨⟨_,_,ht,htg,GO R ht I.reg⟩,by rw[ec];exact(xp R ht I hf 0).1⟩
 .rw[aj hf]at h;cases h
def zq:Lo.Stand->Nat
 | .on=>0
 | .over=>1
 | .fault _ _=>2
theorem BI.stand {W:RA} {q:Rs} {s:Lo.Stand} (h:BI W.l q s):du W q=zq s:=by
 unfold du;cases s with
 |on=>rw[aq h.1,aj (by have:=h.2;omega)];rfl
 |over=>rw[aq h.1,aq h.2];rfl
 |fault f p=>rw[aj (by rw[h.1];exact h.2.1)];rfl
def vN (W:RA):Nat->Rs->Nat->Nat
 |0,_,m=>m
 |n+1,q,m=>if du W q=0 then vN W n (eO W q) (i7 m (eO W q))else m
theorem OE {W:RA} {reg:Nat->Bool} (R:Pz.Rt W.l W.tg reg):∀(n:Nat) {q:Rs} {m:Nat} {r:Lo.Run},Inv W.l reg q->Rel W.l q m r->Rel W.l (lq W n q) (vN W n q m) (Lo.goOn W.l n r)
 |0,q,m,r,I,h=>h
 |n+1,q,m,r,I,h=>by
  obtain⟨s,rfl,hs⟩:=h;have mB:=BI.stand hs;show Rel W.l (if du W q=0 then lq W n (eO W q)else q) (if du W q=0 then vN W n (eO W q) (i7 m (eO W q))else m) _
  cases s with
  |on=>
   have mB:du W q=0:=mB;rw[aq mB,aq mB];have fH:q.pos<W.l.length:=hs.2;have ht:W.l[q.pos]?=some W.l[q.pos]:=af fH;have ec:eO W q=fG W.l[q.pos] (Pz.tgt W.l q.pos) q:=by unfold eO;rw[ht,R.tgs q.pos fH]
   obtain⟨I',R'⟩:=xp R ht I hs.1 m;rw[ec];exact OE R n I' R'
  |over=>rw[aj (by rw[mB];exact W0 _),aj (by rw[mB];exact W0 _)];exact⟨.over,rfl,hs⟩
  |fault f p=>rw[aj (by rw[mB];exact W0 _),aj (by rw[mB];exact W0 _)];exact⟨.fault f p,rfl,hs⟩
theorem CY {W:RA} {reg:Nat->Bool} (R:Pz.Rt W.l W.tg reg):∀(n:Nat) {q:Rs},Inv W.l reg q->vN W n q q.full=(lq W n q).full
 |0,q,I=>rfl
 |n+1,q,I=>by
  show (if du W q=0 then vN W n (eO W q) (i7 q.full (eO W q))else q.full)=(if du W q=0 then lq W n (eO W q)else q).full
  by_cases mB:du W q=0
  .rw[aq mB,aq mB];have hf:q.fault=0:=by
    unfold du at mB;by_cases h:q.fault=0
    .exact h
    .rw[aj h]at mB;cases mB
   have hI:=(GP R I).2 mB;obtain⟨⟨t,tg,ht,htg,_⟩,hI⟩:=hI;have ec:eO W q=fG t tg q:=by unfold eO;rw[ht,htg]
   rw[show i7 q.full (eO W q)=(eO W q).full from by rw[ec,IY hf]]
   exact CY R n hI
  .rw[aj mB,aj mB]
section
variable {c:Ct} {A:Ad}
abbrev ue:Stmt:=top 131
theorem GQ:cW ["number","most"] ["number","most"] (cS ue):=fsc
inductive jS (vs:List V) (H:Hp) (Q:VK) (E:XK):Prop
 |mk:∀n m,vs= [.int n,.int m]->Q (.bl (decide (0<=n/\n<=m))) H->jS vs H Q E
theorem GR (T:Tx c A) (D:Df c "is_short" ue ["number","most"] A.iO):Good c 1 "is_short" A.iO jS:=by
 refine D.good GQ ?_;rintro X H _ Q E rfl a sn hr ⟨n,m,rfl,k⟩;refine⟨_,(cQ (cV (Ff zx zx cT (vr sn 0) (vr sn 1)))),?_⟩;refine⟨_,rfl,_,_,rfl,rfl,_,rfl,?_⟩;by_cases h0:0<=n
 .rw[aI h0];refine fm ⟨_,rfl,_,_,rfl,rfl,?_⟩;rw[show decide (0<=n/\n<=m)=decide (n<=m) by simp[h0]]at k
  exact k
 .rw[ao h0];refine eY ?_;rw[show decide (0<=n/\n<=m)=false by simp[h0]]at k
  exact k
abbrev qd:Stmt:=top 132
theorem BJ:cW ["row"] ["row"] (cS qd):=fsc
inductive lV (vs:List V) (H:Hp) (Q:VK) (E:XK):Prop
 |mk:∀p,∀row:Lo.Bytes,vs= [.ref p]->H p=some (.lst (row.map iv))->row.length<=5000->(∀H' p2,dR H H'->H p2=none->H' p2=some (.lst (V.int 0::V.int (row.length:Int)::row.map iv))->Q (.ref p2) H')->lV vs H Q E
theorem BK (T:Tx c A) (D:Df c "row_answer" qd ["row"] A.jh):Good c 1 "row_answer" A.jh lV:=by
 refine D.good BJ ?_;rintro X H _ Q E rfl a sn hr ⟨p,row,rfl,h1,hl,k⟩;refine⟨_,(cQ (cV (fB MO (eX (cK (pc_ T.tJ (gl sn)) (cK (dv dk (gl sn) T.fE PySem.boot_len (cK (vr sn 0) cO)) cO))) (vr sn 0)))),?_⟩;refine⟨_,rfl,p,_,rfl,.inl (SqL.of h1),sz,fun p1 hp1=>?_⟩
 rw[List.length_map];have s1:dR H (upd H p1 (.lst [V.int 0,V.int (row.length:Int)])):=.dm hp1;refine⟨_,rfl,p1,p,_,_,rfl,rfl,cP,s1 _ _ h1,?_,fun p2 qh=>?_⟩
 .rw[List.length_map];exact ai (show [V.int 0,V.int (row.length:Int)].length+row.length<=5002 by show 2+row.length<=5002;omega) (by decide)
 .refine k _ p2 (s1.trans (.dm qh)) ?_ cP;cases e:H p2 with
  |none=>rfl
  |some o=>rw[s1 _ _ e]at qh;cases qh
abbrev nB:Stmt:=top 133
theorem yE:cW ["run","value","row"] ["run","value"] (cS nB):=fsc
def rN (q:Rs) (v:Lo.Val):List V:=if 4096<Lo.longOf q.cs.toArray v then [.int (-6)]else .int 0:: .int ((Lo.longOf q.cs.toArray v:Nat):Int)::(Lo.said q.cs.toArray v).map iv
inductive j7 (c:Ct) (A:Ad) (vs:List V) (H:Hp) (Q:VK) (E:XK):Prop
 |mk:∀W q a v,vs= [.ref (RA.r W),.ref a]->fb c A H W q->Rok q->m9 c.K H a v->Vok q v->(∀H' p,dR H H'->H p=none->H' p=some (.lst (rN q v))->Q (.ref p) H')->j7 c A vs H Q E
theorem yF (T:Tx c A) (D:Df c "value_answer" nB ["run","value"] A.hJ) (oQ:Good c 2 "saying" A.mZ (sA c A)) (j4:Good c 1 "row_answer" A.jh lV):Good c 3 "value_answer" A.hJ (j7 c A):=by
 refine D.good yE ?_;rintro X H _ Q E rfl a sn hr ⟨W,q,av,v,rfl,R,ok,hv,vk,k⟩;refine⟨_,(cN (pSt sn 2 (pf_ oQ (hmo hr) (gl sn) (cK (df (vr sn 0) rfl) (cK (vr sn 1) (cK (pc_ T.nY (gl sn)) cO))))) (cN (dX (iK oA (dv dk (gl sn) T.fE PySem.boot_len (cK (vr sn 2) cO)) (pc_ T.nY (gl sn))) (cQ (cV (eX (cK (pc_ T.vm (gl sn)) cO)))) dr) (cQ (cV (pf_ j4 (hmo hr) (gl sn) (cK (vr sn 2) cO)))))),?_⟩;obtain⟨ho,sh,d,xs,C,hd⟩:=R.cel;have wf:Cm.WF (q.cs.toArray).toList:=by simpa using C.wf
 have hsl:=Cm.lZ wf (v:=v) (by simpa using vk.1)
 refine⟨_,rfl,W.r,_,W.dx,_,_,rfl,R.ins,T.cY,T.eQ,rfl,_,rfl,{W.L with ho:=ho,z:=Hm.hd ho},q.cs,sh,d,xs,av,v,4096,rfl,C,hv,vk.1,vk.2,ok.ces,by decide,fun H1 p row s1 hp h1 hrl h2 h3=>?_⟩
 refine⟨_,rfl,p,_,rfl,.inl (SqL.of h1),_,_,rfl,rfl,_,rfl,?_⟩;rw[List.length_map];unfold rN at k;by_cases fH:4096<Lo.longOf q.cs.toArray v
 .rw[aq fH]at k;have:=h3 fH;rw[show decide ((row.length:Int)>4096)=true from aI (by omega)]
  refine fm ⟨sz,fun p2 qh=>k _ p2 (s1.trans (.dm qh)) ?_ cP⟩
  cases e:H p2 with
  |none=>rfl
  |some o=>rw[s1 _ _ e]at qh;cases qh
 .rw[aj fH]at k;have hr:row=Lo.said q.cs.toArray v:=h2 (by omega)
  have hlr:row.length=Lo.longOf q.cs.toArray v:=by rw[hr,hsl]
  rw[show decide ((row.length:Int)>4096)=false from ao (by omega)]
  refine eY ⟨_,rfl,p,row,rfl,h1,by omega,fun H2 p2 s2 qh h4=>k _ p2 (s1.trans s2) ?_ ?_⟩
  .cases e:H p2 with
   |none=>rfl
   |some o=>rw[s1 _ _ e]at qh;cases qh
  .rw[<-hlr,<-hr];exact h4
end
structure AN (c:Ct) (A:Ad) (H:Hp) (se dx:Addr) (W:RA) (q:Rs):Prop where
 ins:H se=some (.ins A.dF dx [("run",.ref W.r)])
 run:fO c A H W q
theorem AN.out {c:Ct} {A:Ad} {H:Hp} {se dx:Addr} {W:RA} {q:Rs} (S:AN c A H se dx W q):se∉rmu W:=fun hs=>by
 have R:=S.run;have hi:=S.ins;simp only[rmu,ag,aJ,bw]at hs;obtain⟨ho,sh,d,xs,C,hd⟩:=R.cel;obtain⟨fs,f1,_⟩:=C.fst;obtain⟨rs,r1,_⟩:=C.rst;obtain⟨as,s1,_⟩:=R.stk;obtain⟨bs,v1,_⟩:=R.vrs;rcases hs with e|e|e|e|e|e|e|e|e|e|e|e
 .rw[e,R.ins]at hi;injection hi with hi;injection hi with _ _ hi;cases hi
 .exact absurd e (neo S.ins s1)
 .exact absurd e (neo S.ins v1)
 .exact absurd e (neo S.ins R.und)
 .exact absurd e (neo S.ins R.out)
 .exact absurd e (neo S.ins R.t)
 .exact absurd e (neo S.ins f1)
 .exact absurd e (neo S.ins r1)
 .exact absurd e (neo S.ins C.shp)
 .exact absurd e (neo S.ins C.num)
 .exact absurd e (neo S.ins C.hol)
 .rw[e]at hi;rw[show H W.L.c=_ from C.ins]at hi;injection hi with hi;injection hi with _ _ hi;cases hi
theorem IZ {W:RA} {t b:Addr} (h:b∈foot {W with t:=t}):b=t\/b∈foot W:=by
 simp only[foot,ag,aJ,bw]at h⊢;rcases h with h|h|h|h|h|h|h|h|h|h|h|h|h|h|h<;>simp[h]
structure Ok (W:RA) (reg:Nat->Bool) (q:Rs):Prop where
 rt:Pz.Rt W.l W.tg reg
 len:W.l.length<=10000
 inv:Inv W.l reg q
 st:∃s,BI W.l q s
theorem Ok.rok {W:RA} {reg:Nat->Bool} {q:Rs} (h:Ok W reg q):Rok q:=h.inv.cor.rok (by have:=h.inv.dn;omega)
theorem Ok.GP {W:RA} {reg:Nat->Bool} {q:Rs} (h:Ok W reg q):RT W (Ok W reg):=fun q h=>by
 obtain⟨g1,g2⟩:=Sl.GP h.rt h.inv;refine⟨g1,fun hs=>⟨(g2 hs).1,h.rt,h.len,(g2 hs).2,?_⟩⟩
 obtain⟨s,mB⟩:=h.st;have e:=BI.stand mB;rw[hs]at e;cases s with
 |on=>
  have fH:q.pos<W.l.length:=mB.2;have ht:W.l[q.pos]?=some W.l[q.pos]:=af fH;have ec:eO W q=fG W.l[q.pos] (Pz.tgt W.l q.pos) q:=by unfold eO;rw[ht,h.rt.tgs q.pos fH]
  obtain⟨_,s',_,h'⟩:=xp h.rt ht h.inv mB.1 0;exact⟨s',by rw[ec];exact h'⟩
 |over=>cases e
 |fault f p=>cases e
theorem Ok.go {W:RA} {reg:Nat->Bool}:∀(n:Nat) {q:Rs},Ok W reg q->Ok W reg (lq W n q)
 |0,q,h=>h
 |n+1,q,h=>by
  show Ok W reg (if du W q=0 then lq W n (eO W q)else q)
  split
  .rename_i hs
   exact Ok.go n ((h.GP q h).2 hs).2
  .exact h
def AO (W:RA) (q:Rs) (z:Int):List V×Rs:=if 0<=z/\z<=3000 then
  (let r:=lq W z.toNat q
   (if du W r=2 then [V.int 0,V.int (r.done:Nat),V.int 2,V.int (r.fault:Nat),V.int (((W.l[r.pos]?).map Lo.Tok.at_).getD 0:Nat)]else [V.int 0,V.int (r.done:Nat),V.int (du W r:Nat)],r))else ([V.int (-1)],q)
section
variable {c:Ct} {A:Ad}
abbrev TC:Stmt:=top 123
theorem Vm:cW ["session","numbers","run","stands"] ["session","numbers"] (cS TC):=fsc
inductive iQ (c:Ct) (A:Ad) (n:Nat) (f:RA->Rs->List Int->List V×Rs) (vs:List V) (H:Hp) (Q:VK) (E:XK):Prop
 |mk:∀se dx W q nb reg,∀zs:List Int,vs= [.ref se,.ref nb]->AN c A H se dx W q->Ok W reg q->H nb=some (.lst (zs.map V.int))->nb∉rmu W->zs.length=n->(∀H' p W',AN c A H' se dx W' (f W q zs).2->W'.l=W.l->W'.tg=W.tg->(∀b o,H b=some o->b≠se->b∉rmu W->H' b=some o)->(∀b∈foot W',b∈foot W\/H b=none)->H p=none->H' p=some (.lst (f W q zs).1)->Q (.ref p) H')->iQ c A n f vs H Q E
theorem CZ {H:Hp} {se dx:Addr} {W:RA} {q:Rs} {xs:List V} {Q:VK} (S:AN c A H se dx W q) (k:∀H' p W',AN c A H' se dx W' q->W'.l=W.l->W'.tg=W.tg->(∀b o,H b=some o->b≠se->b∉rmu W->H' b=some o)->(∀b∈foot W',b∈foot W\/H b=none)->H p=none->H' p=some (.lst xs)->Q (.ref p) H'):
  ∀H' p,dR H H'->H p=none->H' p=some (.lst xs)->Q (.ref p) H':=fun H' p s hp h=>k H' p W ⟨s _ _ S.ins,S.run.same s⟩ rfl rfl (fun b o e _ _=>s b o e) (fun b hb=>.inl hb) hp h
theorem AQ {zs:List Int} (h:zs.length=1):∃z,zs= [z]:=by
 cases zs with
 |nil=>cases h
 |cons z r=>cases r with
  |nil=>exact⟨z,rfl⟩
  |cons _ _=>simp at h
def fGo (W:RA) (q:Rs) (zs:List Int):List V×Rs:=AO W q (zs.headD 0)
theorem Vn (T:Tx c A) (D:Df c "go" TC ["session","numbers"] A.DF) (fA:Good c 1 "is_short" A.iO jS) (Ek:Good c 10 "go_on" A.sk (AI c A)) (jl:Good c 1 "standing" A.jM (l9 c A)) (ie:Good c 1 "place_of_next" A.gi (j3 c A)):
  Good c 11 "go" A.DF (iQ c A 1 fGo):=by
 refine D.good Vm ?_;rintro X H _ Q E rfl a sn hr ⟨se,dx,W,q,nb,reg,zs,rfl,S,ok,hnb,hnr,hzs,k⟩;obtain⟨z,rfl⟩:=AQ hzs;refine⟨_,(cN (pSt sn 2 (df (vr sn 0) rfl)) (cN (dX (lr (fJ (pf_ fA (hmo hr) (gl sn) (cK (ixL (vr sn 1) cT) (cK (pc_ T.DK (gl sn)) cO))))) (cQ (cV (eX (cK (pc_ T.jr (gl sn)) cO)))) dr) (cN (dH (pf_ Ek (hmo hr) (gl sn) (cK (vr sn 2) (cK (ixL (vr sn 1) cT) cO)))) (cN (pSt sn 3 (pf_ jl (hmo hr) (gl sn) (cK (vr sn 2) cO))) (cN (dX (iK iR (vr sn 3) (pc_ T.z7 (gl sn))) (cQ (cV (eX (cK (pc_ T.tJ (gl sn)) (cK (df (vr sn 2) rfl) (cK (vr sn 3) (cK (df (vr sn 2) rfl) (cK (pf_ ie (hmo hr) (gl sn) (cK (vr sn 2) cO)) cO)))))))) dr) (cQ (cV (eX (cK (pc_ T.tJ (gl sn)) (cK (df (vr sn 2) rfl) (cK (vr sn 3) cO))))))))))),?_⟩;have R:=S.run;refine⟨_,rfl,se,_,dx,_,_,rfl,S.ins,T.hU,T.eK,rfl,?_⟩;refine⟨_,rfl,nb,_,_,_,rfl,rfl,SqL.of hnb,cX (j:=0) rfl,z,3000,rfl,_,rfl,?_⟩;rw[show fGo W q [z]=AO W q z from rfl]at k;unfold AO at k;refine ddn (fun hz=>?_) (fun hz=>?_)
 .have hz:=bj hz;rw[aj hz]at k;exact⟨sz,fun p hp=>CZ S k _ p (.dm hp) hp cP⟩
 .have hz:=aQ hz;rw[aq hz]at k;dsimp only at k;refine⟨_,rfl,_,rfl,nb,_,_,_,rfl,rfl,SqL.of hnb,cX (j:=0) rfl,W,q,z.toNat,Ok W reg,?_,R,ok.rt.len,ok.len,ok.GP,ok,fun H1 t1 R1 ok1 k1 ht1 g1=>?_⟩
  .show [V.ref W.r,V.int z]=_;rw[show ((z.toNat:Nat):Int)=z from bN hz.1]
  generalize lq W z.toNat q=r at R1 ok1 k⊢;have ser:=S.out;have se1:=k1 _ _ S.ins ser;refine⟨_,rfl,{W with t:=t1},r,rfl,R1,ok.rt.len,ok.len,?_⟩
  rw[show du {W with t:=t1} r=du W r from rfl]
  have fin:∀xs,(∀H' p W',AN (ct X) A H' se dx W' r->W'.l=W.l->W'.tg=W.tg->(∀b o,H b=some o->b≠se->b∉rmu W->H' b=some o)->(∀b∈foot W',b∈foot W\/H b=none)->H p=none->H' p=some (.lst xs)->Q (.ref p) H')->∀p,H1 p=none->Q (.ref p) (upd H1 p (.lst xs)):=fun xs k p hp=>
   k _ p {W with t:=t1} ⟨by rw[cR (cM se1 hp)];exact se1,R1.same (.dm hp)⟩ rfl rfl (fun b o e _ n=>by
    have e1:=k1 b o e n;rw[cR (cM e1 hp)];exact e1) (fun b hb=>by
    rcases IZ hb with hb|hb
    .rcases ht1 with ht1|ht1
     .left;rw[hb,ht1];simp[foot]
     .right;rw[hb];exact ht1
    .exact .inl hb) (g1.none hp) cP
  refine⟨_,rfl,rfl,_,rfl,?_⟩;by_cases hs:du W r=2
  .rw[aq hs]at k;rw[hs];obtain⟨s,mB⟩:=ok1.st;have e:=BI.stand mB;rw[hs]at e;cases s with
   |on=>cases e
   |over=>cases e
   |fault f pl=>
    obtain⟨_,_,t,ht,_⟩:=mB;rw[ht]at k;exact fm ⟨_,rfl,W.r,_,W.dx,_,_,rfl,R1.ins,T.cY,T.fz,rfl,_,rfl,_,rfl,W.r,_,W.dx,_,_,rfl,R1.ins,T.cY,T.jX,rfl,_,rfl,{W with t:=t1},r,t,rfl,R1,ht,sz,fin _ k⟩
  .rw[aj hs]at k;rw[show decide (V.int ((du W r:Nat):Int)=V.int 2)=false from ao (fun z=>hs (by injection z with z;omega))]
   exact eY ⟨_,rfl,W.r,_,W.dx,_,_,rfl,R1.ins,T.cY,T.fz,rfl,_,rfl,sz,fin _ k⟩
abbrev Ja:Stmt:=top 124
theorem QR:cW ["session","numbers","output"] ["session","numbers"] (cS Ja):=fsc
def qe (q:Rs) (z:Int):List V:=if 0<=z/\z<=q.out.length then V.int 0::V.int ((q.out.drop z.toNat).length:Int)::(q.out.drop z.toNat).map iv else [V.int (-1)]
def AR (W:RA) (q:Rs) (zs:List Int):List V×Rs:=(qe q (zs.headD 0),q)
theorem GS (xs:List V) (n:Nat) (h:n<=xs.length):uO xs (some (n:Int)) none=xs.drop n:=by
 unfold uO;rw[HT.rX,HT.MH,WM h];exact WO (by rw[aZ];omega)
theorem QS (T:Tx c A) (D:Df c "said" Ja ["session","numbers"] A.pF) (fA:Good c 1 "is_short" A.iO jS) (j4:Good c 1 "row_answer" A.jh lV):Good c 2 "said" A.pF (iQ c A 1 AR):=by
 refine D.good QR ?_;rintro X H _ Q E rfl a sn hr ⟨se,dx,W,q,nb,reg,zs,rfl,S,okk,hnb,hnr,hzs,k⟩;obtain⟨z,rfl⟩:=AQ hzs;have ok:=okk.rok;replace k:=CZ S k;refine⟨_,(cN (pSt sn 2 (df (df (vr sn 0) rfl) rfl)) (cN (dX (lr (fJ (pf_ fA (hmo hr) (gl sn) (cK (ixL (vr sn 1) cT) (cK (dv dk (gl sn) T.fE PySem.boot_len (cK (vr sn 2) cO)) cO))))) (cQ (cV (eX (cK (pc_ T.jr (gl sn)) cO)))) dr) (cQ (cV (pf_ j4 (hmo hr) (gl sn) (cK (qQ y3 (vr sn 2) (oU (ixL (vr sn 1) cT)) Dg) cO)))))),?_⟩;have R:=S.run;refine⟨_,rfl,se,_,dx,_,_,rfl,S.ins,T.hU,T.eK,rfl,W.r,_,W.dx,_,_,rfl,R.ins,T.cY,T.gW,rfl,?_⟩;refine⟨_,rfl,nb,_,_,_,rfl,rfl,SqL.of hnb,cX (j:=0) rfl,_,rfl,W.o,_,rfl,.inl (SqL.of R.out),z,(q.out.length:Int),?_,_,rfl,?_⟩
 .rw[List.length_map];rfl
 rw[show (AR W q [z]).1=qe q z from rfl]at k;unfold qe at k;refine ddn (fun hz=>?_) (fun hz=>?_)
 .have hz:=bj hz;rw[aj hz]at k;exact⟨sz,fun p hp=>k _ p (.dm hp) hp cP⟩
 .have hz:=aQ hz;rw[aq hz]at k;obtain⟨n,rfl⟩:∃n:Nat,z=(n:Int):=⟨z.toNat,(bN hz.1).symm⟩;rw[bp]at k;refine⟨_,rfl,_,rfl,nb,_,_,_,rfl,rfl,SqL.of hnb,cX (j:=0) rfl,_,rfl,W.o,_,rfl,SqL.of R.out,fun p hp=>?_⟩
  rw[GS _ n (by rw[List.length_map];omega),<-X2]
  have s1:dR H (upd H p (.lst ((q.out.drop n).map iv))):=.dm hp;refine⟨p,q.out.drop n,rfl,cP,by rw[aZ];have:=ok.ou;omega,fun H2 p2 s2 qh h4=>k _ p2 (s1.trans s2) ?_ h4⟩
  cases e:H p2 with
  |none=>rfl
  |some o=>rw[s1 _ _ e]at qh;cases qh
abbrev OF:Stmt:=top 125
theorem TF:cW ["session","numbers","run"] ["session","numbers"] (cS OF):=fsc
def uf (q:Rs) (z:Int):List V:=if 0<=z/\z<=(q.stack.length:Int)-1 then rN q (q.stack.getD z.toNat .nil)else [V.int (-1)]
def Jb (W:RA) (q:Rs) (zs:List Int):List V×Rs:=(uf q (zs.headD 0),q)
theorem TH (T:Tx c A) (D:Df c "top" OF ["session","numbers"] A.vg) (fA:Good c 1 "is_short" A.iO jS) (dD:dA c 1 A.da "from_top" (jb c A)) (i8:Good c 3 "value_answer" A.hJ (j7 c A)):Good c 4 "top" A.vg (iQ c A 1 Jb):=by
 refine D.good TF ?_;rintro X H _ Q E rfl a sn hr ⟨se,dx,W,q,nb,reg,zs,rfl,S,okk,hnb,hnr,hzs,k⟩;obtain⟨z,rfl⟩:=AQ hzs;have ok:=okk.rok;replace k:=CZ S k;refine⟨_,(cN (pSt sn 2 (df (vr sn 0) rfl)) (cN (dX (lr (fJ (pf_ fA (hmo hr) (gl sn) (cK (ixL (vr sn 1) cT) (cK (fB md (dv dk (gl sn) T.fE PySem.boot_len (cK (df (vr sn 2) rfl) cO)) cT) cO))))) (cQ (cV (eX (cK (pc_ T.jr (gl sn)) cO)))) dr) (cQ (cV (pf_ i8 (hmo hr) (gl sn) (cK (vr sn 2) (cK (pm_ T.cY dD (hmo hr) (vr sn 2) (cK (ixL (vr sn 1) cT) cO)) cO))))))),?_⟩;have R:=S.run;obtain⟨as,s1,s2⟩:=R.stk;have hl:(as.map V.ref).length=q.stack.length:=by rw[List.length_map,Paired.length s2,aB]
 refine⟨_,rfl,se,_,dx,_,_,rfl,S.ins,T.hU,T.eK,rfl,?_⟩;refine⟨_,rfl,nb,_,_,_,rfl,rfl,SqL.of hnb,cX (j:=0) rfl,_,rfl,W.r,_,W.dx,_,_,rfl,R.ins,T.cY,T.ff,rfl,W.s,_,rfl,.inl (SqL.of s1),_,_,rfl,rfl,z,(q.stack.length:Int)-1,?_,_,rfl,?_⟩
 .rw[hl];rfl
 rw[show (Jb W q [z]).1=uf q z from rfl]at k;unfold uf at k;refine ddn (fun hz=>?_) (fun hz=>?_)
 .have hz:=bj hz;rw[aj hz]at k;exact⟨sz,fun p hp=>k _ p (.dm hp) hp cP⟩
 .have hz:=aQ hz;rw[aq hz]at k;obtain⟨n,rfl⟩:∃n:Nat,z=(n:Int):=⟨z.toNat,(bN hz.1).symm⟩;rw[bp]at k;obtain⟨v,hv⟩:∃v,q.stack[n]?=some v:=⟨_,af (by omega)⟩
  rw[ah,hv]at k;exact⟨_,rfl,_,rfl,W.r,W.dx,_,rfl,R.ins,rfl,_,rfl,nb,_,_,_,rfl,rfl,SqL.of hnb,cX (j:=0) rfl,W,q,n,v,rfl,R,hv,fun av ha=>⟨W,q,av,v,rfl,R,ok,ha,ok.stk v (aP hv),k⟩⟩
end
theorem QT {X:Cx} {s:Shared} {H:Hp} {scope:Scope} {C:Addr} {cl:List (Str×Addr)} {fp:List Addr} {e:Expr} {ta:TE} {f:Str} {pos:Pos} (he:PE (X.blk s H scope (compEnvC scope cl C X.env) fp) e ta)
  (hb:attributeBase e f (compEnvC scope cl C X.env) (eval e (compEnvC scope cl C X.env))=eval e (compEnvC scope cl C X.env)):PE (X.blk s H scope (compEnvC scope cl C X.env) fp) (.Attribute e f pos) (UO X.K ta f):=
 df (X:=X.blk s H scope (compEnvC scope cl C X.env) fp) he hb
theorem QU {X:Cx} {s:Shared} {H:Hp} {scope:Scope} {C:Addr} {cl:List (Str×Addr)} {fp:List Addr}:nN (X.blk s H scope (compEnvC scope cl C X.env) fp) (.builtin "len") (Sx X.K):=
 dk (X:=X.blk s H scope (compEnvC scope cl C X.env) fp)
section
variable {c:Ct} {A:Ad}
abbrev OG:Stmt:=top 126
theorem TJ:cW ["session","numbers","run"] ["session","numbers"] (cS OG):=fsc
def ug (q:Rs) (z:Int):List V:=if 0<=z/\z<=25 then rN q (q.vars.getD z.toNat .nil)else [V.int (-1)]
def Jc (W:RA) (q:Rs) (zs:List Int):List V×Rs:=(ug q (zs.headD 0),q)
theorem TK (T:Tx c A) (D:Df c "var" OG ["session","numbers"] A.vh) (fA:Good c 1 "is_short" A.iO jS) (i8:Good c 3 "value_answer" A.hJ (j7 c A)):Good c 4 "var" A.vh (iQ c A 1 Jc):=by
 refine D.good TJ ?_;rintro X H _ Q E rfl a sn hr ⟨se,dx,W,q,nb,reg,zs,rfl,S,okk,hnb,hnr,hzs,k⟩;obtain⟨z,rfl⟩:=AQ hzs;have ok:=okk.rok;replace k:=CZ S k;refine⟨_,(cN (pSt sn 2 (df (vr sn 0) rfl)) (cN (dX (lr (fJ (pf_ fA (hmo hr) (gl sn) (cK (ixL (vr sn 1) cT) (cK (fB md (pc_ T.yb (gl sn)) cT) cO))))) (cQ (cV (eX (cK (pc_ T.jr (gl sn)) cO)))) dr) (cQ (cV (pf_ i8 (hmo hr) (gl sn) (cK (vr sn 2) (cK (ixL (df (vr sn 2) rfl) (ixL (vr sn 1) cT)) cO))))))),?_⟩;have R:=S.run;obtain⟨as,v1,v2⟩:=R.vrs;refine⟨_,rfl,se,_,dx,_,_,rfl,S.ins,T.hU,T.eK,rfl,?_⟩;refine⟨_,rfl,nb,_,_,_,rfl,rfl,SqL.of hnb,cX (j:=0) rfl,_,_,rfl,rfl,z,25,rfl,_,rfl,?_⟩;rw[show (Jc W q [z]).1=ug q z from rfl]at k;unfold ug at k;refine ddn (fun hz=>?_) (fun hz=>?_)
 .have hz:=bj hz;rw[aj hz]at k;exact⟨sz,fun p hp=>k _ p (.dm hp) hp cP⟩
 .have hz:=aQ hz;rw[aq hz]at k;obtain⟨n,rfl⟩:∃n:Nat,z=(n:Int):=⟨z.toNat,(bN hz.1).symm⟩;rw[bp]at k;obtain⟨u,hu⟩:∃u,q.vars[n]?=some u:=⟨_,af (by rw[ok.nv];omega)⟩
  obtain⟨b,hb,hbv⟩:=gX v2 hu;rw[ah,hu]at k;exact⟨_,rfl,_,rfl,W.r,_,W.dx,_,_,rfl,R.ins,T.cY,T.fU,rfl,_,rfl,nb,_,_,_,rfl,rfl,SqL.of hnb,cX (j:=0) rfl,W.v,_,_,_,rfl,rfl,SqL.of v1,cX (v:=V.ref b) (by rw[aF,hb];rfl),W,q,b,u,rfl,R,ok,hbv,ok.vrs u (aP hu),k⟩
abbrev El:Stmt:=top 127
theorem OH:cW ["session","numbers","run","answered"] ["session","numbers"] (cS El):=fsc
def AS (W:RA) (q:Rs):Nat:=if du W q=1 then 0 else ((W.l[q.pos]?).map Lo.Tok.at_).getD 0+1
def rO (W:RA) (q:Rs):List V:=[V.int 0,V.int (q.stack.length:Nat),V.int (q.under.length:Nat),V.int (q.cs.length:Nat),V.int (alv q:Nat),V.int (q.full:Nat),V.int (q.out.length:Nat),V.int (AS W q:Nat)]
def fState (W:RA) (q:Rs) (zs:List Int):List V×Rs:=(rO W q,q)
theorem OI (T:Tx c A) (D:Df c "state" El ["session","numbers"] A.mI) (sD:Good c 1 "alive" A.pD (vL c A)) (jl:Good c 1 "standing" A.jM (l9 c A)) (ie:Good c 1 "place_of_next" A.gi (j3 c A)) (jD:dA c 1 A.dh "how_many_made" (lM c A)):Good c 2 "state" A.mI (iQ c A 0 fState):=by
 refine D.good OH ?_;rintro X H _ Q E rfl a sn hr ⟨se,dx,W,q,nb,reg,zs,rfl,S,okk,hnb,hnr,hzs,k⟩;have ok:=okk.rok;replace k:=CZ S k;rw[show (fState W q zs).1=rO W q from rfl]at k;refine⟨_,(cN (pSt sn 2 (df (vr sn 0) rfl)) (cN (pSt sn 3 (eX (cK (pc_ T.tJ (gl sn)) (cK (dv dk (gl sn) T.fE PySem.boot_len (cK (df (vr sn 2) rfl) cO)) (cK (dv dk (gl sn) T.fE PySem.boot_len (cK (df (vr sn 2) rfl) cO)) (cK (F7 T.dw jD (hmo hr) (df (vr sn 2) rfl)) cO)))))) (cN (dH (jJ PySem.F.plainAttrs_list PySem.F.slot_list_extend PySem.F.type_list_extend oE (vr sn 3) (cK (eX (cK (pf_ sD (hmo hr) (gl sn) (cK (vr sn 2) cO)) (cK (df (vr sn 2) rfl) (cK (dv dk (gl sn) T.fE PySem.boot_len (cK (df (vr sn 2) rfl) cO)) cO)))) cO))) (cN (dH (jJ PySem.F.plainAttrs_list PySem.F.slot_list_append PySem.F.type_list_append fh (vr sn 3) (cK (lW (iK iR (pf_ jl (hmo hr) (gl sn) (cK (vr sn 2) cO)) (pc_ T.F9 (gl sn))) cT (fB iH (pf_ ie (hmo hr) (gl sn) (cK (vr sn 2) cO)) cT)) cO))) (cQ (cV (vr sn 3))))))),?_⟩;have R:=S.run;obtain⟨as,s1,s2⟩:=R.stk;obtain⟨ho,sh,d,xs,C,hd⟩:=R.cel;have hl:(as.map V.ref).length=q.stack.length:=by rw[List.length_map,Paired.length s2,aB]
 have hu:(q.under.reverse.map fun (n:Nat)=>V.int (n:Int)).length=q.under.length:=by rw[List.length_map,aB]
 refine⟨_,rfl,se,_,dx,_,_,rfl,S.ins,T.hU,T.eK,rfl,?_⟩;refine⟨_,rfl,W.r,_,W.dx,_,_,rfl,R.ins,T.cY,T.ff,rfl,W.s,_,rfl,.inl (SqL.of s1),_,rfl,W.r,_,W.dx,_,_,rfl,R.ins,T.cY,T.fF,rfl,W.u,_,rfl,.inl (SqL.of R.und),_,rfl,W.r,_,W.dx,_,_,rfl,R.ins,T.cY,T.eQ,rfl,W.L.c,W.L.dx,_,rfl,C.ins,rfl,{W.L with ho:=ho,z:=Hm.hd ho},q.cs,sh,d,xs,rfl,C,sz,fun pa hpa=>?_⟩
 rw[hl,hu];generalize hH1:upd H pa (.lst [V.int 0,V.int (q.stack.length:Nat),V.int (q.under.length:Nat),V.int (q.cs.length:Nat)])=H1;have sm1:dR H H1:=by rw[<-hH1];exact .dm hpa
 have a1:H1 pa=some (.lst [V.int 0,V.int (q.stack.length:Nat),V.int (q.under.length:Nat),V.int (q.cs.length:Nat)]):=by rw[<-hH1];exact cP
 have R1:=R.same sm1;refine⟨_,rfl,.inl ⟨rfl,_,SqL.of a1⟩,_,rfl,W,q,rfl,R1,_,rfl,W.r,_,W.dx,_,_,rfl,R1.ins,T.cY,T.i3,rfl,_,rfl,W.r,_,W.dx,_,_,rfl,R1.ins,T.cY,T.gW,rfl,W.o,_,rfl,.inl (SqL.of R1.out),sz,fun pb hpb=>?_⟩
 have nab:pa≠pb:=cM a1 hpb;refine⟨pa,pb,_,_,rfl,rfl,by rw[cR nab];exact a1,cP,(by show 4+3<=_;decide),?_⟩
 rw[List.length_map];generalize hH2:upd (upd H1 pb (.lst [V.int (alv q:Nat),V.int (q.full:Nat),V.int (q.out.length:Nat)])) pa (.lst ([V.int 0,V.int (q.stack.length:Nat),V.int (q.under.length:Nat),V.int (q.cs.length:Nat)]++ [V.int (alv q:Nat),V.int (q.full:Nat),V.int (q.out.length:Nat)]))=H2;have sm2:dR H H2:=fun b o e=>by rw[<-hH2,cR (cM e hpa),cR (cM (sm1 _ _ e) hpb)];exact sm1 _ _ e
 have a2:H2 pa=some (.lst ([V.int 0,V.int (q.stack.length:Nat),V.int (q.under.length:Nat),V.int (q.cs.length:Nat)]++ [V.int (alv q:Nat),V.int (q.full:Nat),V.int (q.out.length:Nat)])):=by rw[<-hH2];exact cP
 have R2:=R.same sm2;have fin:∀n:Nat,AS W q=n->Q (.ref pa) (upd H2 pa (.lst ([V.int 0,V.int (q.stack.length:Nat),V.int (q.under.length:Nat),V.int (q.cs.length:Nat)]++ [V.int (alv q:Nat),V.int (q.full:Nat),V.int (q.out.length:Nat)]++ [V.int (n:Int)]))):=fun n hn=>by
  subst hn;exact k _ pa (fun b o e=>by rw[cR (cM e hpa)];exact sm2 _ _ e) hpa cP
 refine⟨_,rfl,.inl ⟨rfl,_,SqL.of a2⟩,_,rfl,W,q,rfl,R2,okk.rt.len,okk.len,rfl,_,rfl,?_⟩;by_cases hs:du W q=1
 .rw[show decide (V.int ((du W q:Nat):Int)=V.int 1)=true from aI (by rw[hs];rfl)]
  refine fm ⟨pa,_,_,rfl,rfl,a2,(by show 7<_;decide),_,rfl,?_⟩
  exact fin 0 (aq hs)
 .rw[show decide (V.int ((du W q:Nat):Int)=V.int 1)=false from ao (fun z=>hs (by injection z with z;omega))]
  obtain⟨t,ht⟩:∃t,W.l[q.pos]?=some t:=by
   obtain⟨s,mB⟩:=okk.st;have e:=BI.stand mB;cases s with
   |on=>exact⟨_,af mB.2⟩
   |over=>exact absurd e hs
   |fault f p=>obtain⟨_,_,t,ht,_⟩:=mB;exact⟨t,ht⟩
  refine eY ⟨_,rfl,W,q,t,rfl,R2,ht,_,_,rfl,rfl,pa,_,_,rfl,rfl,a2,(by show 7<_;decide),_,rfl,?_⟩
  exact fin (t.at_+1) (by unfold AS;rw[aj hs,ht];rfl)
abbrev qf:Stmt:=top 128
theorem BL:cW ["session","numbers","run","one","other","number"] ["session","numbers"] (cS qf):=fsc
def uh (q:Rs) (z:Int):Bool:=decide (0<=z/\z<=(q.stack.length:Int)-1)
def nE (q:Rs) (z y:Int):List V:=if uh q z=true/\uh q y=true then [V.int 0,V.int (if Lo.alike q.cs.toArray (q.stack.getD z.toNat .nil) (q.stack.getD y.toNat .nil)=true then 1 else 0),V.int (if Lo.same (q.stack.getD z.toNat .nil) (q.stack.getD y.toNat .nil)=true then 1 else 0)]else [V.int (-1)]
def ui (W:RA) (q:Rs) (zs:List Int):List V×Rs:=(nE q (zs.headD 0) ((zs.drop 1).headD 0),q)
theorem TM {zs:List Int} (h:zs.length=2):∃z y,zs= [z,y]:=by
 cases zs with
 |nil=>cases h
 |cons z r=>obtain⟨y,rfl⟩:=AQ (show r.length=1 by simpa using h);exact⟨z,y,rfl⟩
theorem BM (T:Tx c A) (D:Da c "alike_runs" "alike" qf ["session","numbers"] A.gR) (fA:Good c 1 "is_short" A.iO jS) (dD:dA c 1 A.da "from_top" (jb c A)) (gh:dA c 2 A.dh "are_alike" (mK c A)):Good c 3 "alike_runs" A.gR (iQ c A 2 ui):=by
 refine D.good BL ?_;rintro X H _ Q E rfl a sn hr ⟨se,dx,W,q,nb,reg,zs,rfl,S,okk,hnb,hnr,hzs,k⟩;obtain⟨z,y,rfl⟩:=TM hzs;have ok:=okk.rok;replace k:=CZ S k;rw[show (ui W q [z,y]).1=nE q z y from rfl]at k;refine⟨_,(cN (pSt sn 2 (df (vr sn 0) rfl)) (cN (dX (lr (fJ (dv (Sz a.calm) (gl sn) T.Vb L2.boot_all (cK (pLc sn [("number",5)] (uK (vr sn 1)) (fun _ _ _ _ _=>(rb sn.nd (nx sn 5) rfl)) (fun _ _ _ _ _=>(pf_ fA (hmo hr) (tH rfl) (cK (lS (nx sn 5) (.inl rfl)) (cK (fB md (dv QU (tH rfl) T.fE PySem.boot_len (cK (QT (lS (nx sn 2) (.inr rfl)) rfl) cO)) cT) cO))))) cO)))) (cQ (cV (eX (cK (pc_ T.jr (gl sn)) cO)))) dr) (cN (pSt sn 3 (pm_ T.cY dD (hmo hr) (vr sn 2) (cK (ixL (vr sn 1) cT) cO))) (cN (pSt sn 4 (pm_ T.cY dD (hmo hr) (vr sn 2) (cK (ixL (vr sn 1) cT) cO))) (cQ (cV (eX (cK (pc_ T.tJ (gl sn)) (cK (lW (fJ (pm_ T.dw gh (hmo hr) (df (vr sn 2) rfl) (cK (vr sn 3) (cK (vr sn 4) cO)))) cT cT) (cK (lW (rW (Dn hr.units) (vr sn 3) (vr sn 4) (qP _)) cT cT) cO)))))))))),?_⟩
 have R:=S.run;obtain⟨as,s1,s2⟩:=R.stk;have hl:(as.map V.ref).length=q.stack.length:=by rw[List.length_map,Paired.length s2,aB]
 refine⟨_,rfl,se,_,dx,_,_,rfl,S.ins,T.hU,T.eK,rfl,?_⟩;refine⟨_,rfl,nb,rfl,⟨_,SqL.of hnb⟩,fun D hD=>?_⟩
 refine y4 (K:=X.K) (a:=nb) (xs:=[z,y].map V.int) (fun i H'=>H'=upd H D (.lst (([z,y].take i).map fun x=>V.bl (uh q x)))) rfl ?_ ?_ ?_
 .rintro i H' _ rfl;exact SqL.of (by rw[cR (cM hnb hD)];exact hnb)
 .rintro i u H' hu rfl;rw[aF]at hu;obtain⟨x,hx,rfl⟩:=bc.mp hu;have sm:dR H (upd H D (.lst (([z,y].take i).map fun x=>V.bl (uh q x)))):=.dm hD
  have R':=R.same sm;have s1':=sm _ _ s1;refine⟨rfl,pH ⟨_,rfl,_,rfl,W.r,_,W.dx,_,_,rfl,R'.ins,T.cY,T.ff,rfl,W.s,_,rfl,.inl (SqL.of s1'),_,_,rfl,rfl,x,(q.stack.length:Int)-1,by rw[hl];rfl,?_⟩⟩
  refine⟨_,cP,?_,?_⟩
  .rw[List.length_map,aV];exact aE (show min i [z,y].length<=2 by simp only[aG,WD];omega) (by decide)
  .rw[j6,hX hx,aA];rfl
 rintro H1 rfl;rw[show ([z,y].map V.int).length=2 from rfl];have sm:dR H (upd H D (.lst (([z,y].take 2).map fun x=>V.bl (uh q x)))):=.dm hD
 refine⟨D,[uh q z,uh q y],rfl,SqL.of cP,_,rfl,?_⟩;generalize upd H D (.lst (([z,y].take 2).map fun x=>V.bl (uh q x)))=H1 at sm⊢
 have R1:=R.same sm;have hnb1:=sm _ _ hnb;have oh:∀{p:Addr},H1 p=none->H p=none:=fun {p} hp=>by
  cases e:H p with
  |none=>rfl
  |some o=>rw[sm _ _ e]at hp;cases hp
 unfold nE at k;refine ddn (fun hz=>?_) (fun hz=>?_)
 .have hz:¬(uh q z=true/\uh q y=true):=fun ⟨h1,h2⟩=>by
   rw[h1,h2]at hz;cases hz
  rw[aj hz]at k;exact⟨sz,fun p hp=>k _ p (sm.trans (.dm hp)) (oh hp) cP⟩
 .have hz:uh q z=true/\uh q y=true:=by
   have hz:(uh q z&&(uh q y&&true))=true:=hz;rw[cv,aH]at hz;exact hz
  rw[aq hz]at k;obtain⟨hz1,hz2⟩:=hz;have hz1:=aQ hz1;have hz2:=aQ hz2;obtain⟨n,rfl⟩:∃n:Nat,z=(n:Int):=⟨z.toNat,(bN hz1.1).symm⟩;obtain⟨m,rfl⟩:∃m:Nat,y=(m:Int):=⟨y.toNat,(bN hz2.1).symm⟩;rw[bp,bp]at k;obtain⟨v,hv⟩:∃v,q.stack[n]?=some v:=⟨_,af (by omega)⟩
  obtain⟨u,hu⟩:∃u,q.stack[m]?=some u:=⟨_,af (by omega)⟩
  have ev:q.stack.getD n .nil=v:=by rw[ah,hv];rfl
  have eu:q.stack.getD m .nil=u:=by rw[ah,hu];rfl
  rw[ev,eu]at k;obtain⟨ho,sh,d,xs,C,hd⟩:=R1.cel;refine⟨_,rfl,W.r,W.dx,_,rfl,R1.ins,rfl,_,rfl,nb,_,_,_,rfl,rfl,SqL.of hnb1,cX (j:=0) rfl,W,q,n,v,rfl,R1,hv,fun a0 h0=>?_⟩
  refine⟨_,rfl,W.r,W.dx,_,rfl,R1.ins,rfl,_,rfl,nb,_,_,_,rfl,rfl,SqL.of hnb1,cX (j:=1) rfl,W,q,m,u,rfl,R1,hu,fun a1 h1=>?_⟩
  refine⟨_,rfl,W.r,_,W.dx,_,_,rfl,R1.ins,T.cY,T.eQ,rfl,W.L.c,W.L.dx,_,rfl,C.ins,rfl,_,rfl,_,rfl,{W.L with ho:=ho,z:=Hm.hd ho},q.cs,sh,d,xs,a0,v,a1,u,rfl,C,h0,h1,(ok.stk v (aP hv)).1,(ok.stk u (aP hu)).1,fun H2 s2'=>⟨_,rfl,?_⟩⟩
  have fin:∀b1 b2:Bool,Lo.alike q.cs.toArray v u=b1->Lo.same v u=b2->∀p,H2 p=none->Q (.ref p) (upd H2 p (.lst [V.int 0,V.int (if b1=true then 1 else 0),V.int (if b2=true then 1 else 0)])):=fun b1 b2 e1 e2 p hp=>by
   rw[e1,e2]at k;refine k _ p (sm.trans (s2'.trans (.dm hp))) (oh ?_) cP;cases e:H1 p with
   |none=>rfl
   |some o=>rw[s2' _ _ e]at hp;cases hp
  cases hb1:Lo.alike q.cs.toArray v u with
  |true=>
   refine fm ⟨_,rfl,_,rfl,_,_,iP (fT h0 s2'),iP (fT h1 s2'),eW _ _,eW _ _,_,rfl,?_⟩;rw[l0,AD];cases hb2:Lo.same v u with
   |true=>exact fm ⟨sz,fun p hp=>fin true true hb1 hb2 p hp⟩
   |false=>exact eY ⟨sz,fun p hp=>fin true false hb1 hb2 p hp⟩
  |false=>
   refine eY ⟨_,rfl,_,rfl,_,_,iP (fT h0 s2'),iP (fT h1 s2'),eW _ _,eW _ _,_,rfl,?_⟩;rw[l0,AD];cases hb2:Lo.same v u with
   |true=>exact fm ⟨sz,fun p hp=>fin false true hb1 hb2 p hp⟩
   |false=>exact eY ⟨sz,fun p hp=>fin false false hb1 hb2 p hp⟩
end
def Rs0:Rs:=⟨[],List.replicate 26 (.num 0),[],[],[],0,0,0,0,0⟩
theorem Wu:nzv Rs0.vars=0:=by decide
section
variable {c:Ct} {A:Ad}
abbrev kj:Stmt:=inClass (top 121) 0
theorem sP:cW ["self"] ["self"] (cS kj):=fsc
inductive mz (A:Ad) (vs:List V) (H:Hp) (Q:VK) (E:XK):Prop
 |mk:∀x dx,vs= [.ref x]->H x=some (.ins A.dF dx [])->Q .non (upd H x (.ins A.dF dx [("run",.non)]))->mz A vs H Q E
theorem yG (T:Tx c A) (D:Dm c A.dF "__init__" "Session.__init__" kj ["self"]):dA c 1 A.dF "__init__" (mz A):=by
 refine D.good sP ?_;rintro X H _ Q E rfl a sn hr ⟨x,dx,rfl,hx,k⟩;refine⟨_,(cQ (eP (vr sn 0) R9 rfl)),?_⟩;exact⟨_,rfl,x,_,dx,_,rfl,hx,T.hU,T.eK,(by decide),k⟩
abbrev nF:Stmt:=inClass (top 72) 0
theorem yH:cW ["self","program","variable"] ["self","program"] (cS nF):=fsc
inductive og (c:Ct) (A:Ad) (vs:List V) (H:Hp) (Q:VK) (E:XK):Prop
 |mk:∀x dx g dg ps pp l tg,vs= [.ref x,.ref g]->H x=some (.ins A.da dx [])->BB A H g dg ps pp l tg->ps≠pp->(∀H' W,RA.r W=x->RA.l W=l->RA.tg W=tg->(RA.g W=g/\RA.ps W=ps/\RA.pp W=pp)->fO c A H' W Rs0->(∀b o,H b=some o->b≠x->H' b=some o)->(∀p∈rmu W,p=x\/H p=none)->Q .non H')->og c A vs H Q E
def Beh (x:Addr) (H H':Hp):Prop:=∀b o,H b=some o->b≠x->H' b=some o
theorem Beh.none {x p:Addr} {H H':Hp} (h:Beh x H H') (hp:H' p=none) (n:p≠x):H p=none:=by
 cases e:H p with
 |none=>rfl
 |some o=>rw[h _ _ e n]at hp;cases hp
theorem GU (T:Tx c A) (D:Dm c A.da "__init__" "Run.__init__" nF ["self","program"]) (Em:GoodC c 1 "Cells" A.dh (oo c A)):dA c 3 A.da "__init__" (og c A):=by
 refine D.good yH ?_;rintro X H _ Q E rfl a sn hr ⟨x,dx,g,dg,ps,pp,l,tg,rfl,hx,hpr,hpp,k⟩;refine⟨_,(cN (eP (vr sn 0) (vr sn 1) rfl) (cN (eP (vr sn 0) (U8 Em (hmo hr) (gl sn)) rfl) (cN (eP (vr sn 0) (eX cO) rfl) (cN (eP (vr sn 0) (pLc sn [("variable",2)] (wb (gl sn) T.vj (cK (pc_ T.yb (gl sn)) cO)) (fun _ _ _ _ _=>(rb sn.nd (nx sn 2) rfl)) (fun _ _ _ _ _=>(pc_ T.lA (tH rfl)))) rfl) (cN (eP (vr sn 0) cT rfl) (cN (eP (vr sn 0) (eX cO) rfl) (cN (eP (vr sn 0) (eX cO) rfl) (cN (eP (vr sn 0) (eX cO) rfl) (cN (eP (vr sn 0) cT rfl) (cN (eP (vr sn 0) cT rfl) (cN (eP (vr sn 0) cT rfl) (cN (eP (vr sn 0) (pc_ T.dB (gl sn)) rfl) (cQ (eP (vr sn 0) cT rfl)))))))))))))),?_⟩
 refine⟨_,rfl,_,rfl,x,_,dx,_,rfl,hx,T.cY,T.hR,(by decide),?_⟩
 have b1:Beh x H (upd H x (.ins A.da dx (dE "program" (.ref g) []))):=fun b o e n=>by rw[cR n];exact e
 have x1:(upd H x (.ins A.da dx (dE "program" (.ref g) []))) x=some (.ins A.da dx [("program",.ref g)]):=cP;generalize upd H x (.ins A.da dx (dE "program" (.ref g) []))=H1 at b1 x1⊢;intro xc dxc hxc hdc nM;refine⟨xc,dxc,rfl,cP,fun H2 L eL eho ez C keep fresh=>⟨rfl,?_⟩⟩
 have nxc:x≠xc:=cM x1 hxc;have nxd:x≠dxc:=cM x1 hdc;have s12:∀b o,H1 b=some o->H2 b=some o:=fun b o e=>keep b o (by rw[cR (cM e hxc),cR (cM e hdc)];exact e) (cM e hxc)
 have x2:=s12 _ _ x1;have fr2:∀p∈cmu L,H1 p=none/\p≠x:=fun p hp=>by
  rcases fresh p hp with hq|hq
  .rw[hq];exact⟨hxc,fun z=>nxc z.symm⟩
  .have h1:p≠xc:=fun z=>by rw[z,cP]at hq;cases hq
   rw[cR h1]at hq;have h2:p≠dxc:=fun z=>by rw[z,cP]at hq;cases hq
   rw[cR h2]at hq;exact⟨hq,fun z=>by rw[z,x1]at hq;cases hq⟩
 refine⟨_,rfl,x,_,dx,_,rfl,x2,T.cY,T.eQ,(by show 1<1000;decide),?_⟩
 have b3:Beh x H2 (upd H2 x (.ins A.da dx (dE "cells" (.ref xc) [("program",.ref g)]))):=fun b o e n=>by rw[cR n];exact e
 have x3:(upd H2 x (.ins A.da dx (dE "cells" (.ref xc) [("program",.ref g)]))) x=some (.ins A.da dx [("program",.ref g),("cells",.ref xc)]):=cP;generalize upd H2 x (.ins A.da dx (dE "cells" (.ref xc) [("program",.ref g)]))=H3 at b3 x3⊢;refine⟨aO _,fun sa hsa=>⟨_,rfl,x,_,dx,_,rfl,by rw[cR (cM x3 hsa)];exact x3,T.cY,T.ff,(by show 2<1000;decide),?_⟩⟩
 have nsx:sa≠x:=(cM x3 hsa).symm;have b4:Beh x H3 (upd (upd H3 sa (.lst [])) x (.ins A.da dx (dE "stack" (.ref sa) [("program",.ref g),("cells",.ref xc)]))):=fun b o e n=>by rw[cR n,cR (cM e hsa)];exact e
 have x4:(upd (upd H3 sa (.lst [])) x (.ins A.da dx (dE "stack" (.ref sa) [("program",.ref g),("cells",.ref xc)]))) x=some (.ins A.da dx [("program",.ref g),("cells",.ref xc),("stack",.ref sa)]):=cP;have l4:(upd (upd H3 sa (.lst [])) x (.ins A.da dx (dE "stack" (.ref sa) [("program",.ref g),("cells",.ref xc)]))) sa=some (.lst []):=by rw[cR nsx];exact cP
 generalize upd (upd H3 sa (.lst [])) x (.ins A.da dx (dE "stack" (.ref sa) [("program",.ref g),("cells",.ref xc)]))=H4 at b4 x4 l4⊢;refine⟨26,rfl,by decide,by decide,fun va hva=>?_⟩
 refine MR (lo:=0) (n:=(26:Int).toNat) (fun i H'=>∃as:List Addr,dR H4 H'/\H' va=some (.lst (as.map V.ref))/\Vals X.K H' as (List.replicate i (.num 0))) ?_ ?_ ?_
 .exact⟨[],.dm hva,cP,.nil⟩
 .rintro i H' hi ⟨as,sm,h1,h2⟩;refine⟨rfl,pH ⟨_,h1,?_,as++ [A.lA],fun b o e=>?_,?_,?_⟩⟩
  .rw[List.length_map,Paired.length h2,WT];exact aR hi (by decide)
  .rw[cR (cM e hva)];exact sm _ _ e
  .rw[cP,aA];rfl
  .have k2:dj [va] H' (upd H' va (.lst (as.map V.ref++ [V.ref A.lA]))):=kui;have n2:∀p∈ [va],NT H' p:=fun p hp=>by simp at hp;subst hp;exact NT.of h1
   rw[List.replicate_succ'];exact Paired.snoc (Vals.keep h2 k2 n2) (T.z6 _)
 rintro H5 ⟨vas,s45,v5,v5v⟩;have x5:=s45 _ _ x4;have l5:=s45 _ _ l4;have nvx:va≠x:=(cM x4 hva).symm;have nvs:va≠sa:=(cM l4 hva).symm;refine⟨_,rfl,x,_,dx,_,rfl,x5,T.cY,T.fU,(by show 3<1000;decide),?_⟩
 have b6:Beh x H5 (upd H5 x (.ins A.da dx (dE "variables" (.ref va) [("program",.ref g),("cells",.ref xc),("stack",.ref sa)]))):=fun b o e n=>by rw[cR n];exact e
 have x6:(upd H5 x (.ins A.da dx (dE "variables" (.ref va) [("program",.ref g),("cells",.ref xc),("stack",.ref sa)]))) x=some (.ins A.da dx [("program",.ref g),("cells",.ref xc),("stack",.ref sa),("variables",.ref va)]):=cP;generalize upd H5 x (.ins A.da dx (dE "variables" (.ref va) [("program",.ref g),("cells",.ref xc),("stack",.ref sa)]))=H6 at b6 x6⊢;refine⟨_,rfl,x,_,dx,_,rfl,x6,T.cY,T.d8,(by show 4<1000;decide),?_⟩
 have b6z:Beh x H6 (upd H6 x (.ins A.da dx (dE "variables_not_zero" (.int 0) [("program",.ref g),("cells",.ref xc),("stack",.ref sa),("variables",.ref va)]))):=fun b o e n=>by rw[cR n];exact e
 have x6z:(upd H6 x (.ins A.da dx (dE "variables_not_zero" (.int 0) [("program",.ref g),("cells",.ref xc),("stack",.ref sa),("variables",.ref va)]))) x=some (.ins A.da dx [("program",.ref g),("cells",.ref xc),("stack",.ref sa),("variables",.ref va),("variables_not_zero",.int 0)]):=cP;generalize (upd H6 x (.ins A.da dx (dE "variables_not_zero" (.int 0) [("program",.ref g),("cells",.ref xc),("stack",.ref sa),("variables",.ref va)])))=H6z at b6z x6z⊢;refine⟨aO _,fun ta hta=>⟨_,rfl,x,_,dx,_,rfl,by rw[cR (cM x6z hta)];exact x6z,T.cY,T.ji,(by show 5<1000;decide),?_⟩⟩
 have ntax:ta≠x:=(cM x6z hta).symm;have b6t:Beh x H6z (upd (upd H6z ta (.lst [])) x (.ins A.da dx (dE "taken" (.ref ta) [("program",.ref g),("cells",.ref xc),("stack",.ref sa),("variables",.ref va),("variables_not_zero",.int 0)]))):=fun b o e n=>by rw[cR n,cR (cM e hta)];exact e
 have x6t:(upd (upd H6z ta (.lst [])) x (.ins A.da dx (dE "taken" (.ref ta) [("program",.ref g),("cells",.ref xc),("stack",.ref sa),("variables",.ref va),("variables_not_zero",.int 0)]))) x=some (.ins A.da dx [("program",.ref g),("cells",.ref xc),("stack",.ref sa),("variables",.ref va),("variables_not_zero",.int 0),("taken",.ref ta)]):=cP;have l6t:(upd (upd H6z ta (.lst [])) x (.ins A.da dx (dE "taken" (.ref ta) [("program",.ref g),("cells",.ref xc),("stack",.ref sa),("variables",.ref va),("variables_not_zero",.int 0)]))) ta=some (.lst []):=by rw[cR ntax];exact cP
 generalize (upd (upd H6z ta (.lst [])) x (.ins A.da dx (dE "taken" (.ref ta) [("program",.ref g),("cells",.ref xc),("stack",.ref sa),("variables",.ref va),("variables_not_zero",.int 0)])))=H6t at b6t x6t l6t⊢;refine⟨aO _,fun ua hua=>⟨_,rfl,x,_,dx,_,rfl,by rw[cR (cM x6t hua)];exact x6t,T.cY,T.fF,(by show 6<1000;decide),?_⟩⟩
 have nuax:ua≠x:=(cM x6t hua).symm;have b7:Beh x H6t (upd (upd H6t ua (.lst [])) x (.ins A.da dx (dE "under_way" (.ref ua) [("program",.ref g),("cells",.ref xc),("stack",.ref sa),("variables",.ref va),("variables_not_zero",.int 0),("taken",.ref ta)]))):=fun b o e n=>by rw[cR n,cR (cM e hua)];exact e
 have x7:(upd (upd H6t ua (.lst [])) x (.ins A.da dx (dE "under_way" (.ref ua) [("program",.ref g),("cells",.ref xc),("stack",.ref sa),("variables",.ref va),("variables_not_zero",.int 0),("taken",.ref ta)]))) x=some (.ins A.da dx [("program",.ref g),("cells",.ref xc),("stack",.ref sa),("variables",.ref va),("variables_not_zero",.int 0),("taken",.ref ta),("under_way",.ref ua)]):=cP;have l7:(upd (upd H6t ua (.lst [])) x (.ins A.da dx (dE "under_way" (.ref ua) [("program",.ref g),("cells",.ref xc),("stack",.ref sa),("variables",.ref va),("variables_not_zero",.int 0),("taken",.ref ta)]))) ua=some (.lst []):=by rw[cR nuax];exact cP
 generalize (upd (upd H6t ua (.lst [])) x (.ins A.da dx (dE "under_way" (.ref ua) [("program",.ref g),("cells",.ref xc),("stack",.ref sa),("variables",.ref va),("variables_not_zero",.int 0),("taken",.ref ta)])))=H7 at b7 x7 l7⊢;refine⟨aO _,fun oa hoa=>⟨_,rfl,x,_,dx,_,rfl,by rw[cR (cM x7 hoa)];exact x7,T.cY,T.gW,(by show 7<1000;decide),?_⟩⟩
 have noax:oa≠x:=(cM x7 hoa).symm;have b8:Beh x H7 (upd (upd H7 oa (.lst [])) x (.ins A.da dx (dE "output" (.ref oa) [("program",.ref g),("cells",.ref xc),("stack",.ref sa),("variables",.ref va),("variables_not_zero",.int 0),("taken",.ref ta),("under_way",.ref ua)]))):=fun b o e n=>by rw[cR n,cR (cM e hoa)];exact e
 have x8:(upd (upd H7 oa (.lst [])) x (.ins A.da dx (dE "output" (.ref oa) [("program",.ref g),("cells",.ref xc),("stack",.ref sa),("variables",.ref va),("variables_not_zero",.int 0),("taken",.ref ta),("under_way",.ref ua)]))) x=some (.ins A.da dx [("program",.ref g),("cells",.ref xc),("stack",.ref sa),("variables",.ref va),("variables_not_zero",.int 0),("taken",.ref ta),("under_way",.ref ua),("output",.ref oa)]):=cP;have l8:(upd (upd H7 oa (.lst [])) x (.ins A.da dx (dE "output" (.ref oa) [("program",.ref g),("cells",.ref xc),("stack",.ref sa),("variables",.ref va),("variables_not_zero",.int 0),("taken",.ref ta),("under_way",.ref ua)]))) oa=some (.lst []):=by rw[cR noax];exact cP
 generalize (upd (upd H7 oa (.lst [])) x (.ins A.da dx (dE "output" (.ref oa) [("program",.ref g),("cells",.ref xc),("stack",.ref sa),("variables",.ref va),("variables_not_zero",.int 0),("taken",.ref ta),("under_way",.ref ua)])))=H8 at b8 x8 l8⊢;refine⟨_,rfl,x,_,dx,_,rfl,x8,T.cY,T.fz,(by show 8<1000;decide),?_⟩
 refine⟨_,rfl,x,_,dx,_,rfl,cP,T.cY,T.fQ,(by show 9<1000;decide),?_⟩
 refine⟨_,rfl,x,_,dx,_,rfl,cP,T.cY,T.eU,(by show 10<1000;decide),?_⟩
 refine⟨_,rfl,x,_,dx,_,rfl,cP,T.cY,T.jX,(by show 11<1000;decide),?_⟩
 refine⟨_,rfl,x,_,dx,_,rfl,cP,T.cY,T.i3,(by show 12<1000;decide),?_⟩
 rw[j6,j6,j6,j6]
 let W:RA:=⟨x,dx,g,dg,ps,pp,sa,va,ua,oa,L,l,tg,ta⟩
 have exc:xc=L.c:=eL.symm;subst exc;show Q .non (upd H8 x (.ins A.da dx (kW W Rs0 0)));have bf:Beh x H8 (upd H8 x (.ins A.da dx (kW W Rs0 0))):=fun b o e n=>by rw[cR n];exact e
 have xf:(upd H8 x (.ins A.da dx (kW W Rs0 0))) x=some (.ins A.da dx (kW W Rs0 0)):=cP;generalize upd H8 x (.ins A.da dx (kW W Rs0 0))=Hf at bf xf⊢;have f7:Beh x H7 Hf:=fun b o e n=>bf _ _ (b8 _ _ e n) n
 have f6t:Beh x H6t Hf:=fun b o e n=>f7 _ _ (b7 _ _ e n) n
 have f6z:Beh x H6z Hf:=fun b o e n=>f6t _ _ (b6t _ _ e n) n
 have f6:Beh x H6 Hf:=fun b o e n=>f6z _ _ (b6z _ _ e n) n
 have f5:Beh x H5 Hf:=fun b o e n=>f6 _ _ (b6 _ _ e n) n
 have f4:Beh x H4 Hf:=fun b o e n=>f5 _ _ (s45 _ _ e) n
 have f3:Beh x H3 Hf:=fun b o e n=>f4 _ _ (b4 _ _ e n) n
 have f2:Beh x H2 Hf:=fun b o e n=>f3 _ _ (b3 _ _ e n) n
 have f0:Beh x H Hf:=fun b o e n=>f2 _ _ (s12 _ _ (b1 _ _ e n)) n
 have kx:dj [x] H2 Hf:=fun b o e n=>f2 b o e (by simpa using n)
 have nx2:∀p∈ [x],NT H2 p:=fun p hp=>by simp at hp;subst hp;exact NT.of x2
 have kx5:dj [x] H5 Hf:=fun b o e n=>f5 b o e (by simpa using n)
 have nx5:∀p∈ [x],NT H5 p:=fun p hp=>by simp at hp;subst hp;exact NT.of x5
 have kx0:dj [x] H Hf:=fun b o e n=>f0 b o e (by simpa using n)
 have nx0:∀p∈ [x],NT H p:=fun p hp=>by simp at hp;subst hp;exact NT.of hx
 obtain⟨fs,cf,_⟩:=C.fst;obtain⟨rs,cr,_⟩:=C.rst;obtain⟨ss,pst,_⟩:=hpr.steps;have gx:g≠x:=fun z=>by
  have:=hpr.ins
  rw[z,hx]at this;injection this with this;injection this with _ _ this
  cases this
 have psx:ps≠x:=neo pst hx;have ppx:pp≠x:=neo hpr.places hx;have lf:Hf sa=some (.lst []):=f4 _ _ l4 nsx;have nux:=nuax;have nox:=noax;have old2:∀b o,H2 b=some o->b≠x->b≠sa/\b≠va/\b≠ua/\b≠oa/\b≠ta:=fun b o e n=>by
  have e3:=b3 _ _ e n;have e4:=b4 _ _ e3 n;have e6:=b6z _ _ (b6 _ _ (s45 _ _ e4) n) n;have e6t:=b6t _ _ e6 n;have e7:=b7 _ _ e6t n;exact⟨cM e3 hsa,cM e4 hva,cM e6t hua,cM e7 hoa,cM e6 hta⟩
 have in2:∀b o,H b=some o->b≠x->H2 b=some o:=fun b o e n=>s12 _ _ (b1 _ _ e n)
 have cm:∀b o,H b=some o->b≠x->b∉cmu L:=fun b o e n hb=>by
  have:=(fr2 b hb).1
  rw[b1 _ _ e n]at this;cases this
 have l6:=b6z _ _ (b6 _ _ l5 nsx) nsx;have v6:=b6z _ _ (b6 _ _ v5 nvx) nvx;have sts:sa≠ta:=cM l6 hta;have vts:va≠ta:=cM v6 hta;have l6b:=b6t _ _ l6 nsx;have v6b:=b6t _ _ v6 nvx;have sus:sa≠ua:=cM l6b hua;have vus:va≠ua:=cM v6b hua;have tus:ta≠ua:=cM l6t hua;have sos:sa≠oa:=cM (b7 _ _ l6b nsx) hoa;have vos:va≠oa:=cM (b7 _ _ v6b nvx) hoa;have tos:ta≠oa:=cM (b7 _ _ l6t ntax) hoa;have uos:ua≠oa:=cM l7 hoa;have cx:∀p,p∈cmu L->p≠x:=fun p hp=>(fr2 p hp).2
 obtain⟨F1,F2,F3,F4,F5⟩:=old2 _ _ cf (cx _ (by simp[cmu]))
 obtain⟨R1,R2,R3,R4,R5⟩:=old2 _ _ cr (cx _ (by simp[cmu]))
 obtain⟨S1,S2,S3,S4,S5⟩:=old2 _ _ C.shp (cx _ (by simp[cmu]))
 obtain⟨G1,G2,G3,G4,G5⟩:=old2 _ _ C.hol (cx _ (by simp[cmu]))
 obtain⟨P1,P2,P3,P4,P5⟩:=old2 _ _ (in2 _ _ pst psx) psx;obtain⟨Q1,Q2,Q3,Q4,Q5⟩:=old2 _ _ (in2 _ _ hpr.places ppx) ppx;have pc:=cm _ _ pst psx;have qc:=cm _ _ hpr.places ppx;simp only[cmu,ag,aJ,bw,X3]at pc qc;have eLL:({L with ho:=[],z:=Hm.hd []}:CL)=L:=by
  cases L;simp only at eho ez;subst eho ez;rfl
 have RX:e9 (ct X) A Hf W Rs0 [] (roots Rs0 []) 0:=by
  refine⟨xf,hpr.keep kx0 nx0 (by simpa using gx) (by simpa using psx) (by simpa using ppx),⟨[],[],[],[],?_,au _,?_⟩,⟨[],lf,.nil⟩,⟨vas,f5 _ _ v5 nvx,Vals.keep v5v kx5 nx5⟩,⟨[],f6t _ _ l6t ntax,.nil⟩,f7 _ _ l7 nux,bf _ _ l8 nox,?_⟩
  .show eC (ct X) A Hf {L with ho:=[],z:=Hm.hd []} [] [] [] []
   rw[eLL];refine C.keep kx nx2 (fun p hp=>?_)
   simp at hp;subst hp;exact⟨nxc,fun z=>(fr2 _ z).2 rfl⟩
  .rw[show roots Rs0 []=List.replicate 26 (.num 0)from rfl];exact Hm.Hi.plain (cs:=[]) 0 (ho:=[])
  .show [sa,va,ua,oa,ta,L.f,L.r,L.s,L.h,ps,pp].Nodup;simp only[cg,ag,aJ,bw,X3,List.nodup_nil,and_true,not_false_eq_true];exact⟨⟨nvs.symm,sus,sos,sts,F1.symm,R1.symm,S1.symm,G1.symm,P1.symm,Q1.symm⟩,⟨vus,vos,vts,F2.symm,R2.symm,S2.symm,G2.symm,P2.symm,Q2.symm⟩,⟨uos,tus.symm,F3.symm,R3.symm,S3.symm,G3.symm,P3.symm,Q3.symm⟩,⟨tos.symm,F4.symm,R4.symm,S4.symm,G4.symm,P4.symm,Q4.symm⟩,⟨F5.symm,R5.symm,S5.symm,G5.symm,P5.symm,Q5.symm⟩,
    ⟨C.d1,C.d2,C.d4,cw pc.1,cw qc.1⟩,⟨C.d3,C.d5,cw pc.2.1,cw qc.2.1⟩,⟨C.d6,cw pc.2.2.1,cw qc.2.2.1⟩,⟨cw pc.2.2.2.2.1,cw qc.2.2.2.2.1⟩,hpp⟩
 have RX':e9 (ct X) A Hf W Rs0 [] (roots Rs0 []) (nzv Rs0.vars):=by rw[Wu];exact RX
 refine k Hf W rfl rfl rfl ⟨rfl,rfl,rfl⟩ (fO.of RX') f0 ?_
 .have nw:∀p,p≠x->(∀b o,H2 b=some o->b≠x->b≠p)->H p=none:=fun p n h=>by
   cases e:H p with
   |none=>rfl
   |some o=>exact absurd rfl (h p o (in2 _ _ e n) n)
  intro p hp;simp only[rmu,ag,aJ,bw]at hp;have nc:∀p,p∈cmu L->H p=none:=fun p hp=>by
   cases e:H p with
   |none=>rfl
   |some o=>exact absurd hp (cm _ _ e (cx p hp))
  rcases hp with rfl|rfl|rfl|rfl|rfl|rfl|rfl|rfl|rfl|rfl|rfl|rfl
  .exact .inl rfl
  .exact .inr (nw _ nsx fun b o e n=>(old2 b o e n).1)
  .exact .inr (nw _ nvx fun b o e n=>(old2 b o e n).2.1)
  .exact .inr (nw _ nux fun b o e n=>(old2 b o e n).2.2.1)
  .exact .inr (nw _ nox fun b o e n=>(old2 b o e n).2.2.2.1)
  .exact .inr (nw _ ntax fun b o e n=>(old2 b o e n).2.2.2.2)
  .exact .inr (nc _ (by simp[cmu,W]))
  .exact .inr (nc _ (by simp[cmu,W]))
  .exact .inr (nc _ (by simp[cmu,W]))
  .exact .inr (nc _ (by simp[cmu,W]))
  .exact .inr (nc _ (by simp[cmu,W]))
  .exact .inr (nc _ (by simp[cmu,W]))
end
section
variable {c:Ct} {A:Ad}
theorem AU {W:RA} {p:Addr} (h:p∈foot W):p∈rmu W\/p=W.g\/p=W.ps\/p=W.pp:=by
 simp only[foot,rmu,ag,aJ,bw]at h⊢;rcases h with h|h|h|h|h|h|h|h|h|h|h|h|h|h|h<;>simp[h]
theorem fO.ses {H:Hp} {se dx:Addr} {v0 v1:V} {W:RA} {q:Rs} (R:fO c A H W q) (hs:H se=some (.ins A.dF dx [("run",v0)])) (n:se∉rmu W):fO c A (upd H se (.ins A.dF dx [("run",v1)])) W q:=by
 obtain⟨ss,p1,_⟩:=R.prog.steps;refine R.keep (S:=[se]) (kui) (fun p hp=>by simp at hp;subst hp;exact NT.of hs) (fun p hp z=>?_)
 simp at hp;subst hp;rcases AU z with z|z|z|z
 .exact n z
 .have:=R.prog.ins
  rw[<-z,hs]at this;injection this with this;injection this with _ _ this
  simp[LL]at this
 .exact(neo hs p1) z
 .exact(neo hs R.prog.places) z
abbrev s_again:Stmt:=top 130
theorem OJ:cW ["session","numbers"] ["session","numbers"] (cS s_again):=fsc
def uj (W:RA) (q:Rs) (zs:List Int):List V×Rs:=([V.int 0,V.int 0],Rs0)
theorem OK (T:Tx c A) (D:Df c "again" s_again ["session","numbers"] A.mJ) (C0:GoodC c 3 "Run" A.da (og c A)):Good c 5 "again" A.mJ (iQ c A 0 uj):=by
 refine D.good OJ ?_;rintro X H _ Q E rfl a sn hr ⟨se,dx,W,q,nb,reg,zs,rfl,S,okk,hnb,hnr,hzs,k⟩;refine⟨_,(cN (eP (vr sn 0) (pk_ C0 (hmo hr) (gl sn) (cK (df (df (vr sn 0) rfl) rfl) cO)) rfl) (cQ (cV (eX (cK (pc_ T.tJ (gl sn)) (cK cT cO)))))),?_⟩;have R:=S.run;have hpp:W.ps≠W.pp:=by
  have:=(bC.mp (bC.mp R.l.nd).2.1).2.1
  simpa using this
 refine⟨_,rfl,se,_,dx,_,_,rfl,S.ins,T.hU,T.eK,rfl,W.r,_,W.dx,_,_,rfl,R.ins,T.cY,T.hR,rfl,?_⟩;intro x dx2 hx hdx nM;have sm:∀{u v:HO},dR H (upd (upd H dx2 u) x v):=fun b o e=>by rw[cR (cM e hx),cR (cM e hdx)];exact e
 refine⟨x,dx2,W.g,W.dg,W.ps,W.pp,W.l,W.tg,rfl,cP,R.prog.keep (S:=[]) (.of sm) (fun p hp=>by simp at hp) (by simp) (by simp) (by simp),hpp,fun H2 W2 er el et eg R2 keep fresh=>⟨rfl,?_⟩⟩
 have in2:∀b o,H b=some o->H2 b=some o:=fun b o e=>keep b o (sm _ _ e) (cM e hx)
 have se2:=in2 _ _ S.ins;have nse:∀b o,H b=some o->b∉rmu W2:=fun b o e hb=>by
  rcases fresh b hb with z|z
  .rw[z,hx]at e;cases e
  .rw[sm _ _ e]at z;cases z
 refine⟨_,rfl,se,_,dx,_,rfl,se2,T.hU,T.eK,(by show 1<1000;decide),sz,fun p hp=>?_⟩
 have R3:fO (ct X) A (upd H2 se (.ins A.dF dx [("run",.ref x)])) W2 Rs0:=R2.ses se2 (nse _ _ S.ins);have oh:H p=none:=by
  cases e:H p with
  |none=>rfl
  |some o=>
   by_cases z:p=se
   .subst z;rw[show (upd H2 p (.ins A.dF dx (dE "run" (.ref x) [("run",.ref W.r)]))) p=_ from cP]at hp;cases hp
   .rw[cR z,in2 _ _ e]at hp;cases hp
 have hp':(upd H2 se (.ins A.dF dx [("run",.ref x)])) p=none:=hp;have nps:se≠p:=cM S.ins oh;refine k _ p W2 ⟨?_,R3.same (.dm hp')⟩ el et (fun b o e n1 n2=>?_) (fun b hb=>?_) oh cP
 .rw[cR nps];show (upd H2 se (.ins A.dF dx [("run",.ref x)])) se=_;rw[cP,er]
 .rw[cR (cM e oh)];show (upd H2 se _) b=_;rw[cR n1];exact in2 _ _ e
 .rcases AU hb with hb|hb|hb|hb
  .right
   cases e:H b with
   |none=>rfl
   |some o=>exact absurd hb (nse _ _ e)
  .left;rw[hb,eg.1];simp[foot]
  .left;rw[hb,eg.2.1];simp[foot]
  .left;rw[hb,eg.2.2];simp[foot]
end
theorem zr:∀(r:Lo.Bytes) (p:Nat) (now:Lo.Bytes),∀t∈Lo.wordsFrom p now r,t.b.length<=now.length+r.length
 | [],p,now,t,ht=>by
  unfold Lo.wordsFrom at ht;split at ht
  .simp at ht
  .simp at ht;subst ht;simp
 |c::r,p,now,t,ht=>by
  unfold Lo.wordsFrom at ht;split at ht
  .split at ht
   .have:=zr r _ _ t ht;simp at this⊢;omega
   .rcases ag.mp ht with rfl|ht
    .simp
    .have:=zr r _ _ t ht;simp at this⊢;omega
  .have:=zr r _ _ t ht;simp at this⊢;omega
theorem GV {l:List Lo.Tok}:∀(f k:Nat) (st:Pz.RS) {e j:Nat},Pz.scan l f k st= .error (e,j)->e≠0/\∃t,l[j]?=some t
 |0,k,st,e,j,h=>by cases h
 |f+1,k,st,e,j,h=>by
  unfold Pz.scan at h;cases ht:l[k]? with
  |none=>rw[ht]at h;cases h
  |some t=>
   rw[ht]at h;dsimp only at h;cases hs:Pz.step l k t st with
   |error e'=>
    rw[hs]at h;injection h with h;injection h with h1 h2
    subst h1 h2;exact⟨Pz.FJ hs,t,ht⟩
   |ok gg=>rw[hs]at h;exact GV f (k+1) gg h
section
variable {c:Ct} {A:Ad}
abbrev En:Stmt:=top 122
theorem OL:cW ["session","text","reading","found","byte"] ["session","text"] (cS En):=fsc
inductive AV (c:Ct) (A:Ad) (vs:List V) (H:Hp) (Q:VK) (E:XK):Prop
 |mk:∀se dx tx v0,∀bs:Lo.Bytes,vs= [.ref se,.ref tx]->H se=some (.ins A.dF dx [("run",v0)])->H tx=some (.lst (bs.map iv))->bs.length<=40000->(4096<bs.length->∀H' p,dR H H'->H p=none->H' p=some (.lst [V.int (-1)])->Q (.ref p) H')->(bs.length<=4096->∀e j,Lo.faultOf bs=some (e,j)->∀H' p,dR H H'->H p=none->H' p=some (.lst [V.int (-3),V.int (e:Nat),V.int (j:Nat)])->Q (.ref p) H')->(bs.length<=4096->Lo.faultOf bs=none->∀H' p W,AN c A H' se dx W Rs0->W.l=Lo.wordsOf bs->Pz.Rt W.l W.tg (Pz.inb W.l)->(∀b o,H b=some o->b≠se->H' b=some o)->(∀b∈foot W,H b=none)->H p=none->H' p=some (.lst [V.int 0,V.int ((Lo.wordsOf bs).length:Nat)])->Q (.ref p) H')->AV c A vs H Q E
theorem OM (T:Tx c A) (D:Df c "begin" En ["session","text"] A.sq) (xq:GoodC c 3 "Reading" A.cZ (mh A)) (xr:GoodC c 3 "Program" A.dY (mi A)) (C0:GoodC c 3 "Run" A.da (og c A)) (uk:Good c 5 "read_all" A.lC (rB A)):
  Good c 6 "begin" A.sq (AV c A):=by
 refine D.good OL ?_;rintro X H _ Q E rfl a sn hr ⟨se,dx,tx,v0,bs,rfl,hse,htx,hbl,k1,k2,k3⟩;refine⟨_,(cN (dX (Mv (iK oA (dv dk (gl sn) T.fE PySem.boot_len (cK (vr sn 1) cO)) (pc_ T.z9 (gl sn))) (Hn (fJ (dv (Sy a.calm) (gl sn) T.Vc boot_any (cK (pLc sn [("byte",4)] (uK (vr sn 1)) (fun _ _ _ _ _=>(rb sn.nd (nx sn 4) rfl)) (fun _ _ _ _ _=>(J7 (yn L2.mV (lS (nx sn 4) (.inl rfl)) cT) (tf (yn oA (lS (nx sn 4) (.inl rfl)) (pc_ T.sI (tH rfl))))))) cO))))).pt (cQ (cV (eX (cK (pc_ T.jr (gl sn)) cO)))) dr) (cN (pSt sn 2 (pk_ xq (hmo hr) (gl sn) (cK (vr sn 1) cO))) (cN (pSt sn 3 (pf_ uk (hmo hr) (gl sn) (cK (vr sn 2) cO))) (cN (dX (iK Cw (ixT (vr sn 3) cT) (pc_ T.dB (gl sn))) (cQ (cV (eX (cK (pc_ T.Gb (gl sn)) (cK (ixT (vr sn 3) cT) (cK (ixT (vr sn 3) cT) cO)))))) dr) (cN (eP (vr sn 0) (pk_ C0 (hmo hr) (gl sn) (cK (pk_ xr (hmo hr) (gl sn) (cK (vr sn 2) cO)) cO)) rfl) (cQ (cV (eX (cK (pc_ T.tJ (gl sn)) (cK (dv dk (gl sn) T.fE PySem.boot_len (cK (df (vr sn 2) rfl) cO)) cO)))))))))),?_⟩
 refine⟨_,rfl,tx,_,rfl,.inl (SqL.of htx),_,_,rfl,rfl,_,rfl,?_⟩;rw[List.length_map];refine dd (fun h=>?_) (fun h=>?_)
 .have h:=aQ h;exact fm ⟨sz,fun p hp=>k1 (by omega) _ p (.dm hp) hp cP⟩
 have h:=bj h;have hle:bs.length<=4096:=by omega
 refine⟨_,rfl,tx,rfl,⟨_,SqL.of htx⟩,fun D hD=>?_⟩
 refine y4 (K:=X.K) (a:=tx) (xs:=bs.map iv) (fun i H'=>H'=upd H D (.lst (List.replicate i (V.bl false)))) rfl ?_ ?_ ?_
 .rintro i H' _ rfl;exact SqL.of (by rw[cR (cM htx hD)];exact htx)
 .rintro i u H' hu rfl;rw[aF]at hu;obtain⟨b,hb,rfl⟩:=bc.mp hu;have hb2:=b.toNat_lt;have e1:decide ((b.toNat:Int)<0)=false:=ao (by omega)
  refine⟨rfl,pH ⟨_,rfl,_,_,rfl,rfl,_,rfl,?_⟩⟩;rw[e1];refine eY ⟨_,rfl,_,_,rfl,rfl,?_⟩;rw[show decide ((255:Int)<(b.toNat:Int))=false from ao (by omega)]
  refine⟨_,cP,?_,?_⟩
  .rw[WT];have:=(aa.mp hb).1;exact aR (show i<40000 by omega) (by decide)
  .rw[j6,List.replicate_succ']
 rintro H1 rfl;rw[List.length_map];refine⟨D,List.replicate bs.length false,rfl,SqL.of (by rw[cP,List.map_replicate]),_,rfl,?_⟩
 rw[show (List.replicate bs.length false).any id=false from by simp]
 have s1:dR H (upd H D (.lst (List.replicate bs.length (V.bl false)))):=.dm hD;generalize upd H D (.lst (List.replicate bs.length (V.bl false)))=H1 at s1⊢;refine eY ?_;have hl:(Lo.wordsOf bs).length<=5000:=by have:=wL bs 0 [];unfold Lo.wordsOf;omega
 have hbl':∀t∈Lo.wordsOf bs,t.b.length<=10000:=fun t ht=>by have:=zr bs 0 [] t ht;simp at this;omega
 have hF:=Pz.Bp bs;refine⟨_,rfl,fun x dx1 hx hdx nM=>?_⟩
 have sma:∀{u v:HO},dR H1 (upd (upd H1 dx1 u) x v):=fun b o e=>by rw[cR (cM e hx),cR (cM e hdx)];exact e
 refine⟨x,dx1,tx,bs,rfl,cP,sma _ _ (s1 _ _ htx),hle,fun H2 L eL R2 keep2 fresh2=>⟨rfl,?_⟩⟩
 subst eL;have in2:∀b o,H b=some o->H2 b=some o:=fun b o e=>keep2 b o (sma _ _ (s1 _ _ e)) (cM (s1 _ _ e) hx)
 have mu2:∀b o,H b=some o->b∉mu L:=fun b o e hb=>by
  have:=fresh2 b hb
  rw[sma _ _ (s1 _ _ e)]at this;cases this
 have nL:∀b o,H b=some o->b≠L.r:=fun b o e=>cM (s1 _ _ e) hx
 refine⟨_,rfl,L,(bs.length:Int),Lo.wordsOf bs,rfl,R2,hbl',hl,?_⟩;have oh:∀{H':Hp} {p:Addr},(∀b o,H b=some o->H' b=some o)->H' p=none->H p=none:=fun {H' p} s hp=>by
  cases e:H p with
  |none=>rfl
  |some o=>rw[s _ _ e]at hp;cases hp
 cases hra:Pz.readAll (Lo.wordsOf bs)with
 |error ej=>
  obtain⟨e,j⟩:=ej;rw[hra]at hF;dsimp only at hF⊢;intro H3 p t ht kk hp3;have in3:dR H H3:=fun b o e=>kk _ _ (in2 _ _ e) (mu2 _ _ e)
  obtain⟨he0,_⟩:=GV _ _ _ hra;have hpl:Lo.placeOf bs (Lo.wordsOf bs) j=t.at_:=by unfold Lo.placeOf;rw[ht]
  rw[hpl]at hF;refine⟨_,rfl,p,_,_,_,rfl,rfl,SqT.of hp3,cX (j:=0) rfl,rfl,_,rfl,?_⟩;rw[show decide (V.int ((e:Nat):Int)=V.int 0)=false from ao (fun z=>he0 (by injection z with z;omega))]
  exact fm ⟨_,rfl,p,_,_,_,rfl,rfl,SqT.of hp3,cX (j:=0) rfl,_,rfl,p,_,_,_,rfl,rfl,SqT.of hp3,cX (j:=1) rfl,sz,fun p2 qh=>k2 hle e t.at_ hF _ p2 (in3.trans (.dm qh)) (oh in3 qh) cP⟩
 |ok st=>
  rw[hra]at hF;dsimp only at hF⊢;intro H3 p R3 kk hp3;have in3:dR H H3:=fun b o e=>kk _ _ (in2 _ _ e) (mu2 _ _ e)
  cases hw:st.wait with
  |cons w ws=>
   rw[hw]at hF hp3;have hF:Lo.faultOf bs=some (2,bs.length):=hF;have hp3:H3 p=some (.tup [.int 2,.int (bs.length:Int)]):=hp3;refine⟨_,rfl,p,_,_,_,rfl,rfl,SqT.of hp3,cX (j:=0) rfl,rfl,_,rfl,?_⟩;exact fm ⟨_,rfl,p,_,_,_,rfl,rfl,SqT.of hp3,cX (j:=0) rfl,_,rfl,p,_,_,_,rfl,rfl,SqT.of hp3,cX (j:=1) rfl,sz,fun p2 qh=>k2 hle 2 bs.length hF _ p2 (in3.trans (.dm qh)) (oh in3 qh) cP⟩
  |nil=>
   rw[hw]at hF hp3;have hF:Lo.faultOf bs=none:=hF;have hp3:H3 p=some (.tup [.int 0,.int 0]):=hp3;have hRt:=Pz.Bq hra hw;refine⟨_,rfl,p,_,_,_,rfl,rfl,SqT.of hp3,cX (j:=0) rfl,rfl,_,rfl,?_⟩;refine eY ⟨_,rfl,fun y dy hy hdy hne2=>?_⟩
   have smy:∀{u v:HO},dR H3 (upd (upd H3 dy u) y v):=fun b o e=>by rw[cR (cM e hy),cR (cM e hdy)];exact e
   refine⟨y,dy,L,(bs.length:Int),Lo.wordsOf bs,(Lo.wordsOf bs).length,st,rfl,cP,R3.same smy,hl,hbl',fun H4 ps pp P4 hpp keep4 new4=>⟨rfl,?_⟩⟩
   have in4:∀b o,H3 b=some o->H4 b=some o:=fun b o e=>keep4 b o (smy _ _ e) (cM e hy)
   intro z dz hz hdz hne3;have smz:∀{u v:HO},dR H4 (upd (upd H4 dz u) z v):=fun b o e=>by rw[cR (cM e hz),cR (cM e hdz)];exact e
   refine⟨z,dz,y,dy,ps,pp,Lo.wordsOf bs,st.tg,rfl,cP,P4.keep (S:=[]) (.of smz) (fun p hp=>by simp at hp) (by simp) (by simp) (by simp),hpp,fun H5 W er el et eg R5 keep5 fresh5=>⟨rfl,?_⟩⟩
   have in5:∀b o,H4 b=some o->H5 b=some o:=fun b o e=>keep5 b o (smz _ _ e) (cM e hz)
   have in35:∀b o,H3 b=some o->H5 b=some o:=fun b o e=>in5 _ _ (in4 _ _ e)
   have se5:=in35 _ _ (in3 _ _ hse);have nW:∀b o,H b=some o->b∉rmu W:=fun b o e hb=>by
    have e4:=in4 _ _ (in3 _ _ e);rcases fresh5 b hb with q|q
    .rw[q,hz]at e4;cases e4
    .rw[smz _ _ e4]at q;cases q
   obtain⟨⟨kb,kn,RL3,_,_,_⟩,_,_,_⟩:=R3;obtain⟨ws,w1,w2⟩:=RL3.words;refine⟨_,rfl,se,_,dx,_,rfl,se5,T.hU,T.eK,(by show 1<1000;decide),?_⟩
   have R6:fO (ct X) A (upd H5 se (.ins A.dF dx [("run",.ref z)])) W Rs0:=R5.ses se5 (nW _ _ hse);have in6:∀b o,H3 b=some o->b≠se->(upd H5 se (.ins A.dF dx [("run",.ref z)])) b=some o:=fun b o e n=>by rw[cR n];exact in35 _ _ e
   have se6:(upd H5 se (.ins A.dF dx [("run",.ref z)])) se=some (.ins A.dF dx [("run",.ref z)]):=cP;have rd6:=in6 _ _ RL3.ins (nL _ _ hse).symm;have wd6:=in6 _ _ w1 (sS w1 (in3 _ _ hse) (fun z=>by cases z))
   refine⟨_,rfl,L.r,_,L.dx,_,_,rfl,rd6,T.de,T.eJ,rfl,L.w,_,rfl,.inl (SqL.of wd6),sz,fun p2 qh=>?_⟩
   have qh:(upd H5 se (.ins A.dF dx [("run",.ref z)])) p2=none:=qh;have hb2:H p2=none:=by
    cases e:H p2 with
    |none=>rfl
    |some o=>
     by_cases q:p2=se
     .rw[q,se6]at qh;cases qh
     .rw[in6 _ _ (in3 _ _ e) q]at qh;cases qh
   rw[List.length_map,w2.len];refine k3 hle hF _ p2 W ⟨?_,R6.same (.dm qh)⟩ el (by rw[el,et];exact hRt) (fun b o e n=>?_) (fun b hb=>?_) hb2 cP
   .show upd (upd H5 se (.ins A.dF dx [("run",.ref z)])) p2 _ se=_;rw[cR (cM se6 qh),se6,er]
   .show upd (upd H5 se (.ins A.dF dx [("run",.ref z)])) p2 _ b=_;rw[cR (cM e hb2)];exact in6 _ _ (in3 _ _ e) n
   .cases e:H b with
    |none=>rfl
    |some o=>
     have e3:=in3 _ _ e;rcases AU hb with hb|hb|hb|hb
     .exact absurd hb (nW _ _ e)
     .rw[hb,eg.1,hy]at e3;cases e3
     .have:=new4.1
      rw[smy _ _ (by rw[hb,eg.2.1]at e3;exact e3)]at this;cases this
     .have:=new4.2
      rw[smy _ _ (by rw[hb,eg.2.2]at e3;exact e3)]at this;cases this
end
abbrev SQ:=Option (RA×Rs)
def SpO:SQ->Wrloan.State->Prop
 |none,s=>s=none
 |some (W,q),s=>∃r,s=some ⟨W.l,r⟩/\Rel W.l q q.full r
def OkO:SQ->Prop
 |none=>True
 |some (W,q)=>∃reg,Ok W reg q
def vi (l:List Int):List V:=l.map V.int
theorem SpO.cast {W W':RA} {q:Rs} {s:Wrloan.State} (h:SpO (some (W,q)) s) (e:W'.l=W.l):SpO (some (W',q)) s:=by
 obtain⟨r,h1,h2⟩:=h;exact⟨r,by rw[e];exact h1,by rw[e];exact h2⟩
theorem Ok.cast {W W':RA} {reg:Nat->Bool} {q:Rs} (h:Ok W reg q) (e:W'.l=W.l) (e2:W'.tg=W.tg):Ok W' reg q:=⟨by rw[e,e2];exact h.rt,by rw[e];exact h.len,by rw[e];exact h.inv,by rw[e];exact h.st⟩
theorem TN (l:List Lo.Tok):Rel l Rs0 Rs0.full (Lo.begun l):=by
 refine⟨if l.isEmpty=true then .over else .on,rfl,?_⟩
 cases l with
 |nil=>exact⟨rfl,rfl⟩
 |cons a r=>exact⟨rfl,Xs _⟩
theorem ok0 {W:RA} {reg:Nat->Bool} (rt:Pz.Rt W.l W.tg reg) (len:W.l.length<=10000):Ok W reg Rs0:=by
 refine⟨rt,len,⟨⟨fun v hv=>?_,fun v hv=>?_,fun e he=>?_,fun i e he=>?_,rfl,aO _,aO _,au _,au _⟩,aO _,?_⟩,?_⟩
 .cases hv
 .rw[(List.mem_replicate.mp (show v∈List.replicate 26 (.num 0)from hv)).2];exact⟨trivial,by show Lo.isValue 0=true;decide⟩
 .cases he
 .simp[Rs0]at he
 .exact⟨rt.r0,aO _⟩
 .obtain⟨s,_,h⟩:=TN W.l;exact⟨s,h⟩
section
variable {W:RA} {q:Rs} {s:Wrloan.State} {reg:Nat->Bool}
theorem GW (b:Lo.Bytes):vi (WrloanNeutral.told (.bytes b))=V.int 0::V.int (b.length:Int)::b.map iv:=by
 unfold vi;show V.int 0::V.int (b.length:Int)::(b.map fun (c:UInt8)=>(c.toNat:Int)).map V.int=_
 rw[bY];rfl
theorem ON (ok:Ok W reg q) {v:Lo.Val} (hv:Cm.below v q.cs.length) (l:List Lo.Tok) (m:Nat) (st:Lo.Stand):vi (WrloanNeutral.told (Wrloan.told ⟨l,eN q m st⟩ (some v)))=rN q v:=by
 have wf:Cm.WF (q.cs.toArray).toList:=by simpa using ok.inv.cor.wf
 have hsl:=Cm.lZ wf (v:=v) (by simpa using hv)
 show vi (WrloanNeutral.told (if 4096<Lo.longOf q.cs.toArray v then Wrloan.no (-6)else .bytes (Lo.said q.cs.toArray v)))=_
 unfold rN;by_cases h:4096<Lo.longOf q.cs.toArray v
 .rw[aq h,aq h];rfl
 .rw[aj h,aj h,GW,hsl]
theorem TQ (ok:Ok W reg q) (h:SpO (some (W,q)) s) {z:Int} (hz:0<=z):(fGo W q [z]).1=vi (WrloanNeutral.step s [[1,z]]).2/\SpO (some (W,(fGo W q [z]).2)) (WrloanNeutral.step s [[1,z]]).1/\Ok W reg (fGo W q [z]).2:=by
 obtain⟨r,rfl,hr⟩:=h;have e:WrloanNeutral.step (some ⟨W.l,r⟩) [[1,z]]=(fun y:Wrloan.State×Wrloan.Answer=>(y.1,WrloanNeutral.told y.2)) (if 3000<z.toNat then (some ⟨W.l,r⟩,Wrloan.no (-1))else (some ⟨W.l,Lo.goOn W.l z.toNat r⟩,.went (Lo.goOn W.l z.toNat r).done (Lo.goOn W.l z.toNat r).stand)):=rfl
 rw[e,show fGo W q [z]=AO W q z from rfl];unfold AO;by_cases h3:z<=3000
 .rw[aj (show¬3000<z.toNat by omega),aq (show 0<=z/\z<=3000 from⟨hz,h3⟩)]
  dsimp only;have hg:=OE ok.rt z.toNat ok.inv hr;rw[CY ok.rt z.toNat ok.inv]at hg;have ok':=ok.go z.toNat;refine⟨?_,⟨_,rfl,hg⟩,ok'⟩;obtain⟨s',e',mB⟩:=hg;rw[e'];generalize lq W z.toNat q=q' at mB ok';rw[BI.stand mB];cases s' with
  |on=>rw[aj (by decide)];rfl
  |over=>rw[aj (by decide)];rfl
  |fault f p=>
   obtain⟨h1,h2,t,ht,h4⟩:=mB;rw[aq (show zq (Lo.Stand.fault f p)=2 from rfl),ht,h1,h4];rfl
 .rw[aq (show 3000<z.toNat by omega),aj (show¬(0<=z/\z<=3000) by omega)]
  exact⟨rfl,⟨r,rfl,hr⟩,ok⟩
theorem OO (ok:Ok W reg q) (h:SpO (some (W,q)) s) {z:Int} (hz:0<=z):(AR W q [z]).1=vi (WrloanNeutral.step s [[2,z]]).2/\SpO (some (W,(AR W q [z]).2)) (WrloanNeutral.step s [[2,z]]).1/\Ok W reg (AR W q [z]).2:=by
 refine⟨?_,?_,ok⟩
 .obtain⟨r,rfl,st,rfl,mB⟩:=h;show qe q z=vi (WrloanNeutral.told (if q.out.length<z.toNat then Wrloan.no (-1)else .bytes (q.out.drop z.toNat)))
  unfold qe;by_cases h3:z<=(q.out.length:Int)
  .rw[aq (show 0<=z/\z<=(q.out.length:Int)from⟨hz,h3⟩),aj (show¬q.out.length<z.toNat by omega),GW]
  .rw[aj (show¬(0<=z/\z<=(q.out.length:Int)) by omega),aq (show q.out.length<z.toNat by omega)];rfl
 .obtain⟨r,rfl,hr⟩:=h;exact⟨r,rfl,hr⟩
theorem QV (ok:Ok W reg q) (h:SpO (some (W,q)) s) {z:Int} (hz:0<=z):(Jb W q [z]).1=vi (WrloanNeutral.step s [[3,z]]).2/\SpO (some (W,(Jb W q [z]).2)) (WrloanNeutral.step s [[3,z]]).1/\Ok W reg (Jb W q [z]).2:=by
 refine⟨?_,?_,ok⟩
 .obtain⟨r,rfl,st,rfl,mB⟩:=h;show uf q z=vi (WrloanNeutral.told (Wrloan.told ⟨W.l,eN q q.full st⟩ q.stack[z.toNat]?));unfold uf;by_cases h3:z<=(q.stack.length:Int)-1
  .have fH:z.toNat<q.stack.length:=by omega
   rw[aq (show 0<=z/\z<=(q.stack.length:Int)-1 from⟨hz,h3⟩),af fH,ON ok (ok.rok.stk _ (bB fH)).1,ah,af fH];rfl
  .rw[aj (by omega),bH (by omega)];rfl
 .obtain⟨r,rfl,hr⟩:=h;exact⟨r,rfl,hr⟩
theorem QW (ok:Ok W reg q) (h:SpO (some (W,q)) s) {z:Int} (hz:0<=z):(Jc W q [z]).1=vi (WrloanNeutral.step s [[4,z]]).2/\SpO (some (W,(Jc W q [z]).2)) (WrloanNeutral.step s [[4,z]]).1/\Ok W reg (Jc W q [z]).2:=by
 refine⟨?_,?_,ok⟩
 .obtain⟨r,rfl,st,rfl,mB⟩:=h;have nv:=ok.rok.nv;show ug q z=vi (WrloanNeutral.told (Wrloan.told ⟨W.l,eN q q.full st⟩ q.vars[z.toNat]?));unfold ug;by_cases h3:z<=25
  .have fH:z.toNat<q.vars.length:=by omega
   rw[aq (show 0<=z/\z<=25 from⟨hz,h3⟩),af fH,ON ok (ok.rok.vrs _ (bB fH)).1,ah,af fH];rfl
  .rw[aj (by omega),bH (by omega)];rfl
 .obtain⟨r,rfl,hr⟩:=h;exact⟨r,rfl,hr⟩
theorem L3 (ok:Ok W reg q) (h:SpO (some (W,q)) s):(fState W q []).1=vi (WrloanNeutral.step s [[5]]).2/\SpO (some (W,(fState W q []).2)) (WrloanNeutral.step s [[5]]).1/\Ok W reg (fState W q []).2:=by
 refine⟨?_,?_,ok⟩
 .obtain⟨r,rfl,st,rfl,mB⟩:=h;have e:(match W.l[q.pos]? with
   |some t=>t.at_+1
   |none=>0)=AS W q:=by
   unfold AS;rw[BI.stand mB];cases st with
   |on=>rw[aj (by decide),af mB.2];rfl
   |over=>rw[aq (show zq Lo.Stand.over=1 from rfl),bH (by rw[mB.2];exact au _)]
   |fault f p=>
    obtain⟨h1,h2,t,ht,h4⟩:=mB;rw[aj (show zq (Lo.Stand.fault f p)≠1 from fun z=>by cases z),ht];rfl
  show rO W q=vi (WrloanNeutral.told (.numbers [q.stack.length,q.under.length,q.cs.toArray.size,alv q,q.full,q.out.length,(match W.l[q.pos]? with
   |some t=>t.at_+1
   |none=>0)]))
  rw[e,aL];rfl
 .obtain⟨r,rfl,hr⟩:=h;exact⟨r,rfl,hr⟩
theorem L4 (ok:Ok W reg q) (h:SpO (some (W,q)) s) {z y:Int} (hz:0<=z) (hy:0<=y):(ui W q [z,y]).1=vi (WrloanNeutral.step s [[6,z,y]]).2/\SpO (some (W,(ui W q [z,y]).2)) (WrloanNeutral.step s [[6,z,y]]).1/\Ok W reg (ui W q [z,y]).2:=by
 refine⟨?_,?_,ok⟩
 .obtain⟨r,rfl,st,rfl,mB⟩:=h;show nE q z y=vi (WrloanNeutral.told (match q.stack[z.toNat]?,q.stack[y.toNat]? with
   |some v,some w=>.numbers [if Lo.alike q.cs.toArray v w=true then 1 else 0,if Lo.same v w=true then 1 else 0]
   |_,_=>Wrloan.no (-1)))
  unfold nE uh;simp only[aY];by_cases h3:z<=(q.stack.length:Int)-1
  .by_cases h4:y<=(q.stack.length:Int)-1
   .have l1:z.toNat<q.stack.length:=by omega
    have l2:y.toNat<q.stack.length:=by omega
    obtain⟨v,hv⟩:∃v,q.stack[z.toNat]?=some v:=⟨_,af l1⟩;obtain⟨u,hu⟩:∃u,q.stack[y.toNat]?=some u:=⟨_,af l2⟩;rw[aq (show (0<=z/\z<=(q.stack.length:Int)-1)/\(0<=y/\y<=(q.stack.length:Int)-1)from⟨⟨hz,h3⟩,hy,h4⟩),ah,ah,hv,hu];dsimp only[Option.getD_some];by_cases b1:Lo.alike q.cs.toArray v u=true
    .by_cases b2:Lo.same v u=true
     .simp only[aq b1,aq b2];try rfl
     .simp only[aq b1,aj b2];try rfl
    .by_cases b2:Lo.same v u=true
     .simp only[aj b1,aq b2];try rfl
     .simp only[aj b1,aj b2];try rfl
   .rw[aj (by omega),bH (i:=y.toNat) (by omega)]
    cases q.stack[z.toNat]?<;>rfl
  .rw[aj (by omega),bH (i:=z.toNat) (by omega)]
   rfl
 .obtain⟨r,rfl,hr⟩:=h;exact⟨r,rfl,hr⟩
theorem L5 (ok:Ok W reg q) (h:SpO (some (W,q)) s):(uj W q []).1=vi (WrloanNeutral.step s [[7]]).2/\SpO (some (W,(uj W q []).2)) (WrloanNeutral.step s [[7]]).1/\Ok W reg (uj W q []).2:=by
 obtain⟨r,rfl,hr⟩:=h;exact⟨rfl,⟨_,rfl,TN W.l⟩,ok0 ok.rt ok.len⟩
end
def Eo (c:Ct) (A:Ad) (H:Hp) (se dx:Addr):SQ->Prop
 |none=>H se=some (.ins A.dF dx [("run",.non)])
 |some (W,q)=>AN c A H se dx W q
def mrk:SQ->List Addr
 |none=>[]
 |some (W,_)=>foot W
theorem Eo.same {c:Ct} {A:Ad} {H H':Hp} {se dx:Addr} {st:SQ} (h:Eo c A H se dx st) (s:dR H H'):Eo c A H' se dx st:=by
 cases st with
 |none=>exact s _ _ h
 |some x=>obtain⟨W,q⟩:=x;exact⟨s _ _ h.ins,h.run.same s⟩
structure KW (c:Ct) (A:Ad):Prop where
 go:Good c 11 "go" A.DF (iQ c A 1 fGo)
 said:Good c 2 "said" A.pF (iQ c A 1 AR)
 top:Good c 4 "top" A.vg (iQ c A 1 Jb)
 var:Good c 4 "var" A.vh (iQ c A 1 Jc)
 state:Good c 2 "state" A.mI (iQ c A 0 fState)
 alike_runs:Good c 3 "alike_runs" A.gR (iQ c A 2 ui)
 again:Good c 5 "again" A.mJ (iQ c A 0 uj)
theorem KY {W:RA} {reg:Nat->Bool} {q:Rs} (ok:Ok W reg q) {v:Lo.Val} (hv:Cm.below v q.cs.length):(rN q v).length<=5000:=by
 have wf:Cm.WF (q.cs.toArray).toList:=by simpa using ok.inv.cor.wf
 have hsl:=Cm.lZ wf (v:=v) (by simpa using hv)
 unfold rN;split
 .simp
 .simp only[aG,List.length_map];omega
theorem TR (W:RA) (q:Rs) (z:Int):(AO W q z).1.length<=5000:=by
 unfold AO;split
 .dsimp only;split<;>simp
 .simp
theorem call_of {X:Cx} {A:Ad} {kk:Nat} (T:Tx (ct X) A) (G:KW (ct X) A) (hr:iI kk X.A) (hk:11<=kk) {p:Int} {r t:List Int} {cc:List (List Int)} {zs:List Int} (hc:Fl.mf p r cc t) (hp:p≠0) (ha:WrloanNeutral.asked1 cc=true) (hz:r=zs++t):
  ∃e f n F,fC (F8 A) (.inl p)=some (.ref e)/\(∀H,SqT X.K H e [.int ((n:Nat):Int),.ref f])/\(Can X f (iQ (ct X) A n F)/\PySem.W.keepIn X.K (.ref f)=true)/\zs.length=n/\
   (WrloanNeutral.step none cc=(none,[-2]))/\∀W q s reg,Ok W reg q->SpO (some (W,q)) s->((F W q zs).1=vi (WrloanNeutral.step s cc).2/\SpO (some (W,(F W q zs).2)) (WrloanNeutral.step s cc).1/\Ok W reg (F W q zs).2)/\(F W q zs).1.length<=5000:=by
 cases hc with
 |begin_ row t=>exact absurd rfl hp
 |one p x t h=>
  have ez:zs= [x]:=cn (bs:=t) (by rw[<-hz];rfl)
  subst ez;rcases h with rfl|rfl|rfl|rfl
  .have h0:0<=x:=by have:(decide (0<=x)&&decide (x<=4294967295))=true:=ha;simp at this;exact this.1
   exact⟨A.iS,A.DF,1,fGo,rfl,T.iS,dO G.go hr (ai (by decide) hk),rfl,rfl,fun W q s reg ok h=>⟨TQ ok h h0,TR W q x⟩⟩
  .have h0:0<=x:=by have:(decide (0<=x)&&decide (x<=4294967295))=true:=ha;simp at this;exact this.1
   refine⟨A.iT,A.pF,1,AR,rfl,T.iT,dO G.said hr (ai (by decide) hk),rfl,rfl,fun W q s reg ok h=>⟨OO ok h h0,?_⟩⟩
   show (qe q x).length<=5000;have:=ok.rok.ou;unfold qe;split
   .simp only[aG,List.length_map,aZ];omega
   .simp
  .have h0:0<=x:=by have:(decide (0<=x)&&decide (x<=4294967295))=true:=ha;simp at this;exact this.1
   refine⟨A.iU,A.vg,1,Jb,rfl,T.iU,dO G.top hr (ai (by decide) hk),rfl,rfl,fun W q s reg ok h=>⟨QV ok h h0,?_⟩⟩
   show (uf q x).length<=5000;unfold uf;split
   .rename_i hh
    have fH:x.toNat<q.stack.length:=by omega
    refine KY ok ?_;rw[ah,af fH];exact(ok.rok.stk _ (bB fH)).1
   .simp
  .have h0:0<=x:=by have:(decide (0<=x)&&decide (x<=4294967295))=true:=ha;simp at this;exact this.1
   refine⟨A.iV,A.vh,1,Jc,rfl,T.iV,dO G.var hr (ai (by decide) hk),rfl,rfl,fun W q s reg ok h=>⟨QW ok h h0,?_⟩⟩
   show (ug q x).length<=5000;have nv:=ok.rok.nv;unfold ug;split
   .rename_i hh
    have fH:x.toNat<q.vars.length:=by omega
    refine KY ok ?_;rw[ah,af fH];exact(ok.rok.vrs _ (bB fH)).1
   .simp
 |none_ p t h=>
  have ez:zs= []:=cn (bs:=r) (by rw[<-hz];rfl)
  subst ez;rcases h with rfl|rfl
  .exact⟨A.iW,A.mI,0,fState,rfl,T.iW,dO G.state hr (ai (by decide) hk),rfl,rfl,fun W q s reg ok h=>⟨L3 ok h,by show (rO W q).length<=5000;unfold rO;simp⟩⟩
  .exact⟨A.iY,A.mJ,0,uj,rfl,T.iY,dO G.again hr (ai (by decide) hk),rfl,rfl,fun W q s reg ok h=>⟨L5 ok h,by unfold uj;simp⟩⟩
 |two x y t=>
  have ez:zs= [x,y]:=cn (bs:=t) (by rw[<-hz];rfl)
  subst ez;have h0:0<=x/\0<=y:=by
   have:((decide (0<=x)&&decide (x<=4294967295))&&(decide (0<=y)&&decide (y<=4294967295)))=true:=ha
   simp at this;exact⟨this.1.1,this.2.1⟩
  refine⟨A.iX,A.gR,2,ui,rfl,T.iX,dO G.alike_runs hr (ai (by decide) hk),rfl,rfl,fun W q s reg ok h=>⟨L4 ok h h0.1 h0.2,?_⟩⟩
  show (nE q x y).length<=5000;unfold nE;split<;>simp
section
variable {c:Ct} {A:Ad}
abbrev lP:Stmt:=top 135
theorem vO:cW ["calls","place"] ["calls","place"] (cS lP):=fsc
inductive lp (c:Ct) (vs:List V) (H:Hp) (Q:VK) (E:XK):Prop
 |mk:∀ca,∀xs:List Int,∀i:Nat,∀p r cc t,∀m:Nat,vs= [.ref ca,.int (i:Int)]->SqL c.K H ca (vi xs)->xs.drop i=p::r->Fl.mf p r cc t->r.length=m+t.length->Q (.int (m:Int)) H->lp c vs H Q E
theorem vP (T:Tx c A) (D:Df c "numbers_behind" lP ["calls","place"] A.g8):Good c 1 "numbers_behind" A.g8 (lp c):=by
 refine D.good vO ?_;rintro X H _ Q E rfl a sn hr ⟨ca,xs,i,p,r,cc,t,m,rfl,hca,hdr,hat,hlen,k⟩;refine⟨_,(cN (dX (iK iR (ixL (vr sn 0) (vr sn 1)) (pc_ T.KD (gl sn))) (cQ (cV (fB iH cT (ixL (vr sn 0) (fB iH (vr sn 1) cT))))) dr) (cQ (cV (ixT (zg (pc_ T.mF (gl sn)) (ixL (vr sn 0) (vr sn 1)) (fun _ _=>rfl)) cT)))),?_⟩
 have hi:(vi xs)[i]?=some (V.int p):=by
  unfold vi;have:(xs.drop i)[0]?=some p:=by rw[hdr];rfl
  rw[Xt]at this;rw[aF,show xs[i]?=some p from this];rfl
 refine⟨_,rfl,_,rfl,ca,_,_,_,rfl,rfl,hca,cX hi,rfl,_,rfl,?_⟩;cases hat with
 |begin_ row t=>
  have h1:(vi xs)[i+1]?=some (V.int (row.length:Int)):=by
   unfold vi;have:(xs.drop i)[1]?=some (row.length:Int):=by rw[hdr];rfl
   rw[Xt]at this;rw[aF,show xs[i+1]?=some (row.length:Int)from this];rfl
  have hm:m=1+row.length:=by simp only[aG,List.length_append]at hlen;omega
  subst hm;refine fm ⟨_,rfl,_,rfl,_,_,rfl,rfl,ca,_,_,_,rfl,rfl,hca,cX (j:=i+1) h1,_,_,rfl,rfl,?_⟩;rw[show ((1+row.length:Nat):Int)=1+(row.length:Int) by omega]at k
  exact k
 |one p x t h=>
  have hm:m=1:=by simp only[aG]at hlen;omega
  rcases h with rfl|rfl|rfl|rfl
  .subst hm;rw[show decide (V.int (1:Int)=V.int 0)=false from ao (fun z=>by injection z with z;omega)]
   exact eY ⟨_,rfl,_,rfl,ca,_,_,_,rfl,rfl,hca,cX hi,_,_,rfl,⟨_,.inl 1,T.nZ,rfl,rfl⟩,A.iS,_,_,_,rfl,rfl,T.iS H,cX (j:=0) rfl,k⟩
  .subst hm;rw[show decide (V.int (2:Int)=V.int 0)=false from ao (fun z=>by injection z with z;omega)]
   exact eY ⟨_,rfl,_,rfl,ca,_,_,_,rfl,rfl,hca,cX hi,_,_,rfl,⟨_,.inl 2,T.nZ,rfl,rfl⟩,A.iT,_,_,_,rfl,rfl,T.iT H,cX (j:=0) rfl,k⟩
  .subst hm;rw[show decide (V.int (3:Int)=V.int 0)=false from ao (fun z=>by injection z with z;omega)]
   exact eY ⟨_,rfl,_,rfl,ca,_,_,_,rfl,rfl,hca,cX hi,_,_,rfl,⟨_,.inl 3,T.nZ,rfl,rfl⟩,A.iU,_,_,_,rfl,rfl,T.iU H,cX (j:=0) rfl,k⟩
  .subst hm;rw[show decide (V.int (4:Int)=V.int 0)=false from ao (fun z=>by injection z with z;omega)]
   exact eY ⟨_,rfl,_,rfl,ca,_,_,_,rfl,rfl,hca,cX hi,_,_,rfl,⟨_,.inl 4,T.nZ,rfl,rfl⟩,A.iV,_,_,_,rfl,rfl,T.iV H,cX (j:=0) rfl,k⟩
 |none_ p t h=>
  have hm:m=0:=by omega
  rcases h with rfl|rfl
  .subst hm;rw[show decide (V.int (5:Int)=V.int 0)=false from ao (fun z=>by injection z with z;omega)]
   exact eY ⟨_,rfl,_,rfl,ca,_,_,_,rfl,rfl,hca,cX hi,_,_,rfl,⟨_,.inl 5,T.nZ,rfl,rfl⟩,A.iW,_,_,_,rfl,rfl,T.iW H,cX (j:=0) rfl,k⟩
  .subst hm;rw[show decide (V.int (7:Int)=V.int 0)=false from ao (fun z=>by injection z with z;omega)]
   exact eY ⟨_,rfl,_,rfl,ca,_,_,_,rfl,rfl,hca,cX hi,_,_,rfl,⟨_,.inl 7,T.nZ,rfl,rfl⟩,A.iY,_,_,_,rfl,rfl,T.iY H,cX (j:=0) rfl,k⟩
 |two x y t=>
  have hm:m=2:=by simp only[aG]at hlen;omega
  .subst hm;rw[show decide (V.int (6:Int)=V.int 0)=false from ao (fun z=>by injection z with z;omega)]
   exact eY ⟨_,rfl,_,rfl,ca,_,_,_,rfl,rfl,hca,cX hi,_,_,rfl,⟨_,.inl 6,T.nZ,rfl,rfl⟩,A.iX,_,_,_,rfl,rfl,T.iX H,cX (j:=0) rfl,k⟩
end
def byt (row:List Int):Lo.Bytes:=row.map fun (x:Int)=>UInt8.ofNat x.toNat
theorem TU {row:List Int} (h:∀x∈row,0<=x/\x<=255):(byt row).map iv=vi row:=by
 unfold byt vi;rw[bY];apply Wz;intro x hx;obtain⟨h1,h2⟩:=h x hx;show V.int ((UInt8.ofNat x.toNat).toNat:Int)=V.int x;rw[Xr];congr 1;omega
theorem Vo (s:Wrloan.State) (row:List Int):WrloanNeutral.step s [[0],row]=(fun y:Wrloan.State×Wrloan.Answer=>(y.1,WrloanNeutral.told y.2)) (if 4096<(byt row).length then (s,Wrloan.no (-1))else (match Lo.faultOf (byt row)with
  |some x=>(s,.refused [-3,(x.1:Int),(x.2:Int)])
  |none=>(some ⟨Lo.wordsOf (byt row),Lo.begun (Lo.wordsOf (byt row))⟩,.number (Lo.wordsOf (byt row)).length))):=rfl
section
variable {c:Ct} {A:Ad}
abbrev AW:Stmt:=top 136
theorem L6:cW ["session","call","numbers","calling"] ["session","call","numbers"] (cS AW):=fsc
inductive xt (c:Ct) (A:Ad) (vs:List V) (H:Hp) (Q:VK) (E:XK):Prop
 |mk:∀se dx nb,∀st:SQ,∀s p r cc t,∀zs:List Int,vs= [.ref se,.int p,.ref nb]->Eo c A H se dx st->OkO st->SpO st s->Fl.mf p r cc t->r=zs++t->WrloanNeutral.asked1 cc=true->H nb=some (.lst (vi zs))->nb∉mrk st->zs.length<=31000->(∀H' p' gg,Eo c A H' se dx gg->OkO gg->SpO gg (WrloanNeutral.step s cc).1->(∀b o,H b=some o->b≠se->b∉mrk st->H' b=some o)->(∀b∈mrk gg,b∈mrk st\/H b=none)->H p'=none->H' p'=some (.lst (vi (WrloanNeutral.step s cc).2))->(WrloanNeutral.step s cc).2.length<=5000->Q (.ref p') H')->xt c A vs H Q E
theorem L7 (T:Tx c A) (D:Df c "answer" AW ["session","call","numbers"] A.oM) (Ep:Good c 6 "begin" A.sq (AV c A)) (G:KW c A):Good c 12 "answer" A.oM (xt c A):=by
 refine D.good L6 ?_;rintro X H _ Q E rfl a sn hr ⟨se,dx,nb,st,s,p,r,cc,t,zs,rfl,S,ok,sp,hat,hz,ha,hnb,hnm,hzl,k⟩;refine⟨_,(cN (dX (iK iR (vr sn 1) (pc_ T.KD (gl sn))) (cQ (cV (pf_ Ep (hmo hr) (gl sn) (cK (vr sn 0) (cK (qQ y3 (vr sn 2) (oU cT) Dg) cO))))) dr) (cN (dX (C9 (Sa (df (vr sn 0) rfl))) (cQ (cV (eX (cK (pc_ T.DJ (gl sn)) cO)))) dr) (cN (pSt sn 3 (ixT (zg (pc_ T.mF (gl sn)) (vr sn 1) (fun _ _=>rfl)) cT)) (cQ (cV (zX 3 (cK (vr sn 0) (cK (vr sn 2) cO)) (nx sn 3) (nq sn 3).v)))))),?_⟩
 refine⟨_,rfl,rfl,_,rfl,?_⟩;obtain⟨v0,hse⟩:∃v0,H se=some (.ins A.dF dx [("run",v0)]):=by
  cases st with
  |none=>exact⟨_,S⟩
  |some x=>exact⟨_,S.ins⟩
 have keepS:∀{H':Hp} {p':Addr} {s':Wrloan.State} {l:List Int},(∀H' p' gg,Eo (ct X) A H' se dx gg->OkO gg->SpO gg s'->(∀b o,H b=some o->b≠se->b∉mrk st->H' b=some o)->(∀b∈mrk gg,b∈mrk st\/H b=none)->H p'=none->H' p'=some (.lst (vi l))->l.length<=5000->Q (.ref p') H')->SpO st s'->l.length<=5000->dR H H'->H p'=none->H' p'=some (.lst (vi l))->Q (.ref p') H':=
  fun {H' p' s' l} k h1 h2 sm hp hp'=>k H' p' st (S.same sm) ok h1 (fun b o e _ _=>sm _ _ e) (fun b hb=>.inl hb) hp hp' h2
 by_cases hp0:p=0
 .subst hp0;cases hat with
  |one _ _ _ h=>exact absurd h (by omega)
  |none_ _ _ h=>exact absurd h (by omega)
  |begin_ row t=>
   have ez:zs=(row.length:Int)::row:=cn (bs:=t) (by rw[<-hz];rfl)
   subst ez;have hb:∀x∈row,0<=x/\x<=255:=fun x hx=>by
    have ha:row.all (fun (z:Int)=>decide (0<=z)&&decide (z<=255))=true:=ha
    have:=bJ.mp ha x hx
    simpa using this
   have hlb:(byt row).length=row.length:=by unfold byt;rw[List.length_map]
   rw[Vo]at k;refine fm ⟨_,rfl,_,rfl,_,rfl,nb,_,rfl,SqL.of hnb,fun p1 hp1=>?_⟩
   have ec:uO (vi ((row.length:Int)::row)) (some ((1:Nat):Int)) none=(byt row).map iv:=by
    rw[GS _ 1 (by show 1<=(vi ((row.length:Int)::row)).length;unfold vi;simp),TU hb];rfl
   rw[show uO (vi ((row.length:Int)::row)) (some 1) none=(byt row).map iv from ec];have sm1:dR H (upd H p1 (.lst ((byt row).map iv))):=.dm hp1;have h1p:(upd H p1 (.lst ((byt row).map iv))) p1=some (.lst ((byt row).map iv)):=cP;generalize upd H p1 (.lst ((byt row).map iv))=H1 at sm1 h1p⊢;have oh:∀{p:Addr},H1 p=none->H p=none:=fun {p} hp=>by
    cases e:H p with
    |none=>rfl
    |some o=>rw[sm1 _ _ e]at hp;cases hp
   refine⟨se,dx,p1,v0,byt row,rfl,sm1 _ _ hse,h1p,by rw[hlb];simp only[aG]at hzl;omega,fun fH H' p' sm hp hp'=>?_,fun hle e j hF H' p' sm hp hp'=>?_,fun hle hF H' p' W S' el hRt kp fr hp hp'=>?_⟩
   .rw[aq fH]at k;exact keepS k sp (by show 1<=5000;decide) (sm1.trans sm) (oh hp) hp'
   .rw[aj (by omega),hF]at k
    exact keepS k sp (by show 3<=5000;decide) (sm1.trans sm) (oh hp) hp'
   .rw[aj (by omega),hF]at k
    refine k H' p' (some (W,Rs0)) S' ⟨_,ok0 hRt (by rw[el];have:=wL (byt row) 0 [];unfold Lo.wordsOf;omega)⟩ ⟨_,by rw[el],TN W.l⟩ (fun b o e n1 n2=>kp b o (sm1 _ _ e) n1) (fun b hb=>.inr (oh (fr b hb))) (oh hp) hp' (by show 2<=5000;decide)
 .rw[show decide (V.int p=V.int 0)=false from ao (fun z=>hp0 (by injection z))]
  obtain⟨e,f,n,F,hv,he,⟨hcan,hkp⟩,hzn,kC,hdue⟩:=call_of T G hr (au _) hat hp0 ha hz;refine eY ⟨_,rfl,se,_,dx,_,_,rfl,hse,T.hU,T.eK,rfl,_,rfl,?_⟩;cases st with
  |none=>
   have S:H se=some (.ins A.dF dx [("run",.non)]):=S;have ev:v0= .non:=by
    rw[S]at hse;injection hse with hse;injection hse with _ _ hse
    injection hse with hse;injection hse with _ hse
    exact hse.symm
   subst ev;have sp:s=none:=sp;subst sp;rw[kC]at k;exact fm ⟨sz,fun p' hp=>keepS k rfl (by show 1<=5000;decide) (.dm hp) hp cP⟩
  |some x=>
   obtain⟨W,q⟩:=x;have S:AN (ct X) A H se dx W q:=S;have ev:v0= .ref W.r:=by
    have hs:=S.ins;rw[hse]at hs;injection hs with hs;injection hs with _ _ hs
    injection hs with hs;injection hs with _ hs
   subst ev;obtain⟨reg,ok⟩:=ok;obtain⟨⟨d1,d2,d3⟩,d4⟩:=hdue W q s reg ok sp;refine eY ⟨_,rfl,_,_,rfl,⟨_,.inl p,T.nZ,rfl,hv.symm⟩,e,_,_,_,rfl,rfl,he H,cX (j:=1) rfl,?_⟩;refine⟨f,rfl,hkp,_,rfl,_,rfl,_,hcan,se,dx,W,q,nb,reg,zs,rfl,S,ok,hnb,fun z=>hnm (l3 W nb z),hzn,fun H' p' W' S' el et kp fr hp hp'=>?_⟩
   refine k H' p' (some (W',(F W q zs).2)) S' ⟨reg,d3.cast el et⟩ (d2.cast el) (fun b o e n1 n2=>kp b o e n1 fun z=>n2 (l3 W b z)) fr hp (by rw[<-d1];exact hp') ?_
   have:(vi (WrloanNeutral.step s cc).2).length<=5000:=by rw[<-d1];exact d4
   unfold vi at this;rw[List.length_map]at this;exact this
abbrev mU:Stmt:=top 137
theorem AX:cW ["calls","session","given","place","behind","numbers"] ["calls"] (cS mU):=fsc
inductive qg (K:PySem.W.Frag) (vs:List V) (H:Hp) (Q:VK) (E:XK):Prop
 |mk:∀ca,∀xs:List Int,vs= [.ref ca]->SqL K H ca (vi xs)->xs.length<=31000->PyWrloan.answers_asked xs=true->(∀H' p,dR H H'->H p=none->H' p=some (.lst (vi (PyWrloan.answers xs)))->Q (.ref p) H')->qg K vs H Q E
theorem TV (xs:List V) (i j:Nat) (h:i<=j) (hj:j<=xs.length):uO xs (some (i:Int)) (some (j:Int))=(xs.drop i).take (j-i):=by
 unfold uO;rw[HT.rX,HT.rX,WM (show i<=xs.length by omega),WM hj]
theorem Jd {p:Int} {r:List Int} {cc:List (List Int)} {t:List Int} (h:Fl.mf p r cc t):∃zs,r=zs++t:=by
 cases h with
 |begin_ row t=>exact⟨(row.length:Int)::row,rfl⟩
 |one p x t _=>exact⟨[x],rfl⟩
 |none_ p t _=>exact⟨[],rfl⟩
 |two x y t=>exact⟨[x,y],rfl⟩
theorem Fun.okX {c:Ct} {x:Str} {st:Stmt} {N ps:List Str} {f:Addr} {fd:FuncData} {k:Nat} {sp:Sp} (F:Fun c.K x x st f fd) (S:cW N ps (cS st)) (len:∀vs H Q E,sp vs H Q E->vs.length=ps.length)
  (rT:∀(X:Cx) (H:Hp) (vs:List V) (Q:VK) (E:XK),ct X=c->At X->X.N=N->X.env.scope=cS st->iI k X.A->sp vs H Q E->
   ∃t,PSs X (jT st) t/\t {nx:=fun _ H'=>Q .non H',rt:=Q} (start N vs) H):oC c.P c.w c.K c.mg c.base CX0 (k+1) f fd ps sp:=
 F.ok S len fun qI A outer s H vs Q E hr hsp=>rT _ H vs Q E rfl ⟨rfl,fun _=>rfl,rfl⟩ rfl rfl hr hsp
theorem Je (T:Tx c A) {fd:FuncData} (F:Fun c.K "answers" "answers" mU A.oN fd) (xu:GoodC c 1 "Session" A.dF (mz A)) (lQ:Good c 1 "numbers_behind" A.g8 (lp c)) (AY:Good c 12 "answer" A.oM (xt c A)):oC c.P c.w c.K c.mg c.base CX0 13 A.oN fd ["calls"] (qg c.K):=by
 refine Fun.okX F AX (fun vs H Q E h=>?_) (fun X H vs Q E hc a hN hS hr h=>?_)
 .obtain⟨ca,xs,rfl,_⟩:=h;rfl
 .obtain⟨ca,xs,rfl,hca,hxl,hask,k⟩:=h;subst hc;have sn:Sc X _ _:=⟨hN,hS,by rw[hN];exact AX.nd,a⟩
  refine⟨_,(cN (pSt sn 1 (U8 xu (hmo hr) (gl sn))) (cN (pSt sn 2 (eX cO)) (cN (pSt sn 3 cT) (cN (qN a.never (iK L2.mV (vr sn 3) (dv dk (gl sn) T.fE PySem.boot_len (cK (vr sn 0) cO))) (cN (pSt sn 4 (fB iH (fB iH (vr sn 3) cT) (pf_ lQ (hmo hr) (gl sn) (cK (vr sn 0) (cK (vr sn 3) cO))))) (cN (pSt sn 5 (pf_ AY (hmo hr) (gl sn) (cK (vr sn 1) (cK (ixL (vr sn 0) (vr sn 3)) (cK (qQ y3 (vr sn 0) (oU (fB iH (vr sn 3) cT)) (oU (vr sn 4))) cO))))) (cN (dH (jJ PySem.F.plainAttrs_list PySem.F.slot_list_append PySem.F.type_list_append fh (vr sn 2) (cK (dv dk (gl sn) T.fE PySem.boot_len (cK (vr sn 5) cO)) cO))) (cN (dH (jJ PySem.F.plainAttrs_list PySem.F.slot_list_extend PySem.F.type_list_extend oE (vr sn 2) (cK (vr sn 5) cO))) (cQ (pSt sn 3 (vr sn 4)))))))) (cQ (cV (vr sn 2))))))),?_⟩;obtain⟨cs,hcs,hc400,kD,htot⟩:=Fl.F6 hask;intro se dx hse hdx nM;refine⟨se,dx,rfl,cP,rfl,aO _,fun ga hga=>?_⟩
  rw[j6]at hga⊢;have sm0:∀{u v:HO},dR H (upd (upd H dx u) se v):=fun b o e=>by rw[cR (cM e hse),cR (cM e hdx)];exact e
  have hga0:H ga=none:=by
   cases e:H ga with
   |none=>rfl
   |some o=>rw[sm0 _ _ e]at hga;cases hga
  have gas:se≠ga:=fun z=>by rw[<-z,cP]at hga;cases hga
  let Pv:Nat->L2.St->Hp->Prop:=fun m σ H'=>∃(vb vn:Option V) (i:Nat) (rest:List Int) (cs':List (List (List Int))) (st:SQ) (s:Wrloan.State) (gs:List Int),σ= [some (.ref ca),some (.ref se),some (.ref ga),some (.int (i:Int)),vb,vn]/\dR H H'/\xs.drop i=rest/\i<=xs.length/\Fl.sf rest cs'/\(∀c∈cs',WrloanNeutral.asked1 c=true)/\
   Eo (ct X) A H' se dx st/\OkO st/\SpO st s/\H' ga=some (.lst (vi gs))/\(∀b∈mrk st,H b=none/\b≠ga)/\gs++PyFlat.told (PyFlat.played WrloanNeutral.step s cs')=PyWrloan.answers xs/\gs.length+5001*cs'.length<=5001*400/\m=rest.length
  refine⟨Pv,⟨_,none,none,0,xs,cs,none,none,[],rfl,?_,rfl,aO _,hcs,kD,?_,trivial,rfl,cP,fun b hb=>by simp[mrk]at hb,?_,?_,rfl⟩,?_⟩
  .intro b o e;rw[cR (cM e hga0)];exact sm0 _ _ e
  .show upd _ ga _ se=_;rw[cR gas];exact cP
  .rw[htot];rfl
  .simp only[WD];omega
  rintro m σ H' ⟨vb,vn,i,rest,cs',st,s,gs,rfl,sm,hdr,hil,hcs',hall',S,ok,sp,hg,hmrk,htot',hbd,rfl⟩;have hca':SqL X.K H' ca (vi xs):=sm.seq hca;have hvl:(vi xs).length=xs.length:=by unfold vi;rw[List.length_map]
  refine⟨_,rfl,_,rfl,ca,_,rfl,.inl (hca'),_,_,rfl,rfl,_,rfl,?_⟩;rw[hvl];cases hcs' with
  |nil=>
   have hge:xs.length<=i:=W3.mp hdr;rw[show decide ((i:Int)<(xs.length:Int))=false from ao (by omega)]
   refine eY ⟨_,rfl,k H' ga sm hga0 ?_⟩;rw[show gs=PyWrloan.answers xs from by rw[<-htot'];exact(WC gs).symm]at hg
   exact hg
  |@cons p r cc t cs'' hat hrest=>
   obtain⟨zs,hz⟩:=Jd hat;have fH:i<xs.length:=by
    have:(xs.drop i).length=r.length+1:=by rw[hdr];rfl
    rw[aZ]at this;omega
   have hrl:(xs.drop i).length=zs.length+t.length+1:=by rw[hdr,aG,hz,List.length_append]
   rw[aZ]at hrl;rw[show decide ((i:Int)<(xs.length:Int))=true from aI (by omega)]
   refine fm ⟨fun σ' H''=>∃m',m'<(p::r).length/\Pv m' σ' H'',fun _ _ z=>z,?_⟩
   have hi:(vi xs)[i]?=some (V.int p):=by
    unfold vi;have:(xs.drop i)[0]?=some p:=by rw[hdr];rfl
    rw[Xt]at this;rw[aF,show xs[i]?=some p from this];rfl
   refine⟨_,rfl,_,_,rfl,rfl,_,rfl,_,rfl,ca,xs,i,p,r,cc,t,zs.length,rfl,hca',hdr,hat,by rw[hz,List.length_append],_,_,rfl,rfl,?_⟩
   refine⟨_,rfl,_,rfl,_,rfl,ca,_,_,_,rfl,rfl,hca',cX hi,_,rfl,_,rfl,_,_,rfl,rfl,_,rfl,_,rfl,_,rfl,ca,_,rfl,hca',fun nb hnb=>?_⟩
   have hdr1:xs.drop (i+1)=zs++t:=by
    have:(xs.drop i).drop 1=r:=by rw[hdr];rfl
    rw[List.drop_drop]at this;rw[this,hz]
   have ec:uO (vi xs) (some ((i:Int)+1)) (some ((i:Int)+1+(zs.length:Int)))=vi zs:=by
    rw[show (i:Int)+1=((i+1:Nat):Int) by omega,show ((i+1:Nat):Int)+(zs.length:Int)=((i+1+zs.length:Nat):Int) by omega,TV _ _ _ (by omega) (by rw[hvl];omega)]
    unfold vi;rw[<-X2,<-List.map_take,hdr1,show i+1+zs.length-(i+1)=zs.length by omega,List.take_left]
   rw[show uO (vi xs) (some ((i:Int)+1)) (some ((i:Int)+1+(zs.length:Int)))=vi zs from ec];have smn:dR H' (upd H' nb (.lst (vi zs))):=.dm hnb;have old:∀b∈mrk st,∃o,H' b=some o:=fun b hb=>by
    cases st with
    |none=>simp[mrk]at hb
    |some x=>obtain⟨W,q⟩:=x;exact S.run.old b hb
   have nbm:nb∉mrk st:=fun z=>by
    obtain⟨o,e⟩:=old nb z;rw[hnb]at e;cases e
   have hg1:=smn _ _ hg;have hn1:(upd H' nb (.lst (vi zs))) nb=some (.lst (vi zs)):=cP;generalize upd H' nb (.lst (vi zs))=H1 at smn hg1 hn1⊢;refine⟨se,dx,nb,st,s,p,r,cc,t,zs,rfl,S.same smn,ok,sp,hat,hz,hall' _ (aC ..),hn1,nbm,by omega,fun H2 p2 st2 S2 ok2 sp2 kp fr qh hp2' hlen=>?_⟩
   generalize hstep:WrloanNeutral.step s cc=y at sp2 hp2' hlen;have sm2:dR H H2:=fun b o e=>kp b o (smn _ _ (sm _ _ e)) (fun z=>by rw[z,hse]at e;cases e) (fun z=>by rw[(hmrk b z).1]at e;cases e)
   have hg2:H2 ga=some (.lst (vi gs)):=kp ga _ hg1 gas.symm (fun z=>(hmrk ga z).2 rfl)
   have hmrk2:∀b∈mrk st2,H b=none/\b≠ga:=fun b hb=>by
    rcases fr b hb with z|z
    .exact hmrk b z
    .refine⟨?_,fun q=>by rw[q,hg1]at z;cases z⟩
     cases e:H b with
     |none=>rfl
     |some o=>rw[smn _ _ (sm _ _ e)]at z;cases z
   have npg:p2≠ga:=fun z=>by rw[z,hg1]at qh;cases qh
   have htold:gs++((((y.2.length:Nat):Int)::y.2)++PyFlat.told (PyFlat.played WrloanNeutral.step y.1 cs''))=PyWrloan.answers xs:=by
    rw[<-htot',Fl.Lv,hstep]
   have hgl:(vi gs).length=gs.length:=by unfold vi;rw[List.length_map]
   have hyl:(vi y.2).length=y.2.length:=by unfold vi;rw[List.length_map]
   simp only[aG]at hbd;refine⟨_,rfl,.inl ⟨rfl,_,SqL.of hg2⟩,_,rfl,p2,_,rfl,.inl (SqL.of hp2'),ga,_,_,rfl,rfl,hg2,?_,?_⟩
   .rw[hgl];exact aE (show gs.length<=3000000 by omega) (by decide)
   rw[hyl];have e3:vi gs++ [V.int ((y.2.length:Nat):Int)]=vi (gs++ [((y.2.length:Nat):Int)]):=by unfold vi;rw[aA];rfl
   rw[e3];have SK:∀{H2:Hp} {l l':List V},Eo (ct X) A H2 se dx st2->H2 ga=some (.lst l)->Eo (ct X) A (upd H2 ga (.lst l')) se dx st2:=fun {H2 l l'} S2 hg2=>by
    cases st2 with
    |none=>
     show upd H2 ga _ se=_;rw[cR gas];exact S2
    |some x=>
     obtain⟨W,q⟩:=x;have S2:AN (ct X) A H2 se dx W q:=S2;refine⟨by rw[cR gas];exact S2.ins,S2.run.keep (S:=[ga]) (kui) (fun b hb=>by simp at hb;subst hb;exact NT.of hg2) (fun b hb z=>?_)⟩
     simp at hb;subst hb;exact(hmrk2 _ z).2 rfl
   have S3:=SK (l':=vi (gs++ [((y.2.length:Nat):Int)])) S2 hg2;have hg3:(upd H2 ga (.lst (vi (gs++ [((y.2.length:Nat):Int)])))) ga=some (.lst (vi (gs++ [((y.2.length:Nat):Int)]))):=cP;have hp3:(upd H2 ga (.lst (vi (gs++ [((y.2.length:Nat):Int)])))) p2=some (.lst (vi y.2)):=by rw[cR npg];exact hp2'
   have sm3:dR H (upd H2 ga (.lst (vi (gs++ [((y.2.length:Nat):Int)])))):=fun b o e=>by rw[cR (cM e hga0)];exact sm2 _ _ e
   generalize upd H2 ga (.lst (vi (gs++ [((y.2.length:Nat):Int)])))=H3 at S3 hg3 hp3 sm3⊢;refine⟨_,rfl,.inl ⟨rfl,_,SqL.of hg3⟩,_,rfl,ga,p2,_,_,rfl,rfl,hg3,hp3,?_,?_⟩
   .rw[hyl];unfold vi;rw[List.length_map,List.length_append,bP];exact ai (show gs.length+1+y.2.length<=3000000 by omega) (by decide)
   have e4:vi (gs++ [((y.2.length:Nat):Int)])++vi y.2=vi (gs++(((y.2.length:Nat):Int)::y.2)):=by unfold vi;rw[<-aA,cE];rfl
   rw[e4];refine⟨_,rfl,t.length,?_,some (V.int ((i:Int)+1+(zs.length:Int))),some (V.ref p2),i+1+zs.length,t,cs'',st2,y.1,gs++(((y.2.length:Nat):Int)::y.2),?_,fun b o e=>by rw[cR (cM e hga0)];exact sm3 _ _ e,?_,by omega,hrest,fun c hc=>hall' c (ak _ hc),SK S3 hg3,ok2,sp2,cP,hmrk2,?_,?_,rfl⟩
   .rw[aG,hz,List.length_append];omega
   .rw[show ((i+1+zs.length:Nat):Int)=(i:Int)+1+(zs.length:Int) by omega]
    rfl
   .rw[<-List.drop_drop,hdr1,List.drop_left]
   .rw[cE];exact htold
   .rw[List.length_append,aG];omega
end
theorem GX {c:Ct} {k:Nat} {x:Str} {C:Addr} {sp:Sp} (F:dA c k C "__init__" sp) (h1:PySem.W.makesIn c.K C=true) (h2:PySem.W.keepIn c.K (.ref C)=true) (h3:c.mg x=some (.ref C)):GoodC c k x C sp:=by
 obtain⟨f,fd,ps,a,b,m⟩:=F;exact⟨f,fd,ps,a,b,⟨h1,m.at_,m.fn,h2⟩,h3⟩
abbrev NsN (K:PySem.W.Frag) (x:Str):Prop:=PySem.W.nsIn K mainGlobals x=some none
abbrev NsV (K:PySem.W.Frag) (x:Str) (v:Value):Prop:=PySem.W.nsIn K mainGlobals x=some (some v)
abbrev FiN (K:PySem.W.Frag) (C:Addr) (x:Str):Prop:=PySem.W.findIn K (.ref C) x=some none
abbrev FiR (K:PySem.W.Frag) (C:Addr) (x:Str) (m:Addr):Prop:=PySem.W.findIn K (.ref C) x=some (some (.ref m))
abbrev IsF (K:PySem.W.Frag) (m:Addr):Prop:=PySem.W.isFn K (.ref m)=true
theorem OP {w:World}:pd w [] []:=trivial
theorem L8 {w:World} {e:DictEntry} {es:List DictEntry} {kv:Key×V} {dU:List (Key×V)} (h1:xR kv.1 e.key=true) (h2:e.hash=RW w kv.1) (h3:RelV kv.2 e.val) (h4:pd w es dU):pd w (e::es) (kv::dU):=⟨h1,h2,h3,h4⟩
theorem QX {a b:Int} {t u:Tok}:L2.Vals [.int a,.int b] #[Value.int a t,Value.int b u].toList:=.cons ⟨_,rfl⟩ (.cons ⟨_,rfl⟩ .nil)
theorem QY {x:Str} {t:Tok} {f:Addr}:L2.Vals [.str x,.ref f] #[Value.str x t,Value.ref f].toList:=.cons ⟨_,rfl⟩ (.cons rfl .nil)
theorem QZ {a:Int} {t:Tok} {f:Addr}:L2.Vals [.int a,.ref f] #[Value.int a t,Value.ref f].toList:=.cons ⟨_,rfl⟩ (.cons rfl .nil)
def FF (K:PySem.W.Frag) (f:Addr) (x qual:Str) (st:Stmt):Prop:=∃(oc:Value) (od:Option Addr) (kV dc pm:Value) (an:Option Addr) (cd ct:Value) (sl:Array (Option Value)),K.lookup f=some ⟨oc,od,.func (PySem.W.fnOf x qual (lR st) (jT st) (cS st) .none kV dc pm an cd ct),sl⟩/\PySem.W.codeIn K cd qual=true/\PySem.W.keepIn K (.ref f)=true
theorem RV {K:PySem.W.Frag} {f:Addr} {x qual:Str} {st:Stmt} {oc kV dc pm cd ct:Value} {od an:Option Addr} {sl:Array (Option Value)} (h1:K.lookup f=some ⟨oc,od,.func (PySem.W.fnOf x qual (lR st) (jT st) (cS st) .none kV dc pm an cd ct),sl⟩) (h2:PySem.W.codeIn K cd qual=true) (h3:PySem.W.keepIn K (.ref f)=true):FF K f x qual st:=⟨oc,od,kV,dc,pm,an,cd,ct,sl,h1,h2,h3⟩
theorem FF.fn {K:PySem.W.Frag} {f:Addr} {x qual:Str} {st:Stmt} (h:FF K f x qual st):∃fd,Fun K x qual st f fd:=by
 obtain⟨oc,od,kV,dc,pm,an,cd,ct,sl,h1,h2,h3⟩:=h;exact⟨_,M6 h1 h2 h3⟩
abbrev FX (K:PySem.W.Frag) (x:Str) (f:Addr) (st:Stmt):Prop:=NsV K x (.ref f)/\FF K f x x st
abbrev FY (K:PySem.W.Frag) (x y:Str) (f:Addr) (st:Stmt):Prop:=NsV K x (.ref f)/\FF K f y y st
abbrev FM (K:PySem.W.Frag) (C:Addr) (x y:Str) (f:Addr) (st:Stmt):Prop:=FiR K C x f/\IsF K f/\FF K f x y st
abbrev Bi (x qual:Str) (st:Stmt) (ps:List Str):Prop:=∀(kV doc pm:Value) (an:Option Addr) (qI ct:Value) (us:List Value),us.length=ps.length->bindArgs (PySem.W.fnOf x qual (lR st) (jT st) (cS st) .none kV doc pm an qI ct) ⟨us,[]⟩=pure (ps.zip us)
theorem ln1 {us:List Value} (h:us.length=1):∃a,us= [a]:=match us,h with| [a],_=>⟨a,rfl⟩
theorem ln2 {us:List Value} (h:us.length=2):∃a b,us= [a,b]:=match us,h with| [a,b],_=>⟨a,b,rfl⟩
theorem ln3 {us:List Value} (h:us.length=3):∃a b c,us= [a,b,c]:=match us,h with| [a,b,c],_=>⟨a,b,c,rfl⟩
theorem OQ {c:Ct} {x y:Str} {C f:Addr} {st:Stmt} {ps:List Str} (l:FM c.K C x y f st) (b:Bi x y st ps):Dm c C x y st ps:=by
 obtain⟨h1,h2,l⟩:=l;obtain⟨fd,F⟩:=l.fn;exact⟨⟨f,fd,F,h1,h2,F.kp⟩,b⟩
theorem dA2 {c:Ct} {h:Heap} {x y:Str} {f:Addr} {st:Stmt} {ps:List Str} (X:c.K.In h) (G:h.Ns mainGlobals c.mg) (l:FY c.K x y f st) (b:Bi y y st ps:=by intro _ _ _ _ _ _ us hl;obtain⟨_,_,rfl⟩:=ln2 hl;kernel_rfl):Da c x y st ps f:=⟨l.2.fn,PySem.W.mg_of X G l.1,b⟩
theorem dF0 {c:Ct} {h:Heap} {x:Str} {f:Addr} {st:Stmt} {ps:List Str} (X:c.K.In h) (G:h.Ns mainGlobals c.mg) (l:FX c.K x f st) (b:Bi x x st ps:=by intro _ _ _ _ _ _ us hl;obtain rfl:=WG.mp hl;kernel_rfl):Df c x st ps f:=⟨l.2.fn,PySem.W.mg_of X G l.1,b⟩
theorem dF1 {c:Ct} {h:Heap} {x:Str} {f:Addr} {st:Stmt} {ps:List Str} (X:c.K.In h) (G:h.Ns mainGlobals c.mg) (l:FX c.K x f st) (b:Bi x x st ps:=by intro _ _ _ _ _ _ us hl;obtain⟨_,rfl⟩:=ln1 hl;kernel_rfl):Df c x st ps f:=⟨l.2.fn,PySem.W.mg_of X G l.1,b⟩
theorem dF2 {c:Ct} {h:Heap} {x:Str} {f:Addr} {st:Stmt} {ps:List Str} (X:c.K.In h) (G:h.Ns mainGlobals c.mg) (l:FX c.K x f st) (b:Bi x x st ps:=by intro _ _ _ _ _ _ us hl;obtain⟨_,_,rfl⟩:=ln2 hl;kernel_rfl):Df c x st ps f:=⟨l.2.fn,PySem.W.mg_of X G l.1,b⟩
theorem dF3 {c:Ct} {h:Heap} {x:Str} {f:Addr} {st:Stmt} {ps:List Str} (X:c.K.In h) (G:h.Ns mainGlobals c.mg) (l:FX c.K x f st) (b:Bi x x st ps:=by intro _ _ _ _ _ _ us hl;obtain⟨_,_,_,rfl⟩:=ln3 hl;kernel_rfl):Df c x st ps f:=⟨l.2.fn,PySem.W.mg_of X G l.1,b⟩
theorem dM1 {c:Ct} {x y:Str} {C f:Addr} {st:Stmt} {ps:List Str} (l:FM c.K C x y f st) (b:Bi x y st ps:=by intro _ _ _ _ _ _ us hl;obtain⟨_,rfl⟩:=ln1 hl;kernel_rfl):Dm c C x y st ps:=OQ l b
theorem dM2 {c:Ct} {x y:Str} {C f:Addr} {st:Stmt} {ps:List Str} (l:FM c.K C x y f st) (b:Bi x y st ps:=by intro _ _ _ _ _ _ us hl;obtain⟨_,_,rfl⟩:=ln2 hl;kernel_rfl):Dm c C x y st ps:=OQ l b
theorem dM3 {c:Ct} {x y:Str} {C f:Addr} {st:Stmt} {ps:List Str} (l:FM c.K C x y f st) (b:Bi x y st ps:=by intro _ _ _ _ _ _ us hl;obtain⟨_,_,_,rfl⟩:=ln3 hl;kernel_rfl):Dm c C x y st ps:=OQ l b
theorem FF.top {K:PySem.W.Frag} {f:Addr} (h:FF K f "answers" "answers" mU):∃fd,Fun K "answers" "answers" mU f fd/\∀(s:Shared) (us:List Value),us.length=(["calls"]:List Str).length->BindsTo s fd ⟨us,[]⟩ ((["calls"]:List Str).zip us):=by
 obtain⟨oc,od,kV,dc,pm,an,cd,ct,sl,h1,h2,h3⟩:=h;exact⟨_,M6 h1 h2 h3,fun s us hu=>match us,hu with| [_],_=>.of_eq rfl⟩
theorem TX {P:Program} {w:World} {K:PySem.W.Frag} {h:Heap} {mg:Str->Option Value} {fa:Addr} (X:K.In h) (G:h.Ns mainGlobals mg) (hfa:mg "answers"=some (.ref fa))
  {lA gm jo ip iq ir iu iw iy iz iA iB iC gn gp gq gu gv gw gy gz gA gB gC gD gE gF gG gH gI gJ gK gL gM gN gO gP kH fq mF iS iT iU iV iW iX iY dh da cZ dY dF iL mZ mQ sj eM gQ fc u7 pj pk pq u9 mG fi vc je jf kI kJ gS px fX pz pA mH pB pC ft fL nV vd vf jg hZ eF eZ eG jM gi pD sk kq lB gY kr CP gZ mR ja iM jV mS mT g0 fY eT eA gT jq iN fZ jW ku ky lC sq DF pF vg vh mI gR mJ iO jh hJ g8 oM oN:Addr}
  {GY Jf AZ yI BN xw vQ BO GZ um qv vR xx L9 OR Q0 Ma Jg Er vS qw G0 sQ Es Et Mb G6 OS Jh A0 yJ Q6 A1 BP Eu uq OT yK rP BQ:Tok} {xy Ew Ex A2 qy Ey vT xA yL A3 Ji Jj qz qA A4 qB ur uu rQ A5 xB nH uv uw:Addr}
  (TY:NsN K "all")
  (TZ:NsN K "any")
  (Ez:NsN K "enumerate")
  (T3:NsN K "int")
  (T4:NsN K "len")
  (Q7:NsN K "list")
  (T5:NsN K "max")
  (T6:NsN K "ord")
  (OU:NsN K "range")
  (T7:NsN K "str")
  (T8:NsN K "zip")
  (G7:NsV K "NO_FAULT" (.int (0) GY))
  (Jk:NsV K "NO_WORD" (.int (1) Jf))
  (A6:NsV K "WRONG_SHAPE" (.int (2) AZ))
  (yM:NsV K "UNKNOWN_NAME" (.int (3) yI))
  (BR:NsV K "NAME_TAKEN" (.int (4) BN))
  (xC:NsV K "NUMBER_BEYOND" (.int (5) xw))
  (vU:NsV K "TOO_FEW_VALUES" (.int (6) vQ))
  (BS:NsV K "WRONG_KIND" (.int (7) BO))
  (G8:NsV K "NO_VALUE" (.int (8) GZ))
  (ux:NsV K "DIVIDED_BY_ZERO" (.int (9) um))
  (qC:NsV K "TOO_MANY_UNDER_WAY" (.int (10) qv))
  (vV:NsV K "TOO_MANY_WORDS" (.int (11) vR))
  (xD:NsV K "TOO_MUCH_SAID" (.int (12) xx))
  (Mc:NsV K "NUMBER" (.int (0) L9))
  (OV:NsV K "EMPTY" (.int (1) OR))
  (Q8:NsV K "CELL" (.int (2) Q0))
  (Q9:NsV K "ZERO" (.ref lA))
  (BU:NsV K "EMPTY_LIST" (.ref gm))
  (Md:NsV K "LOWEST" (.int (-9223372036854775808) Ma))
  (Jl:NsV K "HIGHEST" (.int (9223372036854775807) Jg))
  (EA:NsV K "MOST_SAID" (.int (4096) Er))
  (vW:NsV K "MOST_UNDER_WAY" (.int (100) vS))
  (qD:NsV K "HIGHEST_BYTE_words" (.int (255) qw))
  (G9:NsV K "LINE_END" (.int (10) G0))
  (Jm:NsV K "ACTIONS" (.ref jo))
  (sR:NsV K "MOST_CARRIED_OUT" (.int (3000) sQ))
  (EB:NsV K "VARIABLES" (.int (26) Es))
  (EC:NsV K "CAN_GO_ON" (.int (0) Et))
  (Me:NsV K "AT_END" (.int (1) Mb))
  (Ha:NsV K "AT_FAULT" (.int (2) G6))
  (Mf:NsV K "BLANKS" (.ref kH))
  (OW:NsV K "SIGNS" (.str "!()*+-/0123456789:;<=@abcdefghijklmnopqrstuvwxyz" OS))
  (Jn:NsV K "NO_SIGN" (.str "?" Jh))
  (A7:NsV K "MOST_DIGITS" (.int (20) A0))
  (yN:NsV K "MOST_LETTERS" (.int (16) yJ))
  (xE:NsV K "SHAPING_WORDS" (.ref fq))
  (Ra:NsV K "DONE" (.int (0) Q6))
  (A8:NsV K "NOT_AS_TOLD" (.int (-1) A1))
  (BV:NsV K "NO_PROGRAM" (.int (-2) BP))
  (ED:NsV K "NOT_RIGHT" (.int (-3) Eu))
  (uy:NsV K "TOO_LONG_TO_SAY" (.int (-6) uq))
  (OX:NsV K "BEGIN" (.int (0) OT))
  (yO:NsV K "LONGEST_TEXT" (.int (4096) yK))
  (rR:NsV K "HIGHEST_BYTE_runs" (.int (255) rP))
  (BW:NsV K "MOST_TO_GO" (.int (3000) BQ))
  (OY:NsV K "CALLS" (.ref mF))
  (OZ:NsV K "Cells" (.ref dh))
  (O0:PySem.W.plainGet K dh Str.empty=true)
  (O1:PySem.W.hasDictIn K dh=true)
  (O2:PySem.W.plainOver K dh=true)
  (O3:PySem.W.findIn K (.ref dh) "__setattr__"=some (some (.builtin "object.__setattr__")))
  (O4:PySem.W.makesIn K dh=true)
  (O5:PySem.W.keepIn K (.ref dh)=true)
  (fu:FiN K dh "firsts")
  (iZ:FiN K dh "rests")
  (jm:FiN K dh "shapes")
  (fM:FiN K dh "shape_numbers")
  (fN:FiN K dh "holds")
  (js:FiN K dh "held")
  (T9:NsV K "Run" (.ref da))
  (Ua:PySem.W.plainGet K da Str.empty=true)
  (Ub:PySem.W.hasDictIn K da=true)
  (Uc:PySem.W.plainOver K da=true)
  (Ud:PySem.W.findIn K (.ref da) "__setattr__"=some (some (.builtin "object.__setattr__")))
  (Ue:PySem.W.makesIn K da=true)
  (Ug:PySem.W.keepIn K (.ref da)=true)
  (hR:FiN K da "program")
  (eQ:FiN K da "cells")
  (ff:FiN K da "stack")
  (fU:FiN K da "variables")
  (d8:FiN K da "variables_not_zero")
  (ji:FiN K da "taken")
  (fF:FiN K da "under_way")
  (gW:FiN K da "output")
  (fz:FiN K da "carried_out")
  (fQ:FiN K da "position")
  (eU:FiN K da "following")
  (jX:FiN K da "fault")
  (i3:FiN K da "fullest")
  (Jo:NsV K "Reading" (.ref cZ))
  (Jp:PySem.W.plainGet K cZ Str.empty=true)
  (Jq:PySem.W.hasDictIn K cZ=true)
  (Jr:PySem.W.plainOver K cZ=true)
  (Js:PySem.W.findIn K (.ref cZ) "__setattr__"=some (some (.builtin "object.__setattr__")))
  (Jt:PySem.W.makesIn K cZ=true)
  (Ju:PySem.W.keepIn K (.ref cZ)=true)
  (jE:FiN K cZ "length")
  (eJ:FiN K cZ "words")
  (iD:FiN K cZ "bodies")
  (fS:FiN K cZ "names_read")
  (dM:FiN K cZ "waiting")
  (dW:FiN K cZ "targets")
  (Jv:NsV K "Program" (.ref dY))
  (Jw:PySem.W.plainGet K dY Str.empty=true)
  (Jx:PySem.W.hasDictIn K dY=true)
  (Jy:PySem.W.plainOver K dY=true)
  (Jz:PySem.W.findIn K (.ref dY) "__setattr__"=some (some (.builtin "object.__setattr__")))
  (JA:PySem.W.makesIn K dY=true)
  (JB:PySem.W.keepIn K (.ref dY)=true)
  (i4:FiN K dY "steps")
  (jF:FiN K dY "places")
  (JC:NsV K "Session" (.ref dF))
  (JD:PySem.W.plainGet K dF Str.empty=true)
  (JE:PySem.W.hasDictIn K dF=true)
  (JF:PySem.W.plainOver K dF=true)
  (JG:PySem.W.findIn K (.ref dF) "__setattr__"=some (some (.builtin "object.__setattr__")))
  (JH:PySem.W.makesIn K dF=true)
  (JI:PySem.W.keepIn K (.ref dF)=true)
  (eK:FiN K dF "run")
  (BX:FX K "is_in_range" iL oj)
  (O6:FX K "saying" mZ Aq)
  (Mg:FX K "opening" mQ wY)
  (Rb:FX K "codes" sj DN)
  (sX:FX K "give_number" eM lU)
  (EE:FX K "give_empty" gQ pX)
  (yP:FX K "give_in_order" fc mm)
  (Vp:FX K "dup" u7 N6)
  (Uh:FX K "drop" pj IG)
  (Ui:FX K "swap" pk IH)
  (Uj:FX K "over" pq II)
  (Vq:FX K "rot" u9 N7)
  (Rc:FX K "depth" mG D7)
  (BY:FX K "give_result" fi oq)
  (Vr:FX K "add" vc Oa)
  (JJ:FX K "subtract" je t4)
  (JK:FX K "multiply" jf t5)
  (O7:FX K "divide" kI Ax)
  (O8:FX K "remain" kJ Ay)
  (BZ:FX K "give_answer" gS ow)
  (Uk:FX K "less" px IJ)
  (B0:FY K "alike_words" "alike" fX oy)
  (Ul:FX K "same" pz s_same)
  (Um:FX K "pair" pA IL)
  (Rf:FX K "first" mH D8)
  (Uo:FX K "rest" pB IP)
  (Up:FX K "kind" pC IQ)
  (yQ:FX K "give_variable" ft mq)
  (A9:FX K "set_variable" fL nz)
  (Rg:FX K "utter" nV Ea)
  (Vs:FX K "say" vd Og)
  (Vt:FX K "put" vf Oh)
  (JL:FX K "end_line" jg t6)
  (Rh:FX K "go_to" hZ Eb)
  (yR:FX K "go_to_at_zero" eF mv)
  (vX:FX K "begin_procedure" eZ lh)
  (yS:FX K "end_procedure" eG mx)
  (JM:FX K "standing" jM uc)
  (yT:FX K "place_of_next" gi my)
  (Ri:FX K "alive" pD s_alive)
  (Rj:FX K "go_on" sk Ei)
  (Hb:FX K "carry_out" kq rK)
  (JN:FX K "try_word" lB t9)
  (xF:FX K "fault_of_stack" gY lN)
  (Hc:FX K "is_wanted" kr rG)
  (Vu:FX K "cut" CP NJ)
  (xG:FX K "signs_of_bytes" gZ lE)
  (Mh:FX K "spelled" mR wK)
  (Hd:FX K "is_number" ja rj)
  (B1:FX K "is_variable" iM om)
  (Mi:FX K "is_name" jV wI)
  (Mj:FX K "is_word" mS wJ)
  (Ml:FX K "step_of" mT wN)
  (xH:FX K "bodies_by_name" g0 lH)
  (EF:FX K "read_colon" fY pK)
  (xI:FX K "read_semicolon" eT lJ)
  (Ba:FX K "read_opening" eA m8)
  (He:FX K "read_else" gT rm)
  (Mm:FX K "read_do" jq wO)
  (JO:FX K "read_end" iN tQ)
  (EG:FX K "read_leave" fZ pL)
  (EH:FX K "read_named" jW pM)
  (Hg:FX K "read_name" ku rp)
  (Hh:FX K "read_word" ky rq)
  (JP:FX K "read_all" lC tR)
  (Rk:FX K "begin" sq En)
  (Wv:FX K "go" DF TC)
  (Uq:FX K "said" pF Ja)
  (Vv:FX K "top" vg OF)
  (Vw:FX K "var" vh OG)
  (Rl:FX K "state" mI El)
  (EI:FY K "alike_runs" "alike" gR qf)
  (Rm:FX K "again" mJ s_again)
  (JQ:FX K "is_short" iO ue)
  (EJ:FX K "row_answer" jh qd)
  (Bb:FX K "value_answer" hJ nB)
  (xJ:FX K "numbers_behind" g8 lP)
  (O9:FX K "answer" oM AW)
  (C6:FX K "answers" oN mU)
  (xK:FM K dh "__init__" "Cells.__init__" xy lL)
  (EK:FM K dh "make" "Cells.make" Ew pQ)
  (EL:FM K dh "hold" "Cells.hold" Ex pR)
  (Bc:FM K dh "let_go" "Cells.let_go" A2 ng)
  (qE:FM K dh "how_many_made" "Cells.how_many_made" qy jx)
  (EM:FM K dh "look" "Cells.look" Ey pP)
  (vY:FM K dh "are_alike" "Cells.are_alike" vT kR)
  (xM:FM K dh "first_of" "Cells.first_of" xA lK)
  (yU:FM K dh "rest_of" "Cells.rest_of" yL mj)
  (Be:FM K da "__init__" "Run.__init__" A3 nF)
  (JR:FM K da "give" "Run.give" Ji tV)
  (JS:FM K da "take" "Run.take" Jj tW)
  (qF:FM K da "change_variable" "Run.change_variable" qz jy)
  (qG:FM K da "let_go_of_taken" "Run.let_go_of_taken" qA jz)
  (Bf:FM K da "from_top" "Run.from_top" A4 nu)
  (qH:FM K da "number_from_top" "Run.number_from_top" qB jA)
  (uz:FM K cZ "__init__" "Reading.__init__" ur kf)
  (uA:FM K cZ "spelling" "Reading.spelling" uu ka)
  (rS:FM K cZ "waits_last" "Reading.waits_last" rQ jO)
  (Bg:FM K cZ "wait" "Reading.wait" A5 m6)
  (xN:FM K cZ "waited" "Reading.waited" xB lG)
  (nI:FM K cZ "is_behind_colon" "Reading.is_behind_colon" nH ia)
  (uB:FM K dY "__init__" "Program.__init__" uv kg)
  (uC:FM K dF "__init__" "Session.__init__" uw kj)
  (Rn:∀H,SqT K H lA [.int (0),.int (0)])
  (B2:∀H,SqT K H gm [.int (1),.int (0)])
  (Mn:∀H,SqT K H kH [.int (32),.int (10)])
  (JT:qm w K jo [(.inr "a number",.ref ip),(.inr "()",.ref iq),(.inr "dup",.ref ir),(.inr "drop",.ref iu),(.inr "swap",.ref iw),(.inr "over",.ref iy),(.inr "rot",.ref iz),(.inr "depth",.ref iA),(.inr "+",.ref iB),(.inr "-",.ref iC),(.inr "*",.ref gn),(.inr "/",.ref gp),(.inr "mod",.ref gq),(.inr "<",.ref gu),(.inr "=",.ref gv),(.inr "same",.ref gw),(.inr "pair",.ref gy),(.inr "first",.ref gz),(.inr "rest",.ref gA),(.inr "kind",.ref gB),(.inr "@ variable",.ref gC),(.inr "! variable",.ref gD),(.inr "say",.ref gE),(.inr "put",.ref gF),(.inr "cr",.ref gG),(.inr "if",.ref gH),(.inr "else",.ref gI),(.inr "end",.ref gJ),(.inr "while",.ref gK),(.inr "do",.ref gL),(.inr ":",.ref gM),(.inr "a name",.ref gN),(.inr ";",.ref gO),(.inr "leave",.ref gP)])
  (xO:qm w K fq [(.inr ":",.ref fY),(.inr ";",.ref eT),(.inr "if",.ref eA),(.inr "else",.ref gT),(.inr "while",.ref eA),(.inr "do",.ref jq),(.inr "end",.ref iN),(.inr "leave",.ref fZ)])
  (Pa:qm w K mF [(.inl 1,.ref iS),(.inl 2,.ref iT),(.inl 3,.ref iU),(.inl 4,.ref iV),(.inl 5,.ref iW),(.inl 6,.ref iX),(.inl 7,.ref iY)])
  (EN:∀H,SqT K H ip [.str "",.ref eM])
  (EO:∀H,SqT K H iq [.str "",.ref gQ])
  (ER:∀H,SqT K H ir [.str "v",.ref u7])
  (ES:∀H,SqT K H iu [.str "v",.ref pj])
  (ET:∀H,SqT K H iw [.str "vv",.ref pk])
  (EU:∀H,SqT K H iy [.str "vv",.ref pq])
  (EV:∀H,SqT K H iz [.str "vvv",.ref u9])
  (EW:∀H,SqT K H iA [.str "",.ref mG])
  (EX:∀H,SqT K H iB [.str "nn",.ref vc])
  (EY:∀H,SqT K H iC [.str "nn",.ref je])
  (B3:∀H,SqT K H gn [.str "nn",.ref jf])
  (B4:∀H,SqT K H gp [.str "nn",.ref kI])
  (B5:∀H,SqT K H gq [.str "nn",.ref kJ])
  (B6:∀H,SqT K H gu [.str "nn",.ref px])
  (B7:∀H,SqT K H gv [.str "vv",.ref fX])
  (B8:∀H,SqT K H gw [.str "vv",.ref pz])
  (B9:∀H,SqT K H gy [.str "vv",.ref pA])
  (Ca:∀H,SqT K H gz [.str "c",.ref mH])
  (Cb:∀H,SqT K H gA [.str "c",.ref pB])
  (Cc:∀H,SqT K H gB [.str "v",.ref pC])
  (Cd:∀H,SqT K H gC [.str "",.ref ft])
  (Ce:∀H,SqT K H gD [.str "v",.ref fL])
  (Cf:∀H,SqT K H gE [.str "v",.ref vd])
  (Cg:∀H,SqT K H gF [.str "n",.ref vf])
  (Ci:∀H,SqT K H gG [.str "",.ref jg])
  (Cj:∀H,SqT K H gH [.str "n",.ref eF])
  (Ck:∀H,SqT K H gI [.str "",.ref hZ])
  (Cn:∀H,SqT K H gJ [.str "",.ref hZ])
  (Co:∀H,SqT K H gK [.str "",.ref hZ])
  (Cp:∀H,SqT K H gL [.str "n",.ref eF])
  (Cq:∀H,SqT K H gM [.str "",.ref hZ])
  (Cr:∀H,SqT K H gN [.str "",.ref eZ])
  (Cs:∀H,SqT K H gO [.str "",.ref eG])
  (Cu:∀H,SqT K H gP [.str "",.ref eG])
  (JU:∀H,SqT K H iS [.int (1),.ref DF])
  (JV:∀H,SqT K H iT [.int (1),.ref pF])
  (JW:∀H,SqT K H iU [.int (1),.ref vg])
  (JX:∀H,SqT K H iV [.int (1),.ref vh])
  (JY:∀H,SqT K H iW [.int (0),.ref mI])
  (JZ:∀H,SqT K H iX [.int (2),.ref gR])
  (J0:∀H,SqT K H iY [.int (0),.ref mJ]):
  ∃fd:FuncData,(∀(s:Shared) (us:List Value),us.length=(["calls"]:List Str).length->BindsTo s fd ⟨us,[]⟩ ((["calls"]:List Str).zip us))/\∀base:Heap,K.In base->base.Ns mainGlobals mg->oC P w K mg base CX0 13 fa fd ["calls"] (qg K):=by
 have e:=hfa.symm.trans (PySem.W.mg_of X G C6.1);cases e;obtain⟨fd,F0,hbi⟩:=C6.2.top;refine⟨fd,hbi,fun base _ _=>?_⟩
 let A:Ad:=⟨lA,gm,jo,ip,iq,ir,iu,iw,iy,iz,iA,iB,iC,gn,gp,gq,gu,gv,gw,gy,gz,gA,gB,gC,gD,gE,gF,gG,gH,gI,gJ,gK,gL,gM,gN,gO,gP,kH,fq,mF,iS,iT,iU,iV,iW,iX,iY,dh,da,cZ,dY,dF,iL,mZ,mQ,sj,eM,gQ,fc,u7,pj,pk,pq,u9,mG,fi,vc,je,jf,kI,kJ,gS,px,fX,pz,pA,mH,pB,pC,ft,fL,nV,vd,vf,jg,hZ,eF,eZ,eG,jM,gi,pD,sk,kq,lB,gY,kr,CP,gZ,mR,ja,iM,jV,mS,mT,g0,fY,eT,eA,gT,jq,iN,fZ,jW,ku,ky,lC,sq,DF,pF,vg,vh,mI,gR,mJ,iO,jh,hJ,g8,oM,fa⟩
 let c:Ct:=⟨P,w,K,mg,base⟩
 have T:Tx c A:=⟨PySem.W.mg_none_of X G TY,PySem.W.mg_none_of X G TZ,PySem.W.mg_none_of X G Ez,PySem.W.mg_none_of X G T3,PySem.W.mg_none_of X G T4,PySem.W.mg_none_of X G Q7,PySem.W.mg_none_of X G T5,PySem.W.mg_none_of X G T6,PySem.W.mg_none_of X G OU,PySem.W.mg_none_of X G T7,PySem.W.mg_none_of X G T8,⟨_,PySem.W.mg_of X G G7,⟨_,rfl⟩⟩,⟨_,PySem.W.mg_of X G Jk,⟨_,rfl⟩⟩,⟨_,PySem.W.mg_of X G A6,⟨_,rfl⟩⟩,⟨_,PySem.W.mg_of X G yM,⟨_,rfl⟩⟩,⟨_,PySem.W.mg_of X G BR,⟨_,rfl⟩⟩,⟨_,PySem.W.mg_of X G xC,⟨_,rfl⟩⟩,⟨_,PySem.W.mg_of X G vU,⟨_,rfl⟩⟩,⟨_,PySem.W.mg_of X G BS,⟨_,rfl⟩⟩,⟨_,PySem.W.mg_of X G G8,⟨_,rfl⟩⟩,⟨_,PySem.W.mg_of X G ux,⟨_,rfl⟩⟩,⟨_,PySem.W.mg_of X G qC,⟨_,rfl⟩⟩,⟨_,PySem.W.mg_of X G vV,⟨_,rfl⟩⟩,⟨_,PySem.W.mg_of X G xD,⟨_,rfl⟩⟩,⟨_,PySem.W.mg_of X G Mc,⟨_,rfl⟩⟩,⟨_,PySem.W.mg_of X G OV,⟨_,rfl⟩⟩,⟨_,PySem.W.mg_of X G Q8,⟨_,rfl⟩⟩,⟨_,PySem.W.mg_of X G Q9,rfl⟩,Rn,⟨_,PySem.W.mg_of X G BU,rfl⟩,B2,⟨_,PySem.W.mg_of X G Md,⟨_,rfl⟩⟩,⟨_,PySem.W.mg_of X G Jl,⟨_,rfl⟩⟩,⟨_,PySem.W.mg_of X G EA,⟨_,rfl⟩⟩,⟨_,PySem.W.mg_of X G vW,⟨_,rfl⟩⟩,⟨_,PySem.W.mg_of X G qD,⟨_,rfl⟩⟩,⟨_,PySem.W.mg_of X G G9,⟨_,rfl⟩⟩,⟨_,PySem.W.mg_of X G Jm,rfl⟩,EN,EO,ER,ES,ET,EU,EV,EW,EX,EY,B3,B4,B5,B6,B7,B8,B9,Ca,Cb,Cc,Cd,Ce,Cf,Cg,Ci,Cj,Ck,Cn,Co,Cp,Cq,Cr,Cs,Cu,JT,⟨_,PySem.W.mg_of X G sR,⟨_,rfl⟩⟩,⟨_,PySem.W.mg_of X G EB,⟨_,rfl⟩⟩,⟨_,PySem.W.mg_of X G EC,⟨_,rfl⟩⟩,⟨_,PySem.W.mg_of X G Me,⟨_,rfl⟩⟩,⟨_,PySem.W.mg_of X G Ha,⟨_,rfl⟩⟩,⟨_,PySem.W.mg_of X G Mf,rfl⟩,Mn,⟨_,PySem.W.mg_of X G OW,⟨_,rfl⟩⟩,⟨_,PySem.W.mg_of X G Jn,⟨_,rfl⟩⟩,⟨_,PySem.W.mg_of X G A7,⟨_,rfl⟩⟩,⟨_,PySem.W.mg_of X G yN,⟨_,rfl⟩⟩,⟨_,PySem.W.mg_of X G xE,rfl⟩,xO,⟨_,PySem.W.mg_of X G Ra,⟨_,rfl⟩⟩,⟨_,PySem.W.mg_of X G A8,⟨_,rfl⟩⟩,⟨_,PySem.W.mg_of X G BV,⟨_,rfl⟩⟩,⟨_,PySem.W.mg_of X G ED,⟨_,rfl⟩⟩,⟨_,PySem.W.mg_of X G uy,⟨_,rfl⟩⟩,⟨_,PySem.W.mg_of X G OX,⟨_,rfl⟩⟩,⟨_,PySem.W.mg_of X G yO,⟨_,rfl⟩⟩,⟨_,PySem.W.mg_of X G rR,⟨_,rfl⟩⟩,⟨_,PySem.W.mg_of X G BW,⟨_,rfl⟩⟩,⟨_,PySem.W.mg_of X G OY,rfl⟩,JU,JV,JW,JX,JY,JZ,J0,Pa,⟨O0,O1,O2,O3⟩,fu,iZ,jm,fM,fN,js,⟨Ua,Ub,Uc,Ud⟩,hR,eQ,ff,fU,d8,ji,fF,gW,fz,fQ,eU,jX,i3,⟨Jp,Jq,Jr,Js⟩,jE,eJ,iD,fS,dM,dW,⟨Jw,Jx,Jy,Jz⟩,i4,jF,⟨JD,JE,JF,JG⟩,eK⟩;have F:Fun c.K "answers" "answers" mU A.oN fd:=F0;have jv:=Ab T (dF1 X G BX);have iE:=DM T (dF1 X G Hd);have jt:=Ae T (dF1 X G B1);have ic:=Ie T (dF1 X G Mi);have wQ:=Ih T (dF1 X G Mj) iE ic jt;have D4:=NC T (dF1 X G Rb);have lF:=vw T (dF0 X G xG);have wM:=Ij T (dF2 X G Mh);have NR:=Ta T (dF1 X G Vu) lF wM;have wR:=Im T (dF2 X G Ml) iE ic jt;have dG:=Ge T (dM2 uA);have dC:=Bu T (dM2 rS);have eS:=Qc T (dM2 Bg) dG;have eV:=LJ T (dM1 xN);have ib:=tP T (dM2 nI) dG;have lI:=vA T (dF1 X G xH);have uD:=yr T (dM2 uz) NR lI;have EZ:=Bw T (dF2 X G EF) eS;have Bh:=yu T (dF2 X G Ba) eS;have xP:=vC T (dF2 X G xI) dC eV;have Hj:=DT T (dF2 X G He) dC eS;have Mo:=Ip T (dF2 X G Mm) dC eS;have J1:=Gi T (dF2 X G JO) dC eV;have E1:=By T (dF2 X G EG);have pO:=BA T (dF2 X G EH) dG ic;have rA:=DW T (dF2 X G Hg) dG;have rC:=DY T (dF2 X G Hh) dG ib wQ ic iE jv pO rA EZ xP Bh Hj Mo J1 E1;have uk:=Gn T (dF1 X G JP) rC;have uE:=yw T (dM2 uB) wR;have iG:=Qe T (dM2 EM);have gh:=D0 T (dM3 vY) iG;have eh:=Gs T (dM2 xM);have eI:=Iw T (dM2 yU);have xQ:=BD T (dM1 xK);have pZ:=Qg T (dM3 EK) iG;have j0:=Qh T (dM2 EL) eh eI;have nj:=LO T (dM2 Bc) eh eI;have jD:=wX T (dM1 qE);have wZ:=IB T (dF2 X G Mg);have oQ:=LQ T (dF3 X G O6) D4 wZ eh eI;have dP:=Qk T (dM2 JR) j0;have dI:=Ql T (dM2 JS);have jB:=tX T (dM3 qF) j0;have jC:=tY T (dM1 qG) nj;have dD:=Gx T (dM2 Bf);have cU:=tZ T (dM2 qH) dD;have gb:=Ar T (dF2 X G sX) dP;have yV:=w8 T (dF2 X G sX) dP;have E2:=BH T (dF2 X G EE) dP;have dN:=xa T (dF3 X G yP) dP dI;have Vx:=Th T (dF2 X G Vp) dN;have Ur:=Qn T (dF2 X G Uh) dN;have Us:=Qp T (dF2 X G Ui) dN;have Ut:=Qr T (dF2 X G Uj) dN;have Vy:=Tj T (dF2 X G Vq) dN;have Ro:=N9 T (dF2 X G Rc) gb;have dJ:=Aw T (dF2 X G BY) jv gb dI;have Vz:=To T (dF2 X G Vr) cU dJ;have J2:=Gz T (dF2 X G JJ) cU dJ;have J3:=GB T (dF2 X G JK) cU dJ;have Pb:=LS T (dF2 X G O7) cU dJ;have Pc:=LV T (dF2 X G O8) cU dJ;have gf:=AA T (dF2 X G BZ) dJ;have Uu:=Qv T (dF2 X G Uk) cU gf;have Cv:=Ob T (dA2 X G B0) dD gh gf;have Uv:=Qx T (dF2 X G Ul) dD gf;have Uw:=Qz T (dF2 X G Um) dP dI pZ;have Rp:=Od T (dF2 X G Rf) dP dI eh;have Ux:=QB T (dF2 X G Uo) dP dI eI;have Uy:=QD T (dF2 X G Up) dI gb;have yW:=xg T (dF2 X G yQ) dP;have Bj:=yD T (dF2 X G A9) dI jB;have mM:=Of T (dF3 X G Rg) dI;have VA:=Tq T (dF2 X G Vs) dD oQ mM;have VB:=Ts T (dF2 X G Vt) cU mM;have J4:=GD T (dF2 X G JL) mM;have Rq:=Ol T (dF2 X G Rh);have yX:=xi T (dF2 X G yR) dI;have vZ:=t8 T (dF2 X G vX);have yY:=xk T (dF2 X G yS);have rH:=Ed T (dF2 X G Hc);have lO:=vJ T (dF2 X G xF) rH;have ub:=GG T (dF1 X G JN) lO ⟨yV,E2,Vx,Ur,Us,Ut,Vy,Ro,Vz,J2,J3,Pb,Pc,Uu,Cv,Uv,Uw,Rp,Ux,Uy,yW,Bj,VA,VB,J4,Rq,yX,vZ,yY⟩;have sD:=Ov T (dF1 X G Ri);have rL:=Eh T (dF1 X G Hb) ub sD jC;have jl:=GI T (dF1 X G JM);have ie:=xn T (dF1 X G yT);have Ek:=Ox T (dF2 X G Rj) jl rL;have fA:=GR T (dF2 X G JQ);have j4:=BK T (dF1 X G EJ);have i8:=yF T (dF2 X G Bb) oQ j4;have Ww:=Vn T (dF2 X G Wv) fA Ek jl ie;have Uz:=QS T (dF2 X G Uq) fA j4;have VC:=TH T (dF2 X G Vv) fA dD i8;have VD:=TK T (dF2 X G Vw) fA i8;have Rr:=OI T (dF2 X G Rl) sD jl ie jD;have E3:=BM T (dA2 X G EI) fA dD gh;have uF:=yG T (dM1 uC);have Em:=GX xQ O4 O5 (PySem.W.mg_of X G OZ);have Bk:=GU T (dM2 Be) Em;have C0:=GX Bk Ue Ug (PySem.W.mg_of X G T9);have Ru:=OK T (dF2 X G Rm) C0;have xq:=GX uD Jt Ju (PySem.W.mg_of X G Jo);have xr:=GX uE JA JB (PySem.W.mg_of X G Jv);have Ep:=OM T (dF2 X G Rk) xq xr C0 uk;have lQ:=vP T (dF2 X G xJ);have AY:=L7 T (dF3 X G O9) Ep ⟨Ww,Uz,VC,VD,Rr,E3,Ru⟩;have xu:=GX uF JH JI (PySem.W.mg_of X G JC);exact Je T F xu lQ AY
end Sl
namespace PySem.W.Fast
def tw90343872475197607:Type:=PySem.Params
theorem te90343872475197607:PySem.Params=tw90343872475197607:=rfl
theorem tw14792743633713824048:True:=trivial
theorem tw3990256146607018161:True:=trivial
theorem tw4543757366137841784:True:=trivial
theorem tw10058256206875467543:True:=trivial
theorem tw8070993529921141713:True:=trivial
theorem tw7754337755448806612:True:=trivial
theorem tw7012833474253067426:True:=trivial
theorem tw9214114337407724314:True:=trivial
theorem tw7484073358381632662:True:=trivial
theorem tw16724333482433963747:True:=trivial
theorem tw9836950005060727489:True:=trivial
theorem tw10249618669592631929:True:=trivial
theorem tw13860227699063088594:True:=trivial
theorem tw10760073530633752974:True:=trivial
theorem tw12330455316547722146:True:=trivial
theorem tw2087311939017633296:True:=trivial
theorem tw10388531630347810134:True:=trivial
theorem tw6616183262412206530:True:=trivial
end PySem.W.Fast
open PySem PySem.W PyProof.Rows
set_option maxRecDepth 100000 in
set_option maxHeartbeats 0 in
theorem PySem.Challenge.cw_sharedlists_s01_answers_holds : PySem.Challenge.rw_sharedlists_s01_answers.Holds := by
 w_on;k_headS;(case hw=>exact⟨[.list []],by decide+kernel,by decide+kernel⟩)
 k_fillS
 refine L2.HJ (r:=PySem.Challenge.rw_sharedlists_s01_answers) (k:=13) (CX:=L2.CX0) (ps:=["calls"]) (sp:=Sl.qg) (by decide+kernel) rfl rfl ⟨rfl,by decide,by decide⟩ (fun w h Y=>PySem.W.kIn_of Y) ?F ?S (fun _ _ _ _ z=>z)
 case S=>
  intro K H xs a hO hwi hask hx;cases hx with
  |cons h1 h2=>
   cases h2;cases h1 with
   |lst hs ha=>
    have e:=L2.Kq a.1 _ ha;subst e;have q:((Codec.inLen 0 31000 a.1&&a.1.all (Codec.inInt 0 4294967295))&&true)=true:=hwi;rw[aH,aH]at q;exact⟨_,a.1,rfl,hs,(Codec.inNat_iff.mp q.1.1).2,hask,fun H' p _ _ hp=>.lst (L2.SqL.of hp) (L2.Kp _)⟩
 case F=>
  intro w mg fa h Y KX G hmg;apply Sl.TX KX G hmg
  iterate 120 ((show _=_;k_is))
  iterate 79 ((apply And.intro;(show _=_;k_is);apply Sl.RV;k_is;k_is;k_is))
  iterate 24 ((apply And.intro;(show _=_;k_is);apply And.intro;(show _=_;k_is);apply Sl.RV;k_is;k_is;k_is))
  iterate 3 (exact fun H=>.inr ⟨_,_,_,(by with_unfolding_all rfl),rfl,rfl,(by decide),Sl.QX⟩)
  iterate 3 ((refine' ⟨_,_,_,rfl,⟨rfl,rfl,rfl⟩,rfl,?e,?n,by decide⟩;(case e=>(repeat' (first|exact Sl.OP|refine Sl.L8 ?_ ?_ ?_ ?_);all_goals try with_unfolding_all rfl));(case n=>decide)))
  iterate 34 (exact fun H=>.inr ⟨_,_,_,(by with_unfolding_all rfl),rfl,rfl,(by decide),Sl.QY⟩)
  iterate 7 (exact fun H=>.inr ⟨_,_,_,(by with_unfolding_all rfl),rfl,rfl,(by decide),Sl.QZ⟩)
