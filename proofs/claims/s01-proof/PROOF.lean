import PyProof.Rows.All
import Wide.All
import OpenK.AllK
import Wide.FinOn
import PyProof.EqAt
import PyProof.EqKinds
import PyProof.TupleCall
import KE.BitLaws
import Open.SpecLaws
import KE.OsHead
import KE.OsGo
import PySem.Challenge.RW_travelday_s01_answers
import PyProof.AutoIntG2
import KE.KSortKeySt
theorem U{α:Sort _}{a:α}:a=a:=rfl
theorem Ud{p:Prop}[Decidable p](h:decide p=true:=by rfl):p:=of_decide_eq_true h
theorem oi{α:Sort _}{a:α}{q:Prop}:a=a\/q:=.inl rfl
theorem oj{α:Sort _}{a:α}{q:Prop}:q\/a=a:=.inr rfl
set_option Elab.async false
set_option linter.all false
set_option maxRecDepth 100000
set_option maxHeartbeats 4000000
set_option genSizeOf false
set_option genInjectivity false
set_option tactic.hygienic false
set_option bootstrap.genMatcherCode false
noncomputable section
abbrev abd:=@PySem.Heap.lt_size
abbrev abe:=@Nat.lt_of_lt_of_le
abbrev abf:=@Nat.lt_irrefl
abbrev abg:=@Nat.ne_of_lt
abbrev abh:=@List.mem_filter
abbrev abi:=@List.mem_range
abbrev abj:=@List.mem_filterMap
abbrev abk:=@Nat.le_trans
abbrev abl:=@List.filterMap_cons
abbrev abm:=@List.mem_cons_self
abbrev abn:=@List.mem_cons_of_mem
abbrev abo:=@List.mem_cons
abbrev abp:=@Ne.symm
abbrev abq:=@List.mem_append
abbrev abr:=@List.mem_append_left
abbrev abt:=@List.getElem?_eq_some_iff
abbrev abu:=@List.getElem?_set_self
abbrev abv:=@List.getElem?_set_ne
abbrev abw:=@Array.length_toList
abbrev abx:=@Bool.false_ne_true
abbrev aby:=@Bool.false_and
abbrev abz:=@PySem.Heap.get?_push_of_some
abbrev abA:=@PySem.Heap.get?_push_size
abbrev abB:=@Nat.le_refl
abbrev abC:=@PyProof.Rows.callWith_type1
abbrev abD:=@List.mem_append_right
abbrev abE:=@Nat.zero_le
abbrev abF:=@Bool.eq_iff_iff
abbrev abG:=@List.length_cons
abbrev abH:=@List.map_cons
abbrev abI:=@List.length_map
abbrev abJ:=@PySem.Heap.size_push
abbrev abK:=@Nat.le_of_eq
abbrev abL:=@PySem.W.methodCall_KW
abbrev abM:=@List.append_nil
abbrev abN:=@PySem.W.callWith_K
abbrev abO:=@Nat.le_succ
abbrev abP:=@List.nodup_cons
abbrev abQ:=@Option.isSome_iff_exists
abbrev abR:=@List.length_take
abbrev abS:=@PySem.mem_of_lookup
abbrev abT:=@List.getElem?_append_right
abbrev abU:=@List.getElem?_append_left
abbrev abV:=@List.getElem?_map
abbrev abW:=@List.mem_of_getElem?
abbrev abX:=@List.length_append
abbrev abY:=@Int.toNat_natCast
abbrev abZ:=@List.size_toArray
abbrev ab0:=@List.length_set
abbrev ab1:=@List.length_singleton
abbrev ab2:=@Bool.and_false
abbrev ab3:=@List.lookup_cons
abbrev ab4:=@Nat.le_of_succ_le
abbrev ab5:=@Nat.lt_succ_of_lt
abbrev ab6:=@Bool.and_eq_true
abbrev ab7:=@List.getElem?_eq_none
abbrev ab8:=@List.mem_map
abbrev ab9:=@List.all_eq_true
abbrev aca:=@Bool.or_eq_true
abbrev acb:=@List.foldl_cons
abbrev acd:=@List.getD_eq_getElem?_getD
abbrev ace:=@List.getElem?_set
abbrev acf:=@List.getElem?_eq_getElem
abbrev acg:=@Option.any_some
abbrev ach:=@List.range_succ
abbrev aci:=@List.foldl_append
abbrev acj:=@List.flatMap_cons
abbrev ack:=@List.mem_flatMap
abbrev acm:=@List.map_map
abbrev acn:=@List.map_congr_left
abbrev aco:=@List.countP_cons
abbrev acp:=@Classical.byContradiction
abbrev acq:=@List.countP_le_length
abbrev acr:=@List.getElem?_range
abbrev acs:=@List.cons_append
abbrev acu:=@Int.le_refl
abbrev acv:=@List.mem_iff_getElem?
abbrev acw:=@Option.bind_some
abbrev acx:=@List.exists_of_findSome?_eq_some
abbrev acy:=@List.findSome?_isSome_iff
abbrev acz:=@Option.isSome_map
abbrev acA:=@List.findSome?_cons
abbrev acB:=@List.findSome?_eq_none_iff
abbrev acC:=@Nat.eq_of_testBit_eq
abbrev acD:=@Nat.testBit_or
abbrev acE:=@Nat.testBit_two_pow
abbrev acF:=@Nat.testBit_eq_decide_div_mod_eq
abbrev acG:=@Nat.div_div_eq_div_mul
abbrev acH:=@Nat.two_pow_pos
abbrev acI:=@Nat.pow_le_pow_right
abbrev acJ:=@List.filter_append
abbrev acK:=@Nat.testBit_and
abbrev acL:=@List.length_range
abbrev acM:=@List.pairwise_cons
abbrev acN:=@List.length_filter_le
abbrev acO:=@List.mem_range'_1
abbrev acP:=@List.filter_cons
abbrev acQ:=@List.range_eq_range'
abbrev acR:=@Bool.true_and
abbrev acS:=@Array.getD_eq_getD_getElem?
abbrev acT:=@List.mem_singleton
abbrev acU:=@List.take_append_drop
abbrev acV:=@Nat.testBit_zero
abbrev acW:=@Nat.lt_of_le_of_lt
abbrev acX:=@List.map_append
abbrev acY:=@Nat.sub_self
abbrev acZ:=@PySem.PassesOwn.never
abbrev ac0:=@PySem.F.plainAttrs_list
abbrev ac1:=@PySem.F.slot_list_append
abbrev ac2:=@PySem.F.type_list_append
abbrev ac3:=@List.take_length
abbrev ac4:=@List.take_of_length_le
abbrev ac5:=@List.getElem?_zipIdx
abbrev ac6:=@List.flatMap_append
abbrev ac7:=@Nat.min_le_right
abbrev ac8:=@List.set_set
abbrev ac9:=@List.map_const'
abbrev ada:=@PySem.boot_len
abbrev adb:=@List.findSome?_append
abbrev ade:=@List.getElem_cons_drop
abbrev adf:=@PySem.F.slot_list_extend
abbrev adg:=@PySem.F.type_list_extend
abbrev adh:=@List.not_mem_nil
abbrev adi:=@Nat.min_eq_left
abbrev adj:=@Nat.add_sub_cancel_left
abbrev adk:=@PySem.W.mg_of
abbrev adl:=@PySem.W.mg_none_of
namespace L2
open PySem PySem.Spec PyProof.Rows
abbrev Key:=Sum Int Str
noncomputable def Np:Key->Value->Bool
 | .inl k,v=>Value.isInt k v
 | .inr x,v=>Value.isStrOf x v
noncomputable def UR(w:World):Key->Int
 | .inl k=>hashInt k
 | .inr x=>hashStr w x
theorem eM:∀{k:Key}{v:Value},Np k v=true->(∃i t,k=Sum.inl i/\v=Value.int i t)\/(∃x t,k=Sum.inr x/\v=Value.str x t)
 | .inl i,v,h=>by
  obtain⟨t,e⟩:=Value.isInt_shape (k:=i) (v:=v) h
  exact .inl ⟨i,t,rfl,e⟩
 | .inr x,v,h=>by
  obtain⟨t,e⟩:=Value.isStrOf_shape (x:=x) (v:=v) h
  exact .inr ⟨x,t,rfl,e⟩
theorem NV(a b:Int):decide ((Sum.inl a:Key)=Sum.inl b)=(a==b):=by
 by_cases e:a=b
 . subst e;simp
 have h:¬(Sum.inl a:Key)=Sum.inl b:=fun q=>e (Sum.inl.inj q)
 rw[decide_eq_false h]
 exact(beq_eq_false_iff_ne.mpr e).symm
theorem NW(a b:Str):decide ((Sum.inr a:Key)=Sum.inr b)=decide (a=b):=by
 by_cases e:a=b
 . subst e;simp
 have h:¬(Sum.inr a:Key)=Sum.inr b:=fun q=>e (Sum.inr.inj q)
 rw[decide_eq_false h,decide_eq_false e]
theorem NX(a:Int)(b:Str):decide ((Sum.inl a:Key)=Sum.inr b)=false:=decide_eq_false (fun q=>nomatch q)
theorem NY(a:Str)(b:Int):decide ((Sum.inr a:Key)=Sum.inl b)=false:=decide_eq_false (fun q=>nomatch q)
def Gv(prog:Program)(w:World):PySem.KeyKind prog w Key where
 is:=Np
 hash:=UR w
 inj:=fun v a b ha hb=>by
  rcases eM ha with⟨i,t,rfl,rfl⟩|⟨x,t,rfl,rfl⟩
  . rcases eM hb with⟨j,u,rfl,e⟩|⟨y,u,rfl,e⟩
    . injection e with e1 _;rw[e1]
    exact nomatch e
  rcases eM hb with⟨j,u,rfl,e⟩|⟨y,u,rfl,e⟩
  . exact nomatch e
  injection e with e1 _;rw[e1]
 byValue:=fun k v h=>by
  rcases eM h with⟨i,t,rfl,rfl⟩|⟨x,t,rfl,rfl⟩<;>rfl
 pyHash:=fun hv h=>by
  rcases eM hv with⟨i,t,rfl,rfl⟩|⟨x,t,rfl,rfl⟩
  . exact wpAny_pyHash_int h
  exact wpAny_pyHash_str h
 eqBool:=fun hu hv h=>by
  rcases eM hu with⟨i,t,rfl,rfl⟩|⟨x,t,rfl,rfl⟩
  . rcases eM hv with⟨j,u,rfl,rfl⟩|⟨y,u,rfl,rfl⟩
    . rw[NV]at h;exact wpAny_eqBool_int h
    rw[NX]at h;exact SeqAt.EqAt.int_str i t y u _ _ _ _ h
  rcases eM hv with⟨j,u,rfl,rfl⟩|⟨y,u,rfl,rfl⟩
  . rw[NY]at h;exact SeqAt.EqAt.str_int x t j u _ _ _ _ h
  rw[NW]at h;exact wpAny_eqBool_str h
 «strs»:=fun k x t v h=>by
  rcases eM h with⟨i,u,rfl,e⟩|⟨y,u,rfl,e⟩
  . exact nomatch e
  injection e with e1 _
  subst e1
  cases v<;>rfl
end L2
namespace L2
open PySem PySem.Spec PyProof.Rows
set_option genInjectivity true in
inductive V where
 |dR|bl (b:Bool)|int (i:Int)|str (x:Str)|EW (b:Array UInt8)|TV (b:UInt64)|ref (a:Addr)|ty (n:String)
 deriving DecidableEq
def RelV:V->Value->Prop
 | .dR,u=>u=Value.none
 | .bl b,u=>u=Value.bool b
 | .int i,u=>∃t,u=Value.int i t
 | .str x,u=>∃t,u=Value.str x t
 | .EW b,u=>∃t,u=Value.bytes b t
 | .TV b,u=>∃t,u=Value.float b t
 | .ref a,u=>u=Value.ref a
 | .ty n,u=>u=Value.type n
abbrev Vals:List V->List Value->Prop:=Paired RelV
theorem Vals.length {xs:List V} {us:List Value} (r:Vals xs us):xs.length=us.length:=Paired.length r
theorem Vals.get:∀{xs:List V}{us:List Value}{i:Nat}{x:V},Vals xs us->xs[i]?=some x->∃u,us[i]?=some u/\RelV x u
 |_,_,_,_, .nil,e=>by simp at e
 |_,_,0,_, .cons r _,e=>by simp at e;subst e;exact⟨_,rfl,r⟩
 |_,_,i+1,x, .cons _ t,e=>by
  obtain⟨u,h1,h2⟩:=Vals.get (i:=i) (x:=x) t (by simpa using e)
  exact⟨u,by simpa using h1,h2⟩
theorem Vals.set {x:V} {u:Value} (r:RelV x u):∀{xs:List V}{us:List Value}(i:Nat),Vals xs us->Vals (xs.set i x) (us.set i u)
 |_,_,_, .nil=> .nil
 |_,_,0, .cons _ t=> .cons r t
 |_,_,i+1, .cons q t=> .cons q (Vals.set r i t)
theorem Vals.append:∀{xs ys:List V}{us ws:List Value},Vals xs us->Vals ys ws->Vals (xs++ys) (us++ws)
 |_,_,_,_, .nil,s=>s
 |_,_,_,_, .cons r t,s=> .cons r (Vals.append t s)
theorem Vals.take:∀{xs:List V}{us:List Value}(n:Nat),Vals xs us->Vals (xs.take n) (us.take n)
 |_,_,0,_=> .nil
 |_,_,_+1, .nil=> .nil
 |_,_,n+1, .cons r t=> .cons r (Vals.take n t)
theorem Vals.drop:∀{xs:List V}{us:List Value}(n:Nat),Vals xs us->Vals (xs.drop n) (us.drop n)
 |_,_,0,r=>r
 |_,_,_+1, .nil=> .nil
 |_,_,n+1, .cons _ t=>Vals.drop n t
def Ae:Option V->Option Value->Prop
 |some v,some u=>RelV v u
 |none,none=>True
 |_,_=>False
def KV{κ:Type}:List (κ×V)->List (κ×Value)->Prop:=Paired fun(p:κ×V)(q:κ×Value)=>p.1=q.1/\RelV p.2 q.2
noncomputable def kV:Key->V
 | .inl i=> .int i
 | .inr x=> .str x
inductive HO where
 |lst (xs:List V)
 |tup (xs:List V)
 |dK (BZ:List (Key×V))|dT (BZ:List (List Key×V))
 |set (S:Int->Bool) (n:Nat)
 |ins (C dx:Addr) (fs:List (Str×V))
 |own (x:Addr)
 |xd (fs:List (Str×V))
 |met (f x:Addr)
 |US (lo hi:Int)
 |yo (o:Obj) (u:HO)
 |NZ (ps:Array Value)
 |ext (φ:Heap->Prop)
abbrev Hp:=Addr->Option HO
noncomputable def upd(H:Hp)(a:Addr)(o:HO):Hp:=fun b=>if b=a then some o else H b
theorem af{H:Hp}{a:Addr}{o:HO}:upd H a o a=some o:=by unfold upd;rw[if_pos rfl]
theorem au{H:Hp}{a b:Addr}{o:HO}(h:b≠a):upd H a o b=H b:=by unfold upd;rw[if_neg h]
theorem aL{H:Hp}{a:Addr}{o u:HO}:upd (upd H a o) a u=upd H a u:=by
 funext b;unfold upd;split<;>rfl
theorem bH{H:Hp}{a b:Addr}{o u:HO}(h:H a=some o)(h':H b=some u)(d:o≠u):a≠b:=by
 intro e;subst e;rw[h]at h';exact d (Option.some.inj h')
theorem aw{H:Hp}{a b:Addr}{o:HO}(h:H a=some o)(h':H b=none):a≠b:=by
 intro e;subst e;rw[h]at h';cases h'
section
variable(P:Program)(w:World)
def i4(H:Hp)(h:Heap)(a:Addr):HO->Prop
 | .lst xs=>xs.length<=sizeLine/\∃(bp:List Value)(n:Nat),Vals xs bp/\h.get? a=some {cls:= .type "list",data:= .seq bp.toArray n}
 | .tup xs=>xs.length<=sizeLine/\∃bp:List Value,Vals xs bp/\IsTup h a bp.toArray
 | .dK BZ=>BZ.length<=sizeLine/\(a==sysModules)=false/\∃vs,KV BZ vs/\h.DictOf (Gv P w) a vs
 | .dT BZ=>BZ.length<=sizeLine/\(a==sysModules)=false/\∃xs:List (List Key×Addr×Value),
  Paired (fun(p:List Key×V)(q:List Key×Addr×Value)=>p.1=q.1/\H q.2.1=some (.tup (p.1.map kV))/\RelV p.2 q.2.2) BZ xs/\
  ∃o es ep,h.get? a=some o/\o.ExactDict/\o.data= .dict es ep/\es.toList=xs.map (entryOfKey (tupleKind (Gv P w)))/\(xs.map (·.1)).Nodup
 | .set S n=>h.SetOf (intKind P w) a S n
 | .ins C dx fs=>H dx=some (.own a)/\fs.length<=1000/\dx≠a/\h.get? a=some (PySem.W.instObj C dx)/\
  ∃mA,h.Ns1 dx mA/\(∀f,Ae (fs.lookup f) (mA f))/\PySem.Within mA (fs.map (·.1))
 | .own _=>∃o,h.get? a=some o
 | .xd fs=>∃mA,h.Ns1 a mA/\∀f,Ae (fs.lookup f) (mA f)
 | .US lo hi=>∃t u v,h.get? a=some {cls:= .type "range",data:= .fields #[.int lo t, .int hi u, .int 1 v]}
 | .yo o u=>h.get? a=some o/\i4 H h a u
 | .NZ ps=>h.get? a=some {cls:= .none,data:= .fields ps}
 | .met f x=>h.get? a=some (PySem.W.methodObj (.ref f) (.ref x))
 | .ext φ=>φ h/\(∃o,h.get? a=some o)/\∀h1 h2:Heap,φ h1->(∀o,h1.get? a=some o->h2.get? a=some o)->φ h2
def uf(H:Hp)(h:Heap):Prop:=∀a o,H a=some o->i4 P w H h a o
end
section
variable{P:Program}{w:World}{H H':Hp}{h h':Heap}{a:Addr}{o:HO}
theorem i4.lt (x:i4 P w H h a o):a<h.objs.size:=by
 cases o with
 |lst xs=>obtain⟨_,_,_,_,e⟩:=x;exact abd e
 |tup xs=>obtain⟨_,_,_,p⟩:=x;exact p.lt
 |dK BZ=>obtain⟨_,_,_,_,o,_,_,e,_⟩:=x;exact abd e
 |dT BZ=>obtain⟨_,_,_,_,o,_,_,e,_⟩:=x;exact abd e
 |set S n=>obtain⟨o,_,_,_,e,_⟩:=x;exact abd e
 |ins C dx fs=>obtain⟨_,_,_,e,_⟩:=x;exact abd e
 |own y=>obtain⟨_,e⟩:=x;exact abd e
 |xd fs=>obtain⟨_,⟨_,_,_,e,_⟩,_⟩:=x;exact abd e
 |US lo hi=>obtain⟨_,_,_,e⟩:=x;exact abd e
 |yo ob u=>obtain⟨e,_⟩:=x;exact abd e
 |NZ ps=>exact abd (show h.get? a=some _ from x)
 |met f y=>exact abd (show h.get? a=some _ from x)
 |ext φ=>obtain⟨_,⟨_,e⟩,_⟩:=x;exact abd e
theorem Paired.QX {α β:Type} {F G:α->β->Prop}:∀{QY:List α}{QZ:List β},Paired F QY QZ->(∀a b,F a b->G a b)->Paired G QY QZ
 |_,_, .nil,_=> .nil
 |_,_, .cons r t,f=> .cons (f _ _ r) (Paired.QX t f)
theorem i4.uh (x:i4 P w H h a o) (k:∀b u,(b=a\/H b=some (.own a))->h.get? b=some u->h'.get? b=some u)
 (ho:∀b,H b=some (.own a)->H' b=some (.own a)) (ht:∀b xs,H b=some (.tup xs)->H' b=some (.tup xs)):i4 P w H' h' a o:=by
 induction o with
 |lst xs=>obtain⟨z,bp,n,r,e⟩:=x;exact⟨z,bp,n,r,k _ _ (.inl rfl) e⟩
 |tup xs=>obtain⟨z,bp,r,ob,e,c⟩:=x;exact⟨z,bp,r,ob,k _ _ (.inl rfl) e,c⟩
 |dK BZ=>obtain⟨z,y,vs,r,ob,es,ep,e,c⟩:=x;exact⟨z,y,vs,r,ob,es,ep,k _ _ (.inl rfl) e,c⟩
 |dT BZ=>
  obtain⟨z,y,xs,r,ob,es,ep,e,c⟩:=x
  exact⟨z,y,xs,Paired.QX r fun p q z=>⟨z.1,ht _ _ z.2.1,z.2.2⟩,ob,es,ep,k _ _ (.inl rfl) e,c⟩
 |set S n=>obtain⟨ob,es,ep,t,e,c⟩:=x;exact⟨ob,es,ep,t,k _ _ (.inl rfl) e,c⟩
 |ins C dx fs=>
  obtain⟨d,z,ne,e,mA,⟨od,es,ep,e2,c⟩,r⟩:=x
  exact⟨ho _ d,z,ne,k _ _ (.inl rfl) e,mA,⟨od,es,ep,k _ _ (.inr d) e2,c⟩,r⟩
 |own y=>obtain⟨ob,e⟩:=x;exact⟨ob,k _ _ (.inl rfl) e⟩
 |xd fs=>obtain⟨mA,⟨od,es,ep,e,c⟩,r⟩:=x;exact⟨mA,⟨od,es,ep,k _ _ (.inl rfl) e,c⟩,r⟩
 |US lo hi=>obtain⟨t,u,v,e⟩:=x;exact⟨t,u,v,k _ _ (.inl rfl) e⟩
 |yo ob u ih=>obtain⟨e,q⟩:=x;exact⟨k _ _ (.inl rfl) e,ih q⟩
 |NZ ps=>
  have e:h.get? a=some {cls:= .none,data:= .fields ps}:=x
  show h'.get? a=some {cls:= .none,data:= .fields ps}
  exact k a _ (.inl rfl) e
 |met f y=>
  have e:h.get? a=some (PySem.W.methodObj (.ref f) (.ref y)):=x
  show h'.get? a=some (PySem.W.methodObj (.ref f) (.ref y))
  exact k a _ (.inl rfl) e
 |ext φ=>obtain⟨p,⟨o,e⟩,st⟩:=x;exact⟨st _ _ p fun o q=>k _ _ (.inl rfl) q,⟨o,k _ _ (.inl rfl) e⟩,st⟩
theorem uf.lt (x:uf P w H h) (e:H a=some o):a<h.objs.size:=(x a o e).lt
theorem uf.fresh (x:uf P w H h) (e:h.objs.size<=a):H a=none:=by
 cases q:H a with
 |none=>rfl
 |some u=>exact absurd (abe (x.lt q) e) (abf _)
theorem uf.kept (x:uf P w H h) (k:∀b u,h.get? b=some u->h'.get? b=some u):uf P w H h':=fun a o e=>
 (x a o e).uh (fun b u _ q=>k b u q) (fun _ q=>q) fun _ _ q=>q
theorem uf.laid (x:uf P w H h) (k:∀b u,h.get? b=some u->h'.get? b=some u) (hp:h.objs.size<=a) (new:i4 P w (upd H a o) h' a o):uf P w (upd H a o) h':=fun b u e=>by
 have hn:=x.fresh hp
 by_cases hb:b=a
 . subst hb;rw[af]at e;cases e;exact new
 rw[au hb]at e
 exact(x b u e).uh (fun c v _ q=>k c v q) (fun c q=>by rw[au (aw q hn)];exact q) fun c xs q=>by rw[au (aw q hn)];exact q
end
def Rd(H:Hp)(a:Addr)(u:HO):Prop:=H a=some u\/∃o,H a=some (.yo o u)
theorem Rd.ok {P:Program} {w:World} {H:Hp} {h:Heap} {a:Addr} {u:HO} (r:Rd H a u) (x:uf P w H h):i4 P w H h a u:=by
 rcases r with r|⟨o,r⟩
 . exact x a u r
 obtain⟨_,q⟩:=x a _ r
 exact q
def TX:Option HO->Prop
 |some (.lst _)=>True
 |some (.dK _)=>True
 |some (.dT _)=>True
 |some (.set _ _)=>True
 |some (.ins _ _ _)=>True
 |some (.ext _)=>True
 |_=>False
section
variable{P:Program}{w:World}{H:Hp}{h h':Heap}{x e:Addr}{o':HO}
theorem uf.write (ok:uf P w H h) (mu:TX (H x)) (he:e=x\/H e=some (.own x)) (k:∀b u,b≠e->h.get? b=some u->h'.get? b=some u) (Qt:∃u,h'.get? e=some u)
 (new:i4 P w (upd H x o') h' x o'):uf P w (upd H x o') h':=fun b u q=>by
 have Q0:∀c y,H c=some (.own y)->c≠x:=fun c y r z=>by subst z;rw[r]at mu;exact mu
 have UT:∀c xs,H c=some (.tup xs)->c≠x:=fun c xs r z=>by subst z;rw[r]at mu;exact mu
 by_cases hb:b=x
 . subst hb;rw[af]at q;cases q;exact new
 rw[au hb]at q
 by_cases LC:b=e
 . have q':H b=some (.own x):=by
    rcases he with z|z
    . exact absurd (LC.trans z) hb
    rw[LC];exact z
   rw[q]at q';cases q'
   obtain⟨v,hv⟩:=Qt
   exact⟨v,by rw[LC];exact hv⟩
 refine(ok b u q).uh (fun c v hc r=>k c v ?_ r) (fun c r=>by rw[au (Q0 c b r)];exact r) fun c xs r=>by rw[au (UT c xs r)];exact r
 rcases hc with rfl|hc
 . exact LC
 rintro rfl
 rcases he with z|z
 . exact Q0 c b hc z
 rw[hc]at z;cases z;exact hb rfl
end
structure Un(fs ex:List Addr)(H H':Hp)(h h':Heap):Prop where
 keep:∀b o,h.get? b=some o->H b=none->b∉fs->b∉ex->h'.get? b=some o
 slot:∀b o,h.get? b=some o->H b=none->b∈fs->b∉ex->∃sl,h'.get? b=some {o with slots:=sl}
 free:∀b o,h.get? b=some o->H b=none->b∉ex->H' b=none
 there:∀b o,h.get? b=some o->b∉ex->∃o',h'.get? b=some o'
 Dc:∀b xs,H b=some (.tup xs)->H' b=some (.tup xs)
 yp:∀b o u,H b=some (.yo o u)->H' b=some (.yo o u)
 Dd:∀b ps,H b=some (.NZ ps)->∃more,H' b=some (.NZ (ps++more))
section
variable{fs Qu ex ex':List Addr}{H H1 H2:Hp}{h h1 h2 h':Heap}{a x e:Addr}{o:HO}
theorem Un.any (u:Un fs ex H H1 h h1) {b:Addr} {ob:Obj} (q:h.get? b=some ob) (n:H b=none) (hx:b∉ex):∃sl,h1.get? b=some {ob with slots:=sl}:=by
 by_cases hb:b∈fs
 . exact u.slot b ob q n hb hx
 exact⟨ob.slots,u.keep b ob q n hb hx⟩
theorem Un.kept (k:∀b u,h.get? b=some u->h'.get? b=some u):Un fs ex H H h h':=
 ⟨fun b ob q _ _ _=>k b ob q,fun b ob q _ _ _=>⟨ob.slots,k b ob q⟩,fun _ _ _ n _=>n,fun b ob q _=>⟨ob,k b ob q⟩,fun _ _ q=>q,fun _ _ _ q=>q,fun _ ps q=>⟨#[],by rw[q];simp⟩⟩
theorem Un.refl:Un fs ex H H h h:=Un.kept fun _ _ q=>q
theorem Un.laid (k:∀b u,h.get? b=some u->h'.get? b=some u) (hp:h.objs.size<=a) (hn:H a=none):Un fs ex H (upd H a o) h h' where
 keep:=fun b u q _ _ _=>k b u q
 slot:=fun b u q _ _ _=>⟨u.slots,k b u q⟩
 free:=fun b u q n _=>by rw[au (abg (abe (abd q) hp))];exact n
 there:=fun b u q _=>⟨u,k b u q⟩
 Dc:=fun b xs q=>by rw[au (aw q hn)];exact q
 yp:=fun b u xs q=>by rw[au (aw q hn)];exact q
 Dd:=fun b ps q=>⟨#[],by rw[au (aw q hn),q];simp⟩
theorem Un.write (mu:TX (H x)) (he:e=x\/H e=some (.own x)) (k:∀b u,b≠e->h.get? b=some u->h'.get? b=some u) (Qt:∃u,h'.get? e=some u):Un fs ex H (upd H x o) h h':=by
 have hx:∀b,H b=none->b≠x:=fun b n z=>by subst z;rw[n]at mu;exact mu
 have hb:∀b,H b=none->b≠e:=fun b n z=>by
  subst z
  rcases he with r|r
  . exact hx b n r
  rw[n]at r;cases r
 have hm:∀b u,H b=some u->¬TX (some u)->b≠x:=fun b u q nm z=>by subst z;rw[q]at mu;exact nm mu
 refine⟨fun b u q n _ _=>k b u (hb b n) q,fun b u q n _ _=>⟨u.slots,k b u (hb b n) q⟩,fun b u q n _=>by rw[au (hx b n)];exact n,fun b u q _=> ?_,
  fun b xs q=>by rw[au (hm b _ q fun z=>z)];exact q,fun b u xs q=>by rw[au (hm b _ q fun z=>z)];exact q,fun b ps q=>⟨#[],by rw[au (hm b _ q fun z=>z),q];simp⟩⟩
 by_cases LC:b=e
 . subst LC;exact Qt
 exact⟨u,k b u LC q⟩
end
noncomputable def TY(h:Heap)(H:Hp):List Addr:=(List.range h.objs.size).filter fun a=>(H a).isSome
def ui(h:Heap)(H:Hp):Heap:=PySem.W.hideAll h (TY h H)
theorem AQ(h:Heap)(H:Hp):(ui h H).objs.size=h.objs.size:=PySem.W.hideAll_size _ _
theorem De{h:Heap}{H:Hp}{b:Addr}{o:Obj}(e:h.get? b=some o)(n:H b=none):(ui h H).get? b=some o:=
 PySem.W.hideAll_get _ e fun hm=>by
  have q:(H b).isSome=true:=(abh.mp hm).2
  rw[n]at q;simp at q
theorem Gw{h:Heap}{H:Hp}{b:Addr}{o:Obj}(e:(ui h H).get? b=some o):h.get? b=some o/\H b=none:=by
 have e':h.get? b=some o:=PySem.W.of_hideAll (TY h H) e
 refine⟨e', ?_⟩
 cases q:H b with
 |none=>rfl
 |some x=>
  have hm:b∈TY h H:=abh.mpr ⟨abi.mpr (abd e'),by simp[q]⟩
  have z:(ui h H).get? b=none:=PySem.W.hideAll_none (TY h H) hm
  rw[z]at e;cases e
noncomputable def xU(g h:Heap)(L:Addr):List (Addr×Obj):=(List.range h.objs.size).filterMap fun a=>if a=L\/(g.get? a).isSome=true then none else(h.get? a).map fun o=>(a,o)
theorem Df{g h:Heap}{L a:Addr}{o:Obj}(h1:a≠L)(h2:g.get? a=none)(h3:h.get? a=some o):(a,o)∈xU g h L:=
 abj.mpr ⟨a,abi.mpr (abd h3),by simp[h1,h2,h3]⟩
theorem yq{g h:Heap}{L:Addr}{p:Addr×Obj}(hp:p∈xU g h L):p.1≠L/\g.get? p.1=none/\h.get? p.1=some p.2:=by
 obtain⟨b,_,e⟩:=abj.mp hp
 split at e
 . cases e
 rename_i hn
 cases q:h.get? b with
 |none=>rw[q]at e;simp at e
 |some u=>
  rw[q]at e
  simp only[Option.map_some,Option.some.injEq]at e
  subst e
  refine⟨fun z=>hn (.inl z), ?_,q⟩
  show g.get? b=none
  cases r:g.get? b with
  |none=>rfl
  |some v=>exact(hn (.inr (by simp[r]))).elim
theorem Jt{g h:Heap}{L:Addr}:News g L h (xU g h L):=fun p hp=>let⟨a,b,c⟩:=yq hp;⟨c,a,b⟩
end L2
namespace L2
open PySem PySem.Spec PyProof.Rows
structure Mod(K:PySem.W.Frag)(mg:Str->Option Value)(base:Heap):Prop where
 Qv:K.In base
 glob:base.Ns mainGlobals mg
 blt:∃mb,base.Ns builtinsNs mb/\∀x:Str,x≠"__name__"->mb x=bootBuiltins x
 nolimit:base.NoLimit
structure Cx where
 prog:Program
 w:World
 K:PySem.W.Frag
 mg:Str->Option Value
 base:Heap
 A:Around
 N:List Str
 AR:Shared
 Qw:Hp
 env:Env
 outer:List Env
 stack:List Env
 ex:List Addr
 fn:Str->Bool
 calm:Bool
 pn:List (Addr×Obj)
 xe:Value->Shared->Prop
noncomputable def Ju(l:List Env):List Addr:=l.filterMap (·.frame)
abbrev Cx.fs (X:Cx):List Addr:=Ju X.outer
def Qx(sc:Scope)(x:Str):Prop:=sc.names.lookup x=some .local\/sc.names.lookup x=some .cell\/sc.names.lookup x=some .free
def Loc(sc:Scope)(x:Str):Prop:=sc.names.lookup x=some .local\/sc.names.lookup x=some .cell
def Look(env:Env)(h:Heap)(m:Str->Option Value)(x:Str)(u:Value):Prop:=
 (env.kindOf x=some .local/\m x=some u)\/((env.kindOf x=some .cell\/env.kindOf x=some .free)/\∃c,env.cells.lookup x=some c/\h.IsCell c (some u))
structure Cx.Ok (X:Cx):Prop where
 mod:Mod X.K X.mg X.base
 kind:X.env.scope.kind= .function
 glob:X.env.globals=mainGlobals
 blt:X.env.builtins=builtinsNs
 above:X.AR.heap.objs.size<=X.env.locals
 inj:∀x y c,X.env.cells.lookup x=some c->X.env.cells.lookup y=some c->x=y
 has:∀x,(X.env.kindOf x=some .cell\/X.env.kindOf x=some .free)->∃c,X.env.cells.lookup x=some c
 Qy:∀x c,X.fn x=true->X.env.cells.lookup x=some c->X.AR.heap.objs.size<=c
 hd:X.calm=true->X.A.handled=none
 frames:X.A.frames=some X.stack
 LD:X.stack=X.outer\/(X.stack=X.env::X.outer/\X.env.frame=some X.env.locals)
 Q1:∀b∈X.ex,b≠X.env.locals/\∀x c,X.env.cells.lookup x=some c->c≠b
 bs:∀b o,X.base.get? b=some o->X.AR.heap.get? b=some o/\X.Qw b=none
 Jv:X.base.objs.size<=X.AR.heap.objs.size
 EZ:∀b o,X.base.get? b=some o->b∉X.ex
 HG:∀b∈X.ex,b∉X.fs
 vx:X.AR.heap.FunFrames X.base X.outer
 Nq:∀b∈X.fs,X.Qw b=none
structure Inv(X:Cx)(pins:List (Addr×Obj))(σ:List (Option V))(H:Hp)(s:Shared):Prop where
 ok:X.Ok
 os:s.os=X.AR.os
 bare:AllBare s.gens
 base:Un X.fs X.ex X.Qw H X.AR.heap s.heap
 loc:∃m,s.heap.Ns X.env.locals m/\∀(i:Nat)(x:Str)(v:V),X.N[i]?=some x->σ[i]?=some (some v)->Qx X.env.scope x->∃u,RelV v u/\Look X.env s.heap m x u
 cell:∀x c,X.env.cells.lookup x=some c->∃v,s.heap.IsCell c v
 free:H X.env.locals=none
 nZ:∀x c,X.env.cells.lookup x=some c->H c=none
 pin:∀p∈X.pn++pins,s.heap.get? p.1=some p.2/\H p.1=none/\p.1≠X.env.locals/\p.1∉X.fs/\∀v,p.2.data≠ .cell v
 dD:uf X.prog X.w H s.heap
 len:σ.length=X.N.length
section
variable{X:Cx}{pins:List (Addr×Obj)}{σ:List (Option V)}{H H':Hp}{s:Shared}{h':Heap}
theorem Cx.Ok.UU (ok:X.Ok) {b:Addr} {o:Obj} (e:X.base.get? b=some o):b∉X.fs:=fun hb=>by
 have:=(ok.vx.mem hb).1
 rw[e]at this;cases this
theorem Inv.bs (I:Inv X pins σ H s):∀b o,X.base.get? b=some o->s.heap.get? b=some o/\H b=none:=fun b o e=>
 ⟨I.base.keep b o (I.ok.bs b o e).1 (I.ok.bs b o e).2 (I.ok.UU e) (I.ok.EZ b o e),I.base.free b o (I.ok.bs b o e).1 (I.ok.bs b o e).2 (I.ok.EZ b o e)⟩
theorem Inv.bk (I:Inv X pins σ H s):∀b o,X.base.get? b=some o->s.heap.get? b=some o:=fun b o e=>(I.bs b o e).1
theorem Inv.mod (I:Inv X pins σ H s):Mod X.K X.mg X.base:=I.ok.mod
theorem Inv.E1 (I:Inv X pins σ H s):X.K.In s.heap:=I.ok.mod.Qv.keeps I.bk
theorem Inv.fr (I:Inv X pins σ H s):∃m,Fr X.base X.env.locals s.heap m:=
 let⟨m,hn,_⟩:=I.loc
 ⟨m,hn,I.bk,abk I.ok.Jv I.ok.above⟩
theorem Inv.lt (I:Inv X pins σ H s):X.env.locals<s.heap.objs.size:=let⟨_,hn,_⟩:=I.loc;hn.lt
theorem Inv.sz (I:Inv X pins σ H s):X.AR.heap.objs.size<=s.heap.objs.size:=abk I.ok.above (Nat.le_of_lt I.lt)
theorem Inv.UW (I:Inv X pins σ H s) {a:Addr} (h:s.heap.objs.size<=a):a∉X.fs:=fun hb=>by
 obtain⟨_,o,ho,_⟩:=I.ok.vx.mem hb
 exact absurd (abe (abd ho) (abk I.sz h)) (abf _)
theorem Inv.N1 (I:Inv X pins σ H s):∀x c,X.env.cells.lookup x=some c->c≠X.env.locals:=fun x c e z=>by
 obtain⟨v,o,ho,hd⟩:=I.cell x c e
 obtain⟨m,⟨o',es,ep,Jm,UX,_⟩,_⟩:=I.loc
 rw[z,Jm]at ho;cases ho;rw[UX]at hd;cases hd
theorem Inv.vx (I:Inv X pins σ H s):s.heap.FunFrames X.base X.outer:=by
 have all:∀(l:List Env),(∀b∈Ju l,b∈X.fs)->X.AR.heap.FunFrames X.base l->s.heap.FunFrames X.base l:=by
  intro l
  induction l with
  |nil=>intro _ _;trivial
  |cons env r ih=>
   intro hs hl
   obtain⟨hk,⟨L,o,hf,hn,ho,hd⟩,hr⟩:=hl
   have hL:L∈X.fs:=hs L (by unfold Ju;rw[abl,hf];exact abm)
   obtain⟨sl,e⟩:=I.base.slot L o ho (I.ok.Nq L hL) hL fun z=>I.ok.HG L z hL
   exact⟨hk,⟨L,_,hf,hn,e,hd⟩,ih (fun b hb=>hs b (by unfold Ju;rw[abl,hf];exact abn _ hb)) hr⟩
 exact all X.outer (fun _ hb=>hb) I.ok.vx
theorem Inv.stack (I:Inv X pins σ H s):s.heap.FunFrames X.base X.stack:=by
 rcases I.ok.LD with e|⟨e,hf⟩
 . rw[e];exact I.vx
 rw[e]
 obtain⟨m,hn,_⟩:=I.loc
 refine .cons (by rw[I.ok.kind];decide) hf hn ?_ I.vx
 exact Heap.get?_none_of_le (abk I.ok.Jv I.ok.above)
theorem Inv.E2 (I:Inv X pins σ H s):∀b∈Ju X.stack,b∈X.env.locals::X.fs:=fun b hb=>by
 rcases I.ok.LD with e|⟨e,hf⟩
 . rw[e]at hb;exact abn _ hb
 rw[e]at hb
 unfold Ju at hb
 rw[abl,hf]at hb
 exact hb
theorem Inv.Gx (I:Inv X pins σ H s):∀b∈Ju X.stack,H b=none:=fun b hb=>by
 rcases abo.mp (I.E2 b hb)with e|hb
 . rw[e];exact I.free
 obtain⟨_,o,ho,_⟩:=I.ok.vx.mem hb
 exact I.base.free b o ho (I.ok.Nq b hb) fun z=>I.ok.HG b z hb
theorem Inv.step {g':Array GenState} {t':Nat} {d':Drawn} {ch:List Addr} (I:Inv X pins σ H s)
 (Lr:∀b∈ch,(b∈X.ex\/X.AR.heap.objs.size<=b)/\b≠X.env.locals/\(∀x c,X.env.cells.lookup x=some c->c≠b)/\∀p∈X.pn++pins,p.1≠b)
 (keep:∀b o,b≠X.env.locals->b∉X.fs->b∉ch->s.heap.get? b=some o->H b=none->h'.get? b=some o)
 (slot:∀b o,b≠X.env.locals->b∈X.fs->b∉ch->s.heap.get? b=some o->H b=none->∃sl,h'.get? b=some {o with slots:=sl}) (free:∀b o,b∉ch->s.heap.get? b=some o->H b=none->H' b=none)
 (there:∀b o,b∉ch->s.heap.get? b=some o->∃o',h'.get? b=some o')
 (Dc:∀b xs,H b=some (.tup xs)->H' b=some (.tup xs)) (yp:∀b o u,H b=some (.yo o u)->H' b=some (.yo o u)) (Dd:∀b ps,H b=some (.NZ ps)->∃more,H' b=some (.NZ (ps++more)))
 (ns:∀m,s.heap.Ns X.env.locals m->h'.Ns X.env.locals m) (dD:uf X.prog X.w H' h') (hg:AllBare g'):
 Inv X pins σ H' {s with heap:=h',gens:=g',drawn:=d',toks:=t'}:=by
 have Xw:∀b o,X.AR.heap.get? b=some o->b≠X.env.locals:=fun b o e=>abg (abe (abd e) I.ok.above)
 have TZ:∀b o,X.AR.heap.get? b=some o->b∉X.ex->b∉ch:=fun b o e hx hb=>by
  rcases(Lr b hb).1 with z|z
  . exact hx z
  exact absurd (abe (abd e) z) (abf _)
 have cellK:∀x c,X.env.cells.lookup x=some c->∀v,s.heap.IsCell c v->h'.IsCell c v:=fun x c e v⟨o,ho,hd⟩=>by
  have Q2:c∉ch:=fun z=>(Lr c z).2.2.1 x c e rfl
  by_cases hc:c∈X.fs
  . obtain⟨sl,q⟩:=slot c o (I.N1 x c e) hc Q2 ho (I.nZ x c e)
    exact⟨_,q,hd⟩
  exact⟨o,keep c o (I.N1 x c e) hc Q2 ho (I.nZ x c e),hd⟩
 refine⟨I.ok,I.os,hg,⟨fun b o e n hb hx=> ?_,fun b o e n hb hx=> ?_,fun b o e n hx=> ?_,fun b o e hx=> ?_,fun b xs e=>Dc b xs (I.base.Dc b xs e),fun b o xs e=>yp b o xs (I.base.yp b o xs e),fun b ps e=> ?_⟩, ?_,fun x c e=> ?_, ?_,fun x c e=> ?_,fun p hp=> ?_,dD,I.len⟩
 . exact keep b o (Xw b o e) hb (TZ b o e hx) (I.base.keep b o e n hb hx) (I.base.free b o e n hx)
 . obtain⟨sl,e1⟩:=I.base.slot b o e n hb hx
   obtain⟨YB,e2⟩:=slot b _ (Xw b o e) hb (TZ b o e hx) e1 (I.base.free b o e n hx)
   exact⟨YB,e2⟩
 . obtain⟨o',e1⟩:=I.base.there b o e hx
   exact free b o' (TZ b o e hx) e1 (I.base.free b o e n hx)
 . obtain⟨o',e1⟩:=I.base.there b o e hx
   exact there b o' (TZ b o e hx) e1
 . obtain⟨m1,e1⟩:=I.base.Dd b ps e
   obtain⟨m2,e2⟩:=Dd b _ e1
   exact⟨m1++m2,by rw[e2,Array.append_assoc]⟩
 . obtain⟨m,hn,hl⟩:=I.loc
   refine⟨m,ns m hn,fun i x v e1 e2 e3=> ?_⟩
   obtain⟨u,r,l⟩:=hl i x v e1 e2 e3
   refine⟨u,r, ?_⟩
   rcases l with l|⟨k,c,e,z⟩
   . exact .inl l
   exact .inr ⟨k,c,e,cellK x c e _ z⟩
 . obtain⟨v,z⟩:=I.cell x c e
   exact⟨v,cellK x c e v z⟩
 . obtain⟨m,⟨o,_,_,ho,_⟩,_⟩:=I.loc
   exact free _ o (fun z=>(Lr _ z).2.1 rfl) ho I.free
 . obtain⟨v,o,ho,hd⟩:=I.cell x c e
   exact free c o (fun z=>(Lr c z).2.2.1 x c e rfl) ho (I.nZ x c e)
 obtain⟨e,n,ne,nf,d⟩:=I.pin p hp
 have Q2:p.1∉ch:=fun z=>(Lr p.1 z).2.2.2 p hp rfl
 exact⟨keep p.1 p.2 ne nf Q2 e n,free p.1 p.2 Q2 e n,ne,nf,d⟩
theorem Inv.un {t':Nat} (I:Inv X pins σ H s) (u:Un X.fs [] H H' s.heap h') (dD:uf X.prog X.w H' h'):Inv X pins σ H' {s with heap:=h',toks:=t'}:=by
 obtain⟨m,⟨o,es,ep,ho,r⟩,_⟩:=id I.loc
 obtain⟨sl,hL⟩:=u.any ho I.free (by simp)
 exact I.step (g':=s.gens) (d':=s.drawn) (ch:=[]) (fun _ z=>nomatch z) (fun b o _ hb _ e n=>u.keep b o e n hb (by simp)) (fun b o _ hb _ e n=>u.slot b o e n hb (by simp)) (fun b o _ e n=>u.free b o e n (by simp)) (fun b o _ e=>u.there b o e (by simp)) u.Dc u.yp u.Dd (fun m' hm=>by
  obtain⟨o',T1,T2,Jm,r'⟩:=hm
  rw[ho]at Jm;cases Jm
  exact⟨_,T1,T2,hL,r'⟩) dD I.bare
theorem Inv.call {g':Array GenState} {t':Nat} {d':Drawn} {ch:List Addr} (I:Inv X pins σ H s) (u:Un (Ju X.stack) ch H H' s.heap h') (dD:uf X.prog X.w H' h') (hg:AllBare g')
 (Lr:∀b∈ch,(b∈X.ex\/X.AR.heap.objs.size<=b)/\b≠X.env.locals/\(∀x c,X.env.cells.lookup x=some c->c≠b)/\∀p∈X.pn++pins,p.1≠b):
 Inv X pins σ H' {s with heap:=h',gens:=g',drawn:=d',toks:=t'}:=by
 obtain⟨m,⟨o,es,ep,ho,r⟩,_⟩:=id I.loc
 obtain⟨sl,hL⟩:=u.any ho I.free fun z=>(Lr _ z).2.1 rfl
 exact I.step (ch:=ch) Lr (fun b o hL hb hc e n=>u.keep b o e n (fun z=>(abo.mp (I.E2 b z)).elim hL hb) hc) (fun b o _ _ hc e n=>u.any e n hc) (fun b o hc e n=>u.free b o e n hc) (fun b o hc e=>u.there b o e hc) u.Dc u.yp u.Dd (fun m' hm=>by
  obtain⟨o',T1,T2,Jm,r'⟩:=hm
  rw[ho]at Jm;cases Jm
  exact⟨_,T1,T2,hL,r'⟩) dD hg
theorem Inv.turned {t':Nat} {it:Addr} (I:Inv X pins σ H s) (k:∀b o,b≠it->s.heap.get? b=some o->h'.get? b=some o) (hn:H it=none) (hL:it≠X.env.locals)
 (h1:it∈X.ex\/X.AR.heap.objs.size<=it) (h2:∀x c,X.env.cells.lookup x=some c->c≠it) (h3:∀p∈X.pn++pins,p.1≠it):Inv X pins σ H {s with heap:=h',toks:=t'}:=by
 have Jw:∀b u,H b=some u->b≠it:=fun b u e z=>by rw[z,hn]at e;cases e
 refine I.step (g':=s.gens) (d':=s.drawn) (ch:=[it]) (fun b hb=> ?_) (fun b o _ _ hc e _=>k b o (fun z=>hc (by simp[z])) e) (fun b o _ _ hc e _=>⟨o.slots,k b o (fun z=>hc (by simp[z])) e⟩) (fun _ _ _ _ n=>n)
  (fun b o hc e=>⟨o,k b o (fun z=>hc (by simp[z])) e⟩) (fun _ _ e=>e) (fun _ _ _ e=>e) (fun b ps e=>⟨#[],by rw[e];simp⟩) (fun m hm=> ?_) (fun b u e=> ?_) I.bare
 . have e:b=it:=by simpa using hb
   subst e
   exact⟨h1,hL,h2,h3⟩
 . obtain⟨o,es,ep,ho,r⟩:=hm
   exact⟨o,es,ep,k _ o (abp hL) ho,r⟩
 refine(I.dD b u e).uh (fun c v hc q=>k c v ?_ q) (fun _ q=>q) fun _ _ q=>q
 rcases hc with z|z
 . rw[z];exact Jw b u e
 exact Jw c _ z
theorem Inv.tok (I:Inv X pins σ H s) (t:Nat):Inv X pins σ H {s with toks:=t}:=I.un (h':=s.heap) (t':=t) Un.refl I.dD
theorem Inv.kept {t':Nat} (I:Inv X pins σ H s) (k:∀b u,s.heap.get? b=some u->h'.get? b=some u):Inv X pins σ H {s with heap:=h',toks:=t'}:=I.un (Un.kept k) (I.dD.kept k)
theorem Inv.laid {a:Addr} {o:HO} {t':Nat} (I:Inv X pins σ H s) (k:∀b u,s.heap.get? b=some u->h'.get? b=some u) (hp:s.heap.objs.size<=a) (new:i4 X.prog X.w (upd H a o) h' a o):
 Inv X pins σ (upd H a o) {s with heap:=h',toks:=t'}:=I.un (Un.laid k hp (I.dD.fresh hp)) (I.dD.laid k hp new)
theorem Inv.write {x e:Addr} {o:HO} {t':Nat} (I:Inv X pins σ H s) (mu:TX (H x)) (he:e=x\/H e=some (.own x)) (k:∀b u,b≠e->s.heap.get? b=some u->h'.get? b=some u) (Qt:∃u,h'.get? e=some u)
 (new:i4 X.prog X.w (upd H x o) h' x o):Inv X pins σ (upd H x o) {s with heap:=h',toks:=t'}:=I.un (Un.write mu he k Qt) (I.dD.write mu he k Qt new)
theorem Inv.weak {ff:List (Option V)} (I:Inv X pins σ H s) (hl:ff.length=σ.length) (w:∀(i:Nat)v,ff[i]?=some (some v)->σ[i]?=some (some v)):Inv X pins ff H s:=
 ⟨I.ok,I.os,I.bare,I.base,let⟨m,hn,UY⟩:=I.loc;⟨m,hn,fun i x v e1 e2 e3=>UY i x v e1 (w i v e2) e3⟩,I.cell,I.free,I.nZ,I.pin,I.dD,hl.trans I.len⟩
theorem Inv.xV {Nr:List (Addr×Obj)} (I:Inv X pins σ H s) (h:∀p∈Nr,s.heap.get? p.1=some p.2/\H p.1=none/\p.1≠X.env.locals/\p.1∉X.fs/\∀v,p.2.data≠ .cell v):Inv X Nr σ H s:=
 ⟨I.ok,I.os,I.bare,I.base,I.loc,I.cell,I.free,I.nZ,fun p hp=>(abq.mp hp).elim (fun z=>I.pin p (abr _ z)) (h p),I.dD,I.len⟩
theorem yr{N:List Str}(hN:N.Nodup){i j:Nat}{x:Str}(a:N[i]?=some x)(b:N[j]?=some x):i=j:=by
 obtain⟨h1,e1⟩:=abt.mp a
 obtain⟨h2,e2⟩:=abt.mp b
 exact(List.getElem_inj hN).mp (e1.trans e2.symm)
theorem AS{M:Model}{A:Around}{E:Value->Shared->Prop}{i:Nat}{x:Str}{v:V}{u:Value}{Q:Unit->Shared->Prop}(I:Inv X pins σ H s)(hN:X.N.Nodup)(hi:X.N[i]?=some x)(hx:Loc X.env.scope x)(r:RelV v u)
 (h:∀s',Inv X pins (σ.set i (some v)) H s'->(∃a,Heap.SameBut a s.heap s'.heap/\(a=X.env.locals\/X.env.cells.lookup x=some a))->Q () s') (hf:X.fn x=true\/X.env.scope.names.lookup x=some .local:=by first|exact .inl rfl|exact .inr rfl|assumption):wpAny M A (storeName X.env x u) Q E s:=by
 obtain⟨m,hn,hl⟩:=id I.loc
 have UZ:(X.env.scope.kind== .class||(X.env.scope.kind== .module&&X.env.locals !=X.env.globals))=false:=by rw[I.ok.kind];rfl
 have Q3:i<σ.length:=by rw[I.len];exact(abt.mp hi).1
 have N1:=I.N1
 have tracked:∀{a:Addr}{h':Heap},(∃o,s.heap.get? a=some o/\H a=none)->Heap.SameBut a s.heap h'->uf X.prog X.w H h':=fun{a h'}ha hs b ob e=>by
  obtain⟨_,_,AU⟩:=ha
  refine(I.dD b ob e).uh (fun c w' hc q=>(hs.2 c ?_).trans q) (fun _ q=>q) fun _ _ q=>q
  rintro rfl
  rcases hc with rfl|hc
  . rw[AU]at e;cases e
  rw[AU]at hc;cases hc
 rcases hx with hk|hk
 . refine wpAny_storeName_local hk hn (fun h' U0 hs=> ?_) UZ
   obtain⟨oL,_,_,YC,_⟩:=id hn
   refine h _ ⟨I.ok,I.os,I.bare,⟨fun b o e n hb hx=> ?_,fun b o e n hb hx=> ?_,I.base.free,fun b o e hx=> ?_,I.base.Dc,I.base.yp,I.base.Dd⟩,⟨_,U0,fun j y v' e1 e2 e3=> ?_⟩,fun y c e=> ?_,I.free,I.nZ,fun p hp=> ?_,tracked ⟨oL,YC,I.free⟩ hs,by simpa using I.len⟩ ⟨_,hs, .inl rfl⟩
   . exact(hs.2 b (abg (abe (abd e) I.ok.above))).trans (I.base.keep b o e n hb hx)
   . obtain⟨sl,e1⟩:=I.base.slot b o e n hb hx
     exact⟨sl,(hs.2 b (abg (abe (abd e) I.ok.above))).trans e1⟩
   . obtain⟨o',e1⟩:=I.base.there b o e hx
     exact⟨o',(hs.2 b (abg (abe (abd e) I.ok.above))).trans e1⟩
   . by_cases hj:j=i
     . subst hj
       rw[hi]at e1;cases e1
       rw[abu Q3]at e2
       cases e2
       exact⟨u,r, .inl ⟨hk,by simp⟩⟩
     rw[abv (abp hj)]at e2
     obtain⟨u',r',q⟩:=hl j y v' e1 e2 e3
     refine⟨u',r', ?_⟩
     rcases q with⟨k,e⟩|⟨k,c,e,z⟩
     . refine .inl ⟨k, ?_⟩
       have:y≠x:=fun e=>hj (yr hN e1 (e▸hi))
       simp[this,e]
     exact .inr ⟨k,c,e,z.sameBut hs (N1 y c e)⟩
   . obtain⟨w',z⟩:=I.cell y c e
     exact⟨w',z.sameBut hs (N1 y c e)⟩
   obtain⟨e,n,ne,nf,d⟩:=I.pin p hp
   exact⟨(hs.2 p.1 ne).trans e,n,ne,nf,d⟩
 have U1:X.fn x=true:=by
  rcases hf with z|z
  . exact z
  rw[z]at hk;cases hk
 obtain⟨c,hc⟩:=I.ok.has x (.inl hk)
 obtain⟨w',z⟩:=I.cell x c hc
 refine wpAny_storeName_cell I.ok.kind hk hc z (fun h' Xx hs=> ?_)
 obtain⟨oc,Xy,U2⟩:=id z
 refine h {s with heap:=h'} ⟨I.ok,I.os,I.bare,⟨fun b o e n hb hx=> ?_,fun b o e n hb hx=> ?_,I.base.free,fun b o e hx=> ?_,I.base.Dc,I.base.yp,I.base.Dd⟩,⟨m,hn.sameBut hs (abp (N1 x c hc)),fun j y v' e1 e2 e3=> ?_⟩,fun y c' e=> ?_,I.free,I.nZ,fun p hp=> ?_,tracked ⟨oc,Xy,I.nZ x c hc⟩ hs,by simpa using I.len⟩ ⟨c,hs, .inr hc⟩
 . exact(hs.2 b (abg (abe (abd e) (I.ok.Qy x c U1 hc)))).trans (I.base.keep b o e n hb hx)
 . obtain⟨sl,e1⟩:=I.base.slot b o e n hb hx
   exact⟨sl,(hs.2 b (abg (abe (abd e) (I.ok.Qy x c U1 hc)))).trans e1⟩
 . obtain⟨o',e1⟩:=I.base.there b o e hx
   exact⟨o',(hs.2 b (abg (abe (abd e) (I.ok.Qy x c U1 hc)))).trans e1⟩
 . by_cases hj:j=i
   . subst hj
     rw[hi]at e1;cases e1
     rw[abu Q3]at e2
     cases e2
     exact⟨u,r, .inr ⟨.inl hk,c,hc,Xx⟩⟩
   rw[abv (abp hj)]at e2
   obtain⟨u',r',q⟩:=hl j y v' e1 e2 e3
   refine⟨u',r', ?_⟩
   rcases q with q|⟨k,c',e,z'⟩
   . exact .inl q
   refine .inr ⟨k,c',e,z'.sameBut hs ?_⟩
   rintro rfl
   exact hj (yr hN e1 (I.ok.inj _ _ _ e hc▸hi))
 . by_cases Xz:c'=c
   . subst Xz;exact⟨_,Xx⟩
   obtain⟨w2,z2⟩:=I.cell y c' e
   exact⟨w2,z2.sameBut hs Xz⟩
 obtain⟨e,n,ne,nf,d⟩:=I.pin p hp
 refine⟨(hs.2 p.1 ?_).trans e,n,ne,nf,d⟩
 intro q
 rw[q,Xy]at e
 have q':oc=p.2:=Option.some.inj e
 exact d w' (by rw[<-q'];exact U2)
theorem yt{M:Model}{A:Around}{E:Value->Shared->Prop}{i:Nat}{x:Str}{v:V}{u:Value}{Q:Unit->Shared->Prop}(I:Inv X pins σ H s)(hN:X.N.Nodup)(hi:X.N[i]?=some x)(hx:Loc X.env.scope x)(r:RelV v u)
 (h:∀s',Inv X pins (σ.set i (some v)) H s'->Q () s') (hf:X.fn x=true\/X.env.scope.names.lookup x=some .local:=by first|exact .inl rfl|exact .inr rfl|assumption):wpAny M A (storeName X.env x u) Q E s:=
 AS I hN hi hx r (fun s' I' _=>h s' I') hf
theorem Inv.Q4 {s':Shared} {ch:List Addr} (I:Inv X pins σ H s) (ho:s'.os=s.os) (u:Un (Ju X.stack) ch H H' s.heap s'.heap) (dD:uf X.prog X.w H' s'.heap) (hg:AllBare s'.gens)
 (Lr:∀b∈ch,(b∈X.ex\/X.AR.heap.objs.size<=b)/\b≠X.env.locals/\(∀x c,X.env.cells.lookup x=some c->c≠b)/\∀p∈X.pn++pins,p.1≠b):Inv X pins σ H' s':=by
 obtain⟨h',g',d',t',o'⟩:=s'
 have e:o'=s.os:=ho
 subst e
 exact I.call (g':=g') (t':=t') (d':=d') u dD hg Lr
end
abbrev XK:=Value->Option Addr->Hp->Prop
abbrev St:=List (Option V)
abbrev VK:=V->Hp->Prop
abbrev TE:=St->Hp->VK->Prop
abbrev TT:=St->Hp->(Bool->Hp->Prop)->Prop
abbrev TA:=St->Hp->(List V->Hp->Prop)->Prop
structure Ends where
 nx:St->Hp->Prop
 rt:VK
 bk:St->Hp->Prop:=fun _ _=>False
 ct:St->Hp->Prop:=fun _ _=>False
abbrev TS:=Ends->St->Hp->Prop
def EP(X:Cx)(pins:List (Addr×Obj))(σ:St)(Q:VK)(u:Value)(s':Shared):Prop:=∃v H',Inv X pins σ H' s'/\RelV v u/\Q v H'
def TP(X:Cx)(pins:List (Addr×Obj))(σ:St)(Q:Bool->Hp->Prop)(b:Bool)(s':Shared):Prop:=∃H',Inv X pins σ H' s'/\Q b H'
def AP(X:Cx)(pins:List (Addr×Obj))(σ:St)(Q:List V->Hp->Prop)(us:List Value)(s':Shared):Prop:=∃vs H',Inv X pins σ H' s'/\Vals vs us/\Q vs H'
def SP(X:Cx)(pins:List (Addr×Obj))(D:Ends)(f:Flow)(s':Shared):Prop:=
 match f with
 | .next=>∃ff H',Inv X pins ff H' s'/\D.nx ff H'
 | .brk=>∃ff H',Inv X pins ff H' s'/\D.bk ff H'
 | .cont=>∃ff H',Inv X pins ff H' s'/\D.ct ff H'
 | .ret u=>∃v ff H',Inv X pins ff H' s'/\RelV v u/\D.rt v H'
def PE(X:Cx)(e:Expr)(t:TE):Prop:=
 ∀(pins:List (Addr×Obj))(s:Shared)(σ:St)(H:Hp)(Q:VK),Inv X pins σ H s->t σ H Q->wpAny (model X.prog X.w) X.A (eval e X.env) (EP X pins σ Q) X.xe s
def PT(X:Cx)(e:Expr)(t:TT):Prop:=
 ∀(pins:List (Addr×Obj))(s:Shared)(σ:St)(H:Hp)(Q:Bool->Hp->Prop),Inv X pins σ H s->t σ H Q->wpAny (model X.prog X.w) X.A (isTrue e X.env (eval e X.env)) (TP X pins σ Q) X.xe s
def PW(X:Cx)(e:Expr)(t:TT):Prop:=
 ∀(whole:Sem Value)(pins:List (Addr×Obj))(s:Shared)(σ:St)(H:Hp)(Q:Bool->Hp->Prop),Inv X pins σ H s->t σ H Q->wpAny (model X.prog X.w) X.A (isTrue e X.env whole) (TP X pins σ Q) X.xe s
theorem PW.pt {X:Cx} {e:Expr} {t:TT} (h:PW X e t):PT X e t:=h _
def PA(X:Cx)(es:List Expr)(t:TA):Prop:=
 ∀(pos:Pos)(pins:List (Addr×Obj))(s:Shared)(σ:St)(H:Hp)(Q:List V->Hp->Prop),Inv X pins σ H s->t σ H Q->wpAny (model X.prog X.w) X.A (spliced (backTo pos (starEach es X.env))) (AP X pins σ Q) X.xe s
def PS(X:Cx)(st:Stmt)(t:TS):Prop:=
 ∀(pins:List (Addr×Obj))(s:Shared)(σ:St)(H:Hp)(D:Ends),Inv X pins σ H s->t D σ H->wpAny (model X.prog X.w) X.A (exec st X.env) (SP X pins D) X.xe s
def HH(X:Cx)(st:List Stmt)(t:TS):Prop:=
 ∀(pins:List (Addr×Obj))(s:Shared)(σ:St)(H:Hp)(D:Ends),Inv X pins σ H s->t D σ H->wpAny (model X.prog X.w) X.A (execs st X.env) (SP X pins D) X.xe s
theorem eO{α:Type}{t:Sem α}{Q Q':α->Shared->Prop}{M:Model}{A:Around}{E:Value->Shared->Prop}{s:Shared}(h:wpAny M A t Q E s)(hQ:∀a s,Q a s->Q' a s):wpAny M A t Q' E s:=wpAny_mono h hQ fun _ _ x=>x
end L2
namespace L2
open PySem PySem.Spec PyProof.Rows
section
variable{X:Cx}
theorem bin{a b:Expr}{ta tb:TE}(ha:PE X a ta)(hb:PE X b tb){pins:List (Addr×Obj)}{s:Shared}{σ:St}{H:Hp}{R:V->V->Hp->Prop}(I:Inv X pins σ H s)(h:ta σ H fun x H1=>tb σ H1 fun y H2=>R x y H2)
 {α:Type} {Q:α->Shared->Prop} {f:Value->Value->Sem α}
 (hf:∀v u s2 x y H2,Inv X pins σ H2 s2->RelV x v->RelV y u->R x y H2->wpAny (model X.prog X.w) X.A (f v u) Q X.xe s2):
 wpAny (model X.prog X.w) X.A (eval a X.env) (fun v bZ=>wpAny (model X.prog X.w) X.A (eval b X.env) (fun u Af=>wpAny (model X.prog X.w) X.A (f v u) Q X.xe Af) X.xe bZ) X.xe s:=by
 refine eO (ha pins s σ H _ I h) fun v s1⟨x,H1,I1,r1,q1⟩=> ?_
 refine eO (hb pins s1 σ H1 _ I1 q1) fun u s2⟨y,H2,I2,r2,q2⟩=> ?_
 exact hf v u s2 x y H2 I2 r1 r2 q2
def cT(i:Nat):TE:=fun σ H Q=>∃v,σ[i]?=some (some v)/\Q v H
def tC(v:V):TE:=fun _ H Q=>Q v H
theorem N2{i:Nat}{x:Str}{pos:Pos}(hN:X.N[i]?=some x)(hv:Qx X.env.scope x)(hd:(x==("__debug__":Str))=false:=by decide)(Ls:(x==("__classdict__":Str))=false:=by decide):PE X (.Name x pos) (cT i):=by
 intro pins s σ H Q I h
 obtain⟨v,e,h⟩:=h
 obtain⟨m,hn,hl⟩:=I.loc
 obtain⟨u,r,l⟩:=hl i x v hN e hv
 have fin:EP X pins σ Q u s:=⟨v,H,I,r,h⟩
 rcases l with⟨hk,hm⟩|⟨hk,c,hc,Gy⟩
 . exact wpAny_Name (wpAny_loadName_local I.ok.kind hk hn hm fin) hd
 rcases hk with hk|hk
 . exact wpAny_Name (wpAny_loadName_cell I.ok.kind hk hc Gy fin) hd
 exact wpAny_Name (wpAny_loadName_free I.ok.kind hk hc Gy fin Ls) hd
theorem aj{i j pos}:PE X (.Constant (.int i) j pos) (tC (.int i)):=fun _ _ _ H _ I h=>wpAny_Constant_int ⟨.int i,H,I.tok _,⟨_,rfl⟩,h⟩
theorem p0{b j pos}:PE X (.Constant (.bool b) j pos) (tC (.bl b)):=fun _ _ _ H _ I h=>Constant_bool ⟨.bl b,H,I,rfl,h⟩
theorem cI{j pos}:PE X (.Constant .none j pos) (tC .dR):=fun _ _ _ H _ I h=>Constant_none ⟨.dR,H,I,rfl,h⟩
def Gl(X:Cx)(x:Str):Prop:=X.env.kindOf x=some .globalImplicit
theorem B0{E:Value->Shared->Prop}{pins:List (Addr×Obj)}{s:Shared}{σ:St}{H:Hp}{x:Str}{u:Value}{pos:Pos}{Q:Value->Shared->Prop}(I:Inv X pins σ H s)(hg:Gl X x)(hm:X.mg x=some u)(h:Q u s)
 (hd:(x==("__debug__":Str))=false:=by decide):wpAny (model X.prog X.w) X.A (eval (.Name x pos) X.env) Q E s:=
 Calls.Name_function_global I.ok.kind hg (Calls.loadGlobal_global (by rw[I.ok.glob];exact I.mod.glob.keeps I.bk) hm h) hd
theorem qz{E:Value->Shared->Prop}{pins:List (Addr×Obj)}{s:Shared}{σ:St}{H:Hp}{x:Str}{u:Value}{pos:Pos}{Q:Value->Shared->Prop}(I:Inv X pins σ H s)(hg:Gl X x)(hm:X.mg x=none)(hv:bootBuiltins x=some u)(h:Q u s)
 (hn:x≠"__name__":=by decide) (hd:(x==("__debug__":Str))=false:=by decide):wpAny (model X.prog X.w) X.A (eval (.Name x pos) X.env) Q E s:=by
 obtain⟨mb,h1,h2⟩:=I.mod.blt
 exact Calls.Name_function_global I.ok.kind hg (Calls.loadGlobal_builtin (by rw[I.ok.glob];exact I.mod.glob.keeps I.bk) hm (by rw[I.ok.blt];exact h1.keeps I.bk) ((h2 x hn).trans hv) h) hd
theorem B1{x:Str}{v:V}{u:Value}{pos:Pos}(hg:Gl X x)(hm:X.mg x=some u)(r:RelV v u)(hd:(x==("__debug__":Str))=false:=by decide):PE X (.Name x pos) (tC v):=
 fun _ _ _ H _ I h=>B0 I hg hm ⟨v,H,I,r,h⟩ hd
variable{a b:Expr}{ta tb:TE}{pos:Pos}
def PC(X:Cx)(op:CmpOp)(a b:Expr)(t:TE):Prop:=
 ∀(pins:List (Addr×Obj))(s:Shared)(σ:St)(H:Hp)(Q:VK),Inv X pins σ H s->t σ H Q->
  wpAny (model X.prog X.w) X.A (eval a X.env) (fun v bZ=>wpAny (model X.prog X.w) X.A (eval b X.env) (fun u Af=>wpAny (model X.prog X.w) X.A (compareOp op v u) (EP X pins σ Q) X.xe Af) X.xe bZ) X.xe s
def tB(t:TE):TT:=fun σ H Q=>t σ H fun x H1=>∃c,x= .bl c/\Q c H1
theorem U3{op:CmpOp}{t:TE}(h:PC X op a b t)(h1:behindInMarks op b=false:=by first|exact Q5 _ (by decide) (by decide)|rfl):PT X (.Compare a [op] [b] pos) (tB t):=by
 intro pins s σ H Q I hw
 refine wpAny_isTrue_Compare1 (eO (h pins s σ H _ I hw) fun v s1 h1=>eO h1 fun u s2 h2=>eO h2 fun c s3⟨x,H1,I1,r1,q1⟩=> ?_) h1
 obtain⟨d,rfl,q⟩:=q1
 cases r1
 exact wpAny_truthy_bool ⟨H1,I1,q⟩
theorem lU{e:Expr}{t:TE}(h:PE X e t)(he:∀whole,isTrue e X.env whole=(do let v <-whole;standAt e.pos;holding [v] (truthy v)):=by intro _;rfl):PT X e (tB t):=by
 intro pins s σ H Q I hw
 refine isTrue_plain (eO (h pins s σ H _ I hw) fun v s1⟨x,H1,I1,r1,q1⟩=> ?_) (he _)
 obtain⟨d,rfl,q⟩:=q1
 cases r1
 exact wpAny_truthy_bool ⟨H1,I1,q⟩
variable{tA T3:TT}{rest:List Expr}
def U4(t u:TT):TT:=fun σ H Q=>t σ H fun c H1=>if c=true then u σ H1 Q else Q false H1
def YD(t u:TT):TT:=fun σ H Q=>t σ H fun c H1=>if c=true then Q true H1 else u σ H1 Q
def U5(t:TT):TT:=fun σ H Q=>t σ H fun c H1=>Q (!c) H1
theorem Gz(ha:PT X a tA):PW X (.BoolOp .And [a] pos) tA:=by
 intro wh pins s σ H Q I h
 refine isTrue_and (eO (ha pins s σ H Q I h) fun c s1 e=> ?_)
 cases c with
 |true=>exact isTrue_and_nil e
 |false=>exact e
theorem gw(ha:PT X a tA):PW X (.BoolOp .Or [a] pos) tA:=by
 intro wh pins s σ H Q I h
 refine isTrue_or (eO (ha pins s σ H Q I h) fun c s1 e=> ?_)
 cases c with
 |false=>exact isTrue_or_nil e
 |true=>exact e
theorem Jx(ha:PT X a tA)(hb:PW X (.BoolOp .And (b::rest) pos) T3):PW X (.BoolOp .And (a::b::rest) pos) (U4 tA T3):=by
 intro wh pins s σ H Q I h
 refine isTrue_and (eO (ha pins s σ H _ I h) fun c s1⟨H1,I1,q1⟩=> ?_)
 cases c with
 |true=>exact hb wh pins s1 σ H1 Q I1 q1
 |false=>exact⟨H1,I1,q1⟩
theorem gn(ha:PT X a tA)(hb:PW X (.BoolOp .Or (b::rest) pos) T3):PW X (.BoolOp .Or (a::b::rest) pos) (YD tA T3):=by
 intro wh pins s σ H Q I h
 refine isTrue_or (eO (ha pins s σ H _ I h) fun c s1⟨H1,I1,q1⟩=> ?_)
 cases c with
 |true=>exact⟨H1,I1,q1⟩
 |false=>exact hb wh pins s1 σ H1 Q I1 q1
theorem sY(ha:PT X a tA):PT X (.UnaryOp .Not a pos) (U5 tA):=by
 intro pins s σ H Q I h
 exact isTrue_not (ha pins s σ H (fun c H1=>Q (!c) H1) I h)
def Q6(ta tb:TE):TE:=fun σ H Q=>ta σ H fun x H1=>∃c,x= .bl c/\if c=true then tb σ H1 Q else Q (.bl false) H1
theorem Jy{op}{t:TE}(h:PE X a t):PE X (.BoolOp op [a] pos) t:=fun pins s σ H Q I hw=>BoolOp_one (h pins s σ H Q I hw)
theorem Jz(ha:PE X a ta)(hb:PE X (.BoolOp .And (b::rest) pos) tb):PE X (.BoolOp .And (a::b::rest) pos) (Q6 ta tb):=by
 intro pins s σ H Q I h
 refine BoolOp_and (eO (ha pins s σ H _ I h) fun v s1⟨x,H1,I1,r1,q1⟩=> ?_)
 obtain⟨c,rfl,q1⟩:=q1
 cases r1
 refine wpAny_truthy_bool ?_
 cases c with
 |true=>exact hb pins s1 σ H1 Q I1 q1
 |false=>exact⟨.bl false,H1,I1,rfl,q1⟩
def XA(t:TT)(ta tb:TE):TE:=fun σ H Q=>t σ H fun c H1=>if c=true then ta σ H1 Q else tb σ H1 Q
theorem JA{c:Expr}(hc:PT X c tA)(ha:PE X a ta)(hb:PE X b tb):PE X (.IfExp c a b pos) (XA tA ta tb):=by
 intro pins s σ H Q I h
 refine wpAny_IfExp (eO (hc pins s σ H _ I h) fun d s1⟨H1,I1,q1⟩=> ?_)
 cases d with
 |true=>exact ha pins s1 σ H1 Q I1 q1
 |false=>exact hb pins s1 σ H1 Q I1 q1
end
end L2
namespace L2
open PySem PySem.Spec PyProof.Rows
def aW(K:PySem.W.Frag)(H:Hp)(a:Addr)(xs:List V):Prop:=
 Rd H a (.lst xs)\/
  ∃(o:Obj)(bp:Array Value)(n:Nat),K.lookup a=some o/\o.cls= .type "list"/\o.dict=none/\o.data= .seq bp n/\bp.size<=sizeLine/\Vals xs bp.toList
def xq(K:PySem.W.Frag)(H:Hp)(a:Addr)(xs:List V):Prop:=
 Rd H a (.tup xs)\/
  ∃(o:Obj)(bp:Array Value)(n:Nat),K.lookup a=some o/\o.cls= .type "tuple"/\o.data= .seq bp n/\bp.size<=sizeLine/\Vals xs bp.toList
noncomputable def U6:Value->Option V
 | .none=>some .dR
 | .bool b=>some (.bl b)
 | .int i _=>some (.int i)
 | .str x _=>some (.str x)
 | .bytes b _=>some (.EW b)
 | .float b _=>some (.TV b)
 | .ref a=>some (.ref a)
 | .type n=>some (.ty n)
 |_=>none
theorem RelV.abs {x:V} {u:Value} (r:RelV x u):U6 u=some x:=by
 cases x with
 |dR=>cases r;rfl
 |bl _=>cases r;rfl
 |int _=>obtain⟨t,rfl⟩:=r;rfl
 |str _=>obtain⟨t,rfl⟩:=r;rfl
 |EW _=>obtain⟨t,rfl⟩:=r;rfl
 |TV _=>obtain⟨t,rfl⟩:=r;rfl
 |ref _=>cases r;rfl
 |ty _=>cases r;rfl
theorem RelV.inj {x y:V} {u:Value} (r:RelV x u) (q:RelV y u):x=y:=Option.some.inj (r.abs.symm.trans q.abs)
theorem Vals.inj:∀{xs ys:List V}{us:List Value},Vals xs us->Vals ys us->xs=ys
 |_,_,_, .nil, .nil=>rfl
 |_,_,_, .cons r t, .cons r' t'=>by rw[r.inj r',Vals.inj t t']
section
variable{X:Cx}{pins:List (Addr×Obj)}{σ:St}{H:Hp}{s:Shared}{a:Addr}{xs ys:List V}
theorem aW.of {K:PySem.W.Frag} (h:H a=some (.lst xs)):aW K H a xs:= .inl (.inl h)
theorem xq.of {K:PySem.W.Frag} (h:H a=some (.tup xs)):xq K H a xs:= .inl (.inl h)
theorem Inv.list (I:Inv X pins σ H s) (h:aW X.K H a xs):∃bp:List Value,Vals xs bp/\PlainL s.heap a bp.toArray/\xs.length<=sizeLine:=by
 rcases h with h|⟨o,bp,n,hk,hc,hd,hs,hz,r⟩
 . obtain⟨z,bp,n,r,e⟩:=h.ok I.dD
   exact⟨bp,r,⟨_,n,e,U,U,U⟩,z⟩
 refine⟨bp.toList,r,⟨o,n,I.E1 a o hk,hc,hd,by simpa using hs⟩, ?_⟩
 have e:=r.length
 simp only[abw]at e
 lia
theorem Inv.tuple (I:Inv X pins σ H s) (h:xq X.K H a xs):∃bp:List Value,Vals xs bp/\IsTup s.heap a bp.toArray/\xs.length<=sizeLine:=by
 rcases h with h|⟨o,bp,n,hk,hc,hs,hz,r⟩
 . obtain⟨z,bp,r,p⟩:=h.ok I.dD
   exact⟨bp,r,p,z⟩
 refine⟨bp.toList,r,⟨o,I.E1 a o hk,hc,n,by simpa using hs⟩, ?_⟩
 have e:=r.length
 simp only[abw]at e
 lia
theorem Inv.yu (I:Inv X pins σ H s) (h:aW X.K H a xs) (h':aW X.K H a ys):xs=ys:=by
 obtain⟨bp,r,⟨o,n,e,_,_,d⟩,_⟩:=I.list h
 obtain⟨its',r',⟨o',n',e',_,_,d'⟩,_⟩:=I.list h'
 rw[e]at e';cases e'
 rw[d]at d'
 injection d' with d1 _
 have:bp=its':=by simpa using congrArg Array.toList d1
 subst this
 exact r.inj r'
theorem Inv.HI (I:Inv X pins σ H s) (h:xq X.K H a xs) (h':xq X.K H a ys):xs=ys:=by
 obtain⟨bp,r,⟨o,e,_,n,d⟩,_⟩:=I.tuple h
 obtain⟨its',r',⟨o',e',_,n',d'⟩,_⟩:=I.tuple h'
 rw[e]at e';cases e'
 rw[d]at d'
 injection d' with d1 _
 have:bp=its':=by simpa using congrArg Array.toList d1
 subst this
 exact r.inj r'
end
abbrev Cx.Ag (X:Cx) (E:Value->Shared->Prop):Cx:={X with xe:=E}
abbrev Cx.T4 (X:Cx):Cx:=X.Ag fun _ _=>False
theorem Cx.Ok.Ag {X:Cx} (ok:X.Ok) (E:Value->Shared->Prop):(X.Ag E).Ok:=
 ⟨ok.mod,ok.kind,ok.glob,ok.blt,ok.above,ok.inj,ok.has,ok.Qy,ok.hd,ok.frames,ok.LD,ok.Q1,ok.bs,ok.Jv,ok.EZ,ok.HG,ok.vx,ok.Nq⟩
theorem Cx.Ok.qA {X:Cx} {E:Value->Shared->Prop} (ok:(X.Ag E).Ok):X.Ok:=
 ⟨ok.mod,ok.kind,ok.glob,ok.blt,ok.above,ok.inj,ok.has,ok.Qy,ok.hd,ok.frames,ok.LD,ok.Q1,ok.bs,ok.Jv,ok.EZ,ok.HG,ok.vx,ok.Nq⟩
section
variable{X:Cx}{pins:List (Addr×Obj)}{σ:St}{H:Hp}{s:Shared}{E:Value->Shared->Prop}
theorem Inv.Ag (I:Inv X pins σ H s) (E:Value->Shared->Prop):Inv (X.Ag E) pins σ H s:=⟨I.ok.Ag E,I.os,I.bare,I.base,I.loc,I.cell,I.free,I.nZ,I.pin,I.dD,I.len⟩
theorem Inv.qA (I:Inv (X.Ag E) pins σ H s):Inv X pins σ H s:=⟨I.ok.qA,I.os,I.bare,I.base,I.loc,I.cell,I.free,I.nZ,I.pin,I.dD,I.len⟩
theorem SP.qA {D:Ends} {f:Flow} {s':Shared} (h:SP (X.Ag E) pins D f s'):SP X pins D f s':=by
 cases f with
 |next=>obtain⟨ff,H',I,q⟩:=h;exact⟨ff,H',I.qA,q⟩
 |brk=>obtain⟨ff,H',I,q⟩:=h;exact⟨ff,H',I.qA,q⟩
 |cont=>obtain⟨ff,H',I,q⟩:=h;exact⟨ff,H',I.qA,q⟩
 |ret u=>obtain⟨v,ff,H',I,r,q⟩:=h;exact⟨v,ff,H',I.qA,r,q⟩
theorem HH.T4 {st:List Stmt} {t:TS} (h:HH X.T4 st t):HH X st t:=fun pins s σ H D I hw=>
 wpAny_mono (h pins s σ H D (I.Ag _) hw) (fun _ _ q=>q.qA) fun _ _ z=>False.elim z
end
section
variable{X:Cx}{st:Stmt}{rest:List Stmt}{t u:TS}{e:Expr}{te:TE}{pos:Pos}
def GA:TS:=fun D σ H=>D.nx σ H
def Ah(t u:TS):TS:=fun D σ H=>t {D with nx:=u D} σ H
theorem aF:HH X [] GA:=fun _ _ σ H _ I h=>wpAny_execs_nil ⟨σ,H,I,h⟩
theorem ae(h1:PS X st t)(h2:HH X rest u):HH X (st::rest) (Ah t u):=by
 intro pins s σ H D I h
 refine wpAny_execs_cons (eO (h1 pins s σ H {D with nx:=u D} I h) fun f s1 q=> ?_)
 cases f with
 |next=>
  obtain⟨ff,H',I',q⟩:=q
  exact h2 pins s1 ff H' D I' q
 |ret v=>exact q
 |brk=>exact q
 |cont=>exact q
theorem ah(h1:PS X st t):HH X [st] t:=by
 intro pins s σ H D I h
 refine wpAny_execs_cons (eO (h1 pins s σ H D I h) fun f s1 q=> ?_)
 cases f with
 |next=>exact wpAny_execs_nil q
 |ret v=>exact q
 |brk=>exact q
 |cont=>exact q
def N4:TS:=fun D σ H=>D.bk σ H
def Q7:TS:=fun D σ H=>D.ct σ H
theorem JB:PS X (.Break pos) N4:=fun _ _ σ H _ I h=>wpAny_Break ⟨σ,H,I,h⟩
theorem qB:PS X (.Continue pos) Q7:=fun _ _ σ H _ I h=>wpAny_Continue ⟨σ,H,I,h⟩
theorem Inv.quiet {pins:List (Addr×Obj)} {σ:St} {H:Hp} {s:Shared} (I:Inv X pins σ H s):interactive X.env=false:=by simp[interactive,I.ok.kind]
def Dg(te:TE):TS:=fun D σ H=>te σ H fun _ H1=>D.nx σ H1
theorem cF(he:PE X e te)(hs:swapsWith e none pos.line X.env=pure false:=by rfl):PS X (.Expr e pos) (Dg te):=by
 intro pins s σ H D I h
 exact wpAny_Expr_any (eO (he pins s σ H _ I h) fun v s1⟨x,H1,I1,r1,q1⟩=>⟨σ,H1,I1,q1⟩) I.quiet hs
def U7(te:TE):TS:=fun D σ H=>te σ H D.rt
theorem aA(he:PE X e te):PS X (.Return (some e) pos) (U7 te):=by
 intro pins s σ H D I h
 exact wpAny_Return_some (eO (he pins s σ H _ I h) fun v s1⟨x,H1,I1,r1,q1⟩=>⟨x,σ,H1,I1,r1,q1⟩)
def LF(c:TT)(t u:TS):TS:=fun D σ H=>c σ H fun b H1=>if b=true then t D σ H1 else u D σ H1
theorem bg{c:Expr}{a b:List Stmt}{tc:TT}(hc:PT X c tc)(ha:HH X a t)(hb:HH X b u):PS X (.If c a b pos) (LF tc t u):=by
 intro pins s σ H D I h
 refine wpAny_If (eO (hc pins s σ H _ I h) fun d s1⟨H1,I1,q1⟩=> ?_)
 cases d with
 |true=>exact ha pins s1 σ H1 D I1 q1
 |false=>exact hb pins s1 σ H1 D I1 q1
end
abbrev TG:=V->St->Hp->(St->Hp->Prop)->Prop
abbrev N5:=List V->St->Hp->(St->Hp->Prop)->Prop
def PG(X:Cx)(target:Expr)(t:TG):Prop:=
 ∀(pins:List (Addr×Obj))(s:Shared)(σ:St)(H:Hp)(v:V)(u:Value)(Q:St->Hp->Prop),Inv X pins σ H s->RelV v u->t v σ H Q->
  wpAny (model X.prog X.w) X.A (assign target X.env u) (fun _ s'=>∃ff H',Inv X pins ff H' s'/\Q ff H') X.xe s
def T5(X:Cx)(ts:List Expr)(t:N5):Prop:=
 ∀(pins:List (Addr×Obj))(s:Shared)(σ:St)(H:Hp)(vs:List V)(us:List Value)(Q:St->Hp->Prop),Inv X pins σ H s->Vals vs us->t vs σ H Q->
  wpAny (model X.prog X.w) X.A (assignInOrder ((assignEach ts X.env).map (·.2)) us) (fun _ s'=>∃ff H',Inv X pins ff H' s'/\Q ff H') X.xe s
abbrev JC:=V->V->V->Hp->(Hp->Prop)->Prop
def N6(X:Cx)(t:JC):Prop:=
 ∀(pins:List (Addr×Obj))(s:Shared)(σ:St)(H:Hp)(o i v:V)(ov iv u:Value)(Q:Hp->Prop),Inv X pins σ H s->RelV o ov->RelV i iv->RelV v u->t o i v H Q->
  wpAny (model X.prog X.w) X.A (setItem ov iv u) (fun _ s'=>∃H',Inv X pins σ H' s'/\Q H') X.xe s
abbrev Qz:=V->V->Hp->VK->Prop
def Q8(X:Cx)(op:Operator)(t:Qz):Prop:=
 ∀(pins:List (Addr×Obj))(s:Shared)(σ:St)(H:Hp)(x y:V)(v u:Value)(Q:VK),Inv X pins σ H s->RelV x v->RelV y u->t x y H Q->
  wpAny (model X.prog X.w) X.A (inplaceOp op v u) (EP X pins σ Q) X.xe s
section
variable{X:Cx}{pos:Pos}
def kr(i:Nat):TG:=fun v σ H Q=>Q (σ.set i (some v)) H
theorem aX{i:Nat}{x:Str}(hN:X.N.Nodup)(hi:X.N[i]?=some x)(hx:Loc X.env.scope x)(hf:X.fn x=true\/X.env.scope.names.lookup x=some .local:=by first|exact .inl rfl|exact .inr rfl|assumption):PG X (.Name x pos) (kr i):=by
 intro pins s σ H v u Q I r h
 exact wpAny_assign_Name (yt I hN hi hx r (fun s' I'=>⟨_,H,I',h⟩) hf)
def LG:N5:=fun vs σ H Q=>vs=[]/\Q σ H
def yw(t:TG)(u:N5):N5:=fun vs σ H Q=>∃v r,vs=v::r/\t v σ H fun ff H'=>u r ff H' Q
theorem oM:T5 X [] LG:=by
 intro pins s σ H vs us Q I r h
 obtain⟨e,h⟩:=h
 subst e
 cases r
 exact assignInOrder_nil ⟨σ,H,I,h⟩
theorem eP{e:Expr}{es:List Expr}{t:TG}{u:N5}(h1:PG X e t)(h2:T5 X es u)
 (hs:(assignEach (e::es) X.env).map (·.2)=assign e X.env::(assignEach es X.env).map (·.2):=by rfl):T5 X (e::es) (yw t u):=by
 intro pins s σ H vs us Q I r h
 obtain⟨v,vr,e1,h⟩:=h
 subst e1
 cases r with
 |cons r rr=>
  rw[hs]
  refine assignInOrder_cons (eO (h1 pins s σ H _ _ _ I r h) fun _ s1⟨QA,H1,I1,q1⟩=> ?_)
  exact h2 pins s1 QA H1 _ _ Q I1 rr q1
def LH(K:PySem.W.Frag)(n:Nat)(t:N5):TG:=fun v σ H Q=>∃a xs,v= .ref a/\xq K H a xs/\xs.length=n/\t xs σ H Q
theorem sZ{es:List Expr}{k:Nat}{t:N5}{n:Nat}(hc:X.calm=true)(h:T5 X es t)
 (hn:(assignEach es X.env).length=n:=by rfl) (lA:(assignEach es X.env).findIdx? (·.1)=none:=by rfl):PG X (.Tuple es k pos) (LH X.K n t):=by
 intro pins s σ H v u Q I r hw
 obtain⟨a,xs,e1,hq,hl,hw⟩:=hw
 subst e1
 cases r
 obtain⟨bp,rv,ht,hz⟩:=I.tuple hq
 refine assign_Tuple_tuple (I.ok.hd hc) ht (by simp[hn,<-hl,rv.length]) lA fun h' hx=> ?_
 have I1:Inv X pins σ H {s with heap:=h'}:=I.kept (t':=s.toks) fun b o e=>hx b o (abg (abd e)) e
 exact h pins _ σ H xs _ Q I1 (by simpa using rv) hw
def U8(to ti:TE)(t:JC):TG:=fun v σ H Q=>to σ H fun o H1=>ti σ H1 fun i H2=>t o i v H2 fun H3=>Q σ H3
theorem qC{o i:Expr}{to ti:TE}{t:JC}(ho:PE X o to)(hi:PE X i ti)(hs:N6 X t)
 (ha:∀v,assign (.Subscript o i pos) X.env v=(do
  let ov <-holding [v] (eval o X.env)
  let iv <-holding [v,ov] (eval i X.env)
  standAt pos
  holding [v,ov,iv] (setItem ov iv v)
  release [v,ov,iv] []):=by intro _;rfl):PG X (.Subscript o i pos) (U8 to ti t):=by
 intro pins s σ H v u Q I r h
 rw[ha]
 refine wpAny_bind (wpAny_holding (eO (ho pins s σ H _ I h) fun ov s1⟨x,H1,I1,r1,q1⟩=> ?_))
 refine wpAny_bind (wpAny_holding (eO (hi pins s1 σ H1 _ I1 q1) fun iv s2⟨y,H2,I2,r2,q2⟩=> ?_))
 refine wpAny_bind (wpAny_standAt (wpAny_bind (wpAny_holding (eO (hs pins s2 σ H2 x y v ov iv u _ I2 r1 r2 r q2) fun _ s3⟨H3,I3,q3⟩=> ?_))))
 exact wpAny_release ⟨σ,H3,I3,q3⟩
def Dh(te:TE)(g:TG):TS:=fun D σ H=>te σ H fun x H1=>g x σ H1 D.nx
theorem qD{tg e:Expr}{te:TE}{g:TG}(he:PE X e te)(hg:PG X tg g)(hs:swapsWithSole [tg] e pos.line X.env=pure false:=by rfl)(hw:swappedStores [tg] e X.env=pure none:=by rfl)
 (h1:(assignEach [tg] X.env).map (·.2)=[assign tg X.env]:=by rfl):PS X (.Assign [tg] e pos) (Dh te g):=by
 intro pins s σ H D I h
 refine wpAny_Assign_stores (eO (he pins s σ H _ I h) fun v s1⟨x,H1,I1,r1,q1⟩=> ?_) hs hw
 rw[h1]
 exact eO (hg pins s1 σ H1 x v _ I1 r1 q1) fun _ s2 q=>q
theorem aC{i:Nat}{x:Str}{e:Expr}{te:TE}{pos':Pos}(hN:X.N.Nodup)(hi:X.N[i]?=some x)(hx:Loc X.env.scope x)(he:PE X e te)(hs:swapsWith e (some (.Name x pos')) pos.line X.env=pure false:=by rfl)(hf:X.fn x=true\/X.env.scope.names.lookup x=some .local:=by first|exact .inl rfl|exact .inr rfl|assumption):
 PS X (.Assign [.Name x pos'] e pos) (Dh te (kr i)):=by
 intro pins s σ H D I h
 refine wpAny_Assign_Name (eO (he pins s σ H _ I h) fun v s1⟨y,H1,I1,r1,q1⟩=> ?_) hs
 exact yt I1 hN hi hx r1 (fun s2 I2=>⟨_,H1,I2,q1⟩) hf
def Q9(i:Nat)(te:TE)(ti:Qz):TS:=fun D σ H=>∃x,σ[i]?=some (some x)/\te σ H fun y H1=>ti x y H1 fun z H2=>D.nx (σ.set i (some z)) H2
theorem qE{i:Nat}{x:Str}{e:Expr}{te:TE}{op:Operator}{ti:Qz}{pos':Pos}(hN:X.N.Nodup)(hi:X.N[i]?=some x)(hx:Loc X.env.scope x)(he:PE X e te)(ho:Q8 X op ti)(hf:X.fn x=true\/X.env.scope.names.lookup x=some .local:=by first|exact .inl rfl|exact .inr rfl|assumption):
 PS X (.AugAssign (.Name x pos') op e pos) (Q9 i te ti):=by
 intro pins s σ H D I h
 obtain⟨v,e1,h⟩:=h
 obtain⟨m,hn,hl⟩:=I.loc
 have YE:Qx X.env.scope x:=by rcases hx with k|k;exact .inl k;exact .inr (.inl k)
 obtain⟨u,r,l⟩:=hl i x v hi e1 YE
 refine wpAny_AugAssign_Name ?_
 have go:wpAny (model X.prog X.w) X.A (eval e X.env) (fun w Af=>wpAny (model X.prog X.w) X.A (inplaceOp op u w) (fun r JD=>wpAny (model X.prog X.w) X.A (storeName X.env x r) (fun _=>SP X pins D .next) X.xe JD) X.xe Af) X.xe s:=by
  refine eO (he pins s σ H _ I h) fun w s1⟨y,H1,I1,r1,q1⟩=> ?_
  refine eO (ho pins s1 σ H1 v y u w _ I1 r r1 q1) fun z s2⟨zv,H2,I2,r2,q2⟩=> ?_
  exact yt I2 hN hi hx r2 (fun s3 I3=>⟨_,H2,I3,q2⟩) hf
 rcases l with⟨hk,hm⟩|⟨hk,c,hc,Gy⟩
 . exact wpAny_loadName_local I.ok.kind hk hn hm go
 rcases hk with hk|hk
 . exact wpAny_loadName_cell I.ok.kind hk hc Gy go
 rcases hx with k|k
 . have:X.env.scope.names.lookup x=some .free:=hk
   rw[k]at this;cases this
 have:X.env.scope.names.lookup x=some .free:=hk
 rw[k]at this;cases this
def Ra(to ti te:TE)(LI:V->V->Hp->VK->Prop)(T6:Qz)(LJ:JC):TS:=fun D σ H=>to σ H fun o H1=>ti σ H1 fun i H2=>LI o i H2 fun x H3=>te σ H3 fun y H4=>T6 x y H4 fun z H5=>LJ o i z H5 fun H6=>D.nx σ H6
def Rb(X:Cx)(t:V->V->Hp->VK->Prop):Prop:=
 ∀(pins:List (Addr×Obj))(s:Shared)(σ:St)(H:Hp)(o i:V)(ov iv:Value)(Q:VK),Inv X pins σ H s->RelV o ov->RelV i iv->t o i H Q->
  wpAny (model X.prog X.w) X.A (getItem ov iv) (EP X pins σ Q) X.xe s
theorem GC{o i e:Expr}{to ti te:TE}{LI:V->V->Hp->VK->Prop}{T6:Qz}{LJ:JC}{op:Operator}{Di:Pos}(ho:PE X o to)(hi:PE X i ti)(hg:Rb X LI)(he:PE X e te)(hp:Q8 X op T6)(hs:N6 X LJ)
 (ha:∀ov iv new,augStore i ov iv new=(do holding [new,ov,iv] (setItem ov iv new);release [new,ov,iv] [];pure .next):=by intros;rfl):PS X (.AugAssign (.Subscript o i Di) op e pos) (Ra to ti te LI T6 LJ):=by
 intro pins s σ H D I h
 refine wpAny_AugAssign_SubscriptAny (eO (ho pins s σ H _ I h) fun ov s1⟨x1,H1,I1,r1,q1⟩=> ?_) ha
 refine eO (hi pins s1 σ H1 _ I1 q1) fun iv s2⟨x2,H2,I2,r2,q2⟩=> ?_
 refine eO (hg pins s2 σ H2 x1 x2 ov iv _ I2 r1 r2 q2) fun old s3⟨x3,H3,I3,r3,q3⟩=> ?_
 refine eO (he pins s3 σ H3 _ I3 q3) fun v s4⟨x4,H4,I4,r4,q4⟩=> ?_
 refine eO (hp pins s4 σ H4 x3 x4 old v _ I4 r3 r4 q4) fun new s5⟨x5,H5,I5,r5,q5⟩=> ?_
 exact eO (hs pins s5 σ H5 x1 x2 x5 ov iv new _ I5 r1 r2 r5 q5) fun _ s6⟨H6,I6,q6⟩=>⟨σ,H6,I6,q6⟩
def T7(f:Int->Int->Int):Qz:=fun x y H Q=>∃i j,x= .int i/\y= .int j/\Q (.int (f i j)) H
theorem E3:Q8 X .Add (T7 fun i j=>i+j):=by
 intro pins s σ H x y v u Q I r1 r2 h
 obtain⟨i,j,e1,e2,q⟩:=h
 subst e1;subst e2
 obtain⟨t,rfl⟩:=r1
 obtain⟨t',rfl⟩:=r2
 exact iadd_int ⟨.int _,H,I.tok _,⟨_,rfl⟩,q⟩
theorem N7:Q8 X .Sub (T7 fun i j=>i-j):=by
 intro pins s σ H x y v u Q I r1 r2 h
 obtain⟨i,j,e1,e2,q⟩:=h
 subst e1;subst e2
 obtain⟨t,rfl⟩:=r1
 obtain⟨t',rfl⟩:=r2
 exact isub_int ⟨.int _,H,I.tok _,⟨_,rfl⟩,q⟩
end
section
variable{X:Cx}{pos:Pos}
def N8(c:TT)(tb:TS):TS:=fun D σ H=>∃W:Nat->St->Hp->Prop,(∃m,W m σ H)/\∀m σ H,W m σ H->
 c σ H fun b H1=>if b=true then∃N:St->Hp->Prop,(∀ff H',N ff H'->∃m',m'<m/\W m' ff H')/\tb {D with nx:=N,ct:=N,bk:=D.nx} σ H1 else D.nx σ H1
theorem qF{c:Expr}{body:List Stmt}{tc:TT}{tb:TS}(hp:PassesOwn (model X.prog X.w) X.A X.env X.xe)(hc:PT X c tc)(hb:HH X body tb):PS X (.While c body [] pos) (N8 tc tb):=by
 intro pins s σ H D I h
 obtain⟨W,⟨m0,w0⟩,turn⟩:=h
 refine wpAny_While (codeAny_whileLoop (fun n s'=>∃ff H',Inv X pins ff H' s'/\W n ff H') ?_ m0 ⟨σ,H,I,w0⟩)
 rintro n s1 ⟨QA,H1,I1,w1⟩
 refine wpAny_passesOwn hp (eO (hc pins s1 QA H1 _ I1 (turn n QA H1 w1)) fun b s2⟨H2,I2,q2⟩=> ?_)
 cases b with
 |true=>
  obtain⟨N,hN,q2⟩:=q2
  rw[if_pos rfl]
  refine wpAny_passesOwn hp (eO (hb pins s2 QA H2 _ I2 q2) fun f s3 q3=> ?_)
  cases f with
  |next=>
   obtain⟨JE,H3,I3,n3⟩:=q3
   obtain⟨m',hm,w3⟩:=hN JE H3 n3
   exact⟨m',hm,JE,H3,I3,w3⟩
  |cont=>
   obtain⟨JE,H3,I3,n3⟩:=q3
   obtain⟨m',hm,w3⟩:=hN JE H3 n3
   exact⟨m',hm,JE,H3,I3,w3⟩
  |brk=>exact q3
  |ret v=>exact q3
 |false=>
  rw[if_neg abx]
  exact wpAny_execs_nil ⟨QA,H2,I2,q2⟩
end
structure It where
 go:Nat->Hp->Prop
 GD:Nat->Hp->V->Hp->Prop
 stop:Nat->Hp->Prop
def n6(X:Cx)(pins:List (Addr×Obj))(H:Hp)(b:Addr):Prop:=
 H b=none/\b≠X.env.locals/\b∉X.fs/\(b∈X.ex\/X.AR.heap.objs.size<=b)/\(∀x c,X.env.cells.lookup x=some c->c≠b)/\∀p∈X.pn++pins,p.1≠b
theorem Inv.Dj {X:Cx} {pins:List (Addr×Obj)} {σ:St} {H H':Hp} {s:Shared} {b:Addr} (I:Inv X pins σ H s) (hb:s.heap.objs.size<=b) (hn:H' b=none):n6 X pins H' b:=by
 refine⟨hn,Nat.ne_of_gt (abe I.lt hb),I.UW hb, .inr (abk I.sz hb),fun x c e z=> ?_,fun p hp z=> ?_⟩
 . obtain⟨v,q⟩:=I.cell x c e
   exact absurd (abe q.lt (by rw[z];exact hb)) (abf _)
 exact absurd (abe (abd (I.pin p hp).1) (by rw[z];exact hb)) (abf _)
structure Turn(P:Program)(w:World)(K:PySem.W.Frag)(tg:Expr)(J:It)(fp:List Addr)(it:Addr)(tn:Nat->Heap->Prop):Prop where
 mem:it∈fp
 obj:∀i h,tn i h->∀b∈fp,∃o,h.get? b=some o/\∀v,o.data≠ .cell v
 keep:∀i h h',tn i h->(∀b∈fp,∀o,h.get? b=some o->h'.get? b=some o)->tn i h'
 item:∀(X:Cx),X.prog=P->X.w=w->X.K=K->X.calm=true->∀(i:Nat)(pins:List (Addr×Obj))(s:Shared)(σ:St)(H:Hp)(E:Value->Shared->Prop),Inv X pins σ H s->(∀b∈fp,n6 X pins H b)->tn i s.heap->J.go i H->
  wpAny (model P w) X.A (pyNext (.ref it)) (fun r s1=>∃u,r=some u/\
   wpAny (model P w) X.A (letOwnedTupleGo tg (.ref it) u) (fun _ s2=>∃x H',Inv X pins σ H' s2/\RelV x u/\J.GD i H x H'/\tn (i+1) s2.heap/\∀b∈fp,H' b=none) E s1) E s
 done:∀(X:Cx),X.prog=P->X.w=w->X.K=K->X.calm=true->∀(i:Nat)(pins:List (Addr×Obj))(s:Shared)(σ:St)(H:Hp)(E:Value->Shared->Prop),Inv X pins σ H s->(∀b∈fp,n6 X pins H b)->tn i s.heap->J.stop i H->
  wpAny (model P w) X.A (pyNext (.ref it)) (fun r s1=>r=none/\Inv X pins σ H s1) E s
 self:∀(A:Around)(i:Nat)(s:Shared)(Q:Value->Shared->Prop)(E:Value->Shared->Prop),tn i s.heap->Q (.ref it) s->wpAny (model P w) A (pyIter (.ref it)) Q E s
abbrev TI:=St->Hp->(It->Hp->Prop)->Prop
def U9(X:Cx)(pins:List (Addr×Obj))(σ:St)(tg:Expr)(R:It->Hp->Prop)(Va:Value)(s2:Shared):Prop:=
 ∃(it:Addr)(fp:List Addr)(tn:Nat->Heap->Prop)(J:It)(H':Hp),Va= .ref it/\Inv X pins σ H' s2/\Turn X.prog X.w X.K tg J fp it tn/\tn 0 s2.heap/\(∀b∈fp,n6 X pins H' b)/\R J H'
def PI(X:Cx)(tg iter:Expr)(wi:TI):Prop:=
 ∀(pins:List (Addr×Obj))(s:Shared)(σ:St)(H:Hp)(R:It->Hp->Prop),Inv X pins σ H s->wi σ H R->
  wpAny (model X.prog X.w) X.A (eval iter X.env) (fun v s1=>wpAny (model X.prog X.w) X.A (pyIter v) (U9 X pins σ tg R) X.xe s1) X.xe s
theorem Dk{M:Model}{A:Around}{E:Value->Shared->Prop}{s:Shared}{tg:Expr}{it:Addr}{u:Value}{o:Obj}{n:String}{vs:Array Value}{Q:Unit->Shared->Prop}(ho:s.heap.get? it=some o)(hc:o.cls= .type n)(hd:o.data= .fields vs)
 (hn:["enumerate","zip","dict_itemiterator","dict_reverseitemiterator","odict_iterator","itertools.zip_longest","itertools.pairwise"].contains n=false) (hQ:Q () s):wpAny M A (letOwnedTupleGo tg (.ref it) u) Q E s:=by
 unfold letOwnedTupleGo
 cases tg<;>first
  |exact wpAny_pure hQ
  |(cases u<;>first
   |exact wpAny_pure hQ
   |(refine wpAny_bind (wpAny_load ho ?_)
     rw[hc,hd]
     show wpAny M A (if(["enumerate","zip","dict_itemiterator","dict_reverseitemiterator","odict_iterator","itertools.zip_longest","itertools.pairwise"].contains n&&vs[0]?==some (rawInt _))=true then _ else _) Q E s
     rw[if_neg (by intro h;rw[hn,aby]at h;cases h)]
     exact wpAny_pure hQ))
noncomputable def GF(K:PySem.W.Frag)(a:Addr):It:=
 ⟨fun i H=>∃xs x,aW K H a xs/\xs[i]?=some x,fun i H x H'=>H'=H/\∀xs,aW K H a xs->xs[i]?=some x,fun i H=>∃xs,aW K H a xs/\xs.length<=i⟩
noncomputable def Rc(K:PySem.W.Frag)(a:Addr):It:=
 ⟨fun i H=>∃xs x,xq K H a xs/\xs[i]?=some x,fun i H x H'=>H'=H/\∀xs,xq K H a xs->xs[i]?=some x,fun i H=>∃xs,xq K H a xs/\xs.length<=i⟩
noncomputable def Lu(lo:Int)(n:Nat):It:=⟨fun i _=>i<n,fun i H x H'=>H'=H/\x= .int (lo+i),fun i _=>n<=i⟩
theorem HJ{P:Program}{w:World}{K:PySem.W.Frag}{tg:Expr}(a it:Addr):Turn P w K tg (GF K a) [it] it (fun i h=>h.IsListIter it a i)where
 mem:=by simp
 obj:=fun i h st b hb=>by
  have e:b=it:=by simpa using hb
  subst e
  obtain⟨o,e,c,d⟩:=st
  exact⟨o,e,fun v z=>by rw[d]at z;cases z⟩
 keep:=fun i h h' st k=>st.at fun o e=>k it (by simp) o e
 item:=by
  intro X hP hw hK hc i pins s σ H E I hf st hg
  subst hP hw hK
  obtain⟨xs,x,hq,hx⟩:=hg
  obtain⟨bp,rv,p,hz⟩:=I.list hq
  obtain⟨u,hu,ru⟩:=rv.get hx
  obtain⟨f0,f1,f2,f3,f4,f5⟩:=hf it (by simp)
  refine wpAny_pyNext_list_item st p.isList (x:=u) (by simpa using hu) fun h' E4 sb=> ?_
  have I1:Inv X pins σ H {s with heap:=h'}:=I.turned (t':=s.toks) (fun b o hb e=>(sb.2 b hb).trans e) f0 f1 f3 f4 f5
  obtain⟨o,e,c,d⟩:=id E4
  exact⟨u,U,Dk (s:={s with heap:=h'}) e c d (by decide) ⟨x,H,I1,ru,⟨U,fun ys hy=>by rw[I.yu hy hq];exact hx⟩,E4,fun b hb=>(hf b hb).1⟩⟩
 done:=by
  intro X hP hw hK hc i pins s σ H E I hf st hg
  subst hP hw hK
  obtain⟨xs,hq,hx⟩:=hg
  obtain⟨bp,rv,p,hz⟩:=I.list hq
  obtain⟨f0,f1,f2,f3,f4,f5⟩:=hf it (by simp)
  have hl:=rv.length
  exact wpAny_pyNext_list_end (I.ok.hd hc) st p.isList (by simp;lia) fun h' eb=>⟨rfl,I.turned (t':=s.toks) (fun b o hb e=>eb b o hb e) f0 f1 f3 f4 f5⟩
 self:=fun _ _ _ _ _ st h=>wpAny_pyIter_listiter st h
theorem E5{P:Program}{w:World}{K:PySem.W.Frag}{tg:Expr}(a it:Addr):Turn P w K tg (Rc K a) [it] it (fun i h=>h.IsTupleIter it a i)where
 mem:=by simp
 obj:=fun i h st b hb=>by
  have e:b=it:=by simpa using hb
  subst e
  obtain⟨o,e,c,d⟩:=st
  exact⟨o,e,fun v z=>by rw[d]at z;cases z⟩
 keep:=fun i h h' st k=>st.at fun o e=>k it (by simp) o e
 item:=by
  intro X hP hw hK hc i pins s σ H E I hf st hg
  subst hP hw hK
  obtain⟨xs,x,hq,hx⟩:=hg
  obtain⟨bp,rv,p,hz⟩:=I.tuple hq
  obtain⟨u,hu,ru⟩:=rv.get hx
  obtain⟨f0,f1,f2,f3,f4,f5⟩:=hf it (by simp)
  refine wpAny_pyNext_tuple_item st (show s.heap.IsTuple a bp.toArray from p) (x:=u) (by simpa using hu) fun h' E4 sb=> ?_
  have I1:Inv X pins σ H {s with heap:=h'}:=I.turned (t':=s.toks) (fun b o hb e=>(sb.2 b hb).trans e) f0 f1 f3 f4 f5
  obtain⟨o,e,c,d⟩:=id E4
  exact⟨u,U,Dk (s:={s with heap:=h'}) e c d (by decide) ⟨x,H,I1,ru,⟨U,fun ys hy=>by rw[I.HI hy hq];exact hx⟩,E4,fun b hb=>(hf b hb).1⟩⟩
 done:=by
  intro X hP hw hK hc i pins s σ H E I hf st hg
  subst hP hw hK
  obtain⟨xs,hq,hx⟩:=hg
  obtain⟨bp,rv,p,hz⟩:=I.tuple hq
  obtain⟨f0,f1,f2,f3,f4,f5⟩:=hf it (by simp)
  have hl:=rv.length
  exact wpAny_pyNext_tuple_end (I.ok.hd hc) st (show s.heap.IsTuple a bp.toArray from p) (by simp;lia) fun h' eb=>⟨rfl,I.turned (t':=s.toks) (fun b o hb e=>eb b o hb e) f0 f1 f3 f4 f5⟩
 self:=fun _ _ _ _ _ st h=>wpAny_pyIter_tupleiter st h
theorem E6{P:Program}{w:World}{K:PySem.W.Frag}{tg:Expr}(it:Addr)(lo:Int)(n:Nat):Turn P w K tg (Lu lo n) [it] it (fun i h=>IsRangeIter h it (lo+(i:Nat)*1) ((n:Int)-(i:Nat)) 1)where
 mem:=by simp
 obj:=fun i h st b hb=>by
  have e:b=it:=by simpa using hb
  subst e
  exact⟨_,st,fun v z=>by
   have z':Data.fields _=Data.cell v:=z
   cases z'⟩
 keep:=fun i h h' st k=>k it (by simp) _ st
 item:=by
  intro X hP hw hK hc i pins s σ H E I hf st hg
  subst hP hw hK
  obtain⟨f0,f1,f2,f3,f4,f5⟩:=hf it (by simp)
  have W:=Walks.range (prog:=X.prog) (w:=X.w) (I.ok.hd hc) it lo 1 n
  refine W.item i s _ _ hg st fun v h' tk hv E4 kk=> ?_
  obtain⟨t,rfl⟩:=hv
  have I1:Inv X pins σ H {s with heap:=h',toks:=tk}:=I.turned (fun b o hb e=>kk b o (by simpa using hb) e) f0 f1 f3 f4 f5
  refine⟨_,U,Dk (s:={s with heap:=h',toks:=tk}) (n:="range_iterator") E4 rfl rfl (by decide) ⟨.int (lo+i),H,I1,⟨t, ?_⟩,⟨U,U⟩,E4,fun b hb=>(hf b hb).1⟩⟩
  rw[Int.mul_one]
 done:=by
  intro X hP hw hK hc i pins s σ H E I hf st hg
  subst hP hw hK
  obtain⟨f0,f1,f2,f3,f4,f5⟩:=hf it (by simp)
  exact wpAny_pyNext_range_end (I.ok.hd hc) st (by have:n<=i:=hg;lia) fun h' eb=>⟨rfl,I.turned (t':=s.toks) (fun b o hb e=>eb b o hb e) f0 f1 f3 f4 f5⟩
 self:=fun _ _ _ _ _ st h=>wpAny_pyIter_rangeiter st h
end L2
namespace L2
open PySem PySem.Spec PyProof.Rows
section
variable{X:Cx}{tg:Expr}
def Rf(K:PySem.W.Frag)(tl:TE):TI:=fun σ H R=>tl σ H fun x H1=>∃a,x= .ref a/\(∃xs,aW K H1 a xs)/\R (GF K a) H1
def Vb(K:PySem.W.Frag)(tl:TE):TI:=fun σ H R=>tl σ H fun x H1=>∃a,x= .ref a/\(∃xs,xq K H1 a xs)/\R (Rc K a) H1
theorem cG{l:Expr}{tl:TE}(hl:PE X l tl):PI X tg l (Rf X.K tl):=by
 intro pins s σ H R I h
 refine eO (hl pins s σ H _ I h) fun v s1⟨x,H1,I1,r1,q1⟩=> ?_
 obtain⟨a,e,⟨xs,hq⟩,q⟩:=q1
 subst e
 cases r1
 obtain⟨bp,rv,p,hz⟩:=I1.list hq
 refine wpAny_pyIter_list p.isList ?_
 refine⟨s1.heap.objs.size,[s1.heap.objs.size],_,_,H1,U,I1.kept (t':=s1.toks) fun b o e=>abz _ e,HJ a _,⟨_,abA _ rfl,U,U⟩,fun b hb=> ?_,q⟩
 have e:b=s1.heap.objs.size:=by simpa using hb
 subst e
 exact I1.Dj (abB _) (I1.dD.fresh (abB _))
theorem N9{l:Expr}{tl:TE}(hl:PE X l tl):PI X tg l (Vb X.K tl):=by
 intro pins s σ H R I h
 refine eO (hl pins s σ H _ I h) fun v s1⟨x,H1,I1,r1,q1⟩=> ?_
 obtain⟨a,e,⟨xs,hq⟩,q⟩:=q1
 subst e
 cases r1
 obtain⟨bp,rv,p,hz⟩:=I1.tuple hq
 refine wpAny_pyIter_tuple (show s1.heap.IsTuple a bp.toArray from p) ?_
 refine⟨s1.heap.objs.size,[s1.heap.objs.size],_,_,H1,U,I1.kept (t':=s1.toks) fun b o e=>abz _ e,E5 a _,⟨_,abA _ rfl,U,U⟩,fun b hb=> ?_,q⟩
 have e:b=s1.heap.objs.size:=by simpa using hb
 subst e
 exact I1.Dj (abB _) (I1.dD.fresh (abB _))
theorem Dl{pins:List (Addr×Obj)}{σ:St}{H:Hp}{s:Shared}{R:It->Hp->Prop}{E:Value->Shared->Prop}{lo hi:Int}{t u v:Tok}{tk:Nat}(I:Inv X pins σ H s)(h1: -(2^62)<=lo)(h2:lo<2^62)(h3: -(2^62)<=hi)(h4:hi<2^62)
 (q:R (Lu lo (hi-lo).toNat) H):wpAny (model X.prog X.w) X.A (pyIter (.ref s.heap.objs.size)) (U9 X pins σ tg R) E {s with heap:=s.heap.push {cls:= .type "range",data:= .fields #[.int lo t, .int hi u, .int 1 v]},toks:=tk}:=by
 refine wpAny_pyIter_range (IsRange.new ..) (small_one h1 h2 h3 h4) ?_
 have I1:Inv X pins σ H {s with heap:=s.heap.push {cls:= .type "range",data:= .fields #[.int lo t, .int hi u, .int 1 v]},toks:=tk}:=I.kept fun b o e=>abz _ e
 refine⟨(s.heap.push {cls:= .type "range",data:= .fields #[.int lo t, .int hi u, .int 1 v]}).objs.size,[(s.heap.push {cls:= .type "range",data:= .fields #[.int lo t, .int hi u, .int 1 v]}).objs.size],_,_,H,U,
  I1.kept (t':=tk) fun b o e=>abz _ e,E6 _ lo (hi-lo).toNat, ?_,fun b hb=> ?_,q⟩
 . have e1:lo+((0:Nat):Int)*1=lo:=by simp
   have e2:(((hi-lo).toNat:Nat):Int)-((0:Nat):Int)=Builtin.Range.rangeSize lo hi 1:=by rw[rangeSize_one];split<;>lia
   show IsRangeIter _ _ (lo+((0:Nat):Int)*1) ((((hi-lo).toNat:Nat):Int)-((0:Nat):Int)) 1
   rw[e1,e2]
   exact abA _ rfl
 have e:b=(s.heap.push {cls:= .type "range",data:= .fields #[.int lo t, .int hi u, .int 1 v]}).objs.size:=by simpa using hb
 subst e
 exact I1.Dj (abB _) (I1.dD.fresh (abB _))
def Rg(ta:TA):TI:=fun σ H R=>ta σ H fun vs H1=>∃j:Int,vs=[.int j]/\ -(2^62)<=j/\j<2^62/\R (Lu 0 j.toNat) H1
def Rh(ta:TA):TI:=fun σ H R=>ta σ H fun vs H1=>∃i j:Int,vs=[.int i, .int j]/\(-(2^62)<=i/\i<2^62/\ -(2^62)<=j/\j<2^62)/\R (Lu i (j-i).toNat) H1
theorem AV{a:Expr}{ta:TA}{p pos:Pos}(hg:Gl X "range")(hm:X.mg "range"=none)(ha:PA X [a] ta)(hs:starEach [a] X.env=[(false,eval a X.env)]:=by rfl):PI X tg (.Call (.Name "range" p) [a] [] pos) (Rg ta):=by
 intro pins s σ H R I h
 refine Call_ (qz I hg hm boot_range (abC (eO (ha pos pins s σ H _ I h) fun us s1⟨vs,H1,I1,r1,q1⟩=> ?_) hs rfl))
 obtain⟨j,e,q1,q2,q⟩:=q1
 subst e
 cases r1 with
 |cons r rr=>
  cases rr
  obtain⟨t,rfl⟩:=r
  exact call_range_1 (Dl I1 (by lia) (by lia) q1 q2 (by simpa using q))
theorem r8{a b:Expr}{ta:TA}{p pos:Pos}(hg:Gl X "range")(hm:X.mg "range"=none)(ha:PA X [a,b] ta)(hs:starEach [a,b] X.env=[(false,eval a X.env),(false,eval b X.env)]:=by rfl)(Oa:starEach [b] X.env=[(false,eval b X.env)]:=by rfl):
 PI X tg (.Call (.Name "range" p) [a,b] [] pos) (Rh ta):=by
 intro pins s σ H R I h
 refine Call_ (qz I hg hm boot_range (abC (eO (ha pos pins s σ H _ I h) fun us s1⟨vs,H1,I1,r1,q1⟩=> ?_) (by rw[hs,Oa]) (by rw[Oa];rfl)))
 obtain⟨i,j,e,⟨q1,q2,q3,q4⟩,q⟩:=q1
 subst e
 cases r1 with
 |cons r rr=>
  cases rr with
  |cons r' rr=>
   cases rr
   obtain⟨t,rfl⟩:=r
   obtain⟨t',rfl⟩:=r'
   exact call_range_2 (Dl I1 q1 q2 q3 q4 q)
def Vc(wi:TI)(g:TG)(tb:TS):TS:=fun D σ H=>wi σ H fun J H1=>∃W:Nat->Nat->St->Hp->Prop,(∃m,W 0 m σ H1)/\∀i m σ H,W i m σ H->
 (J.stop i H/\D.nx σ H)\/(J.go i H/\∃N:St->Hp->Prop,(∀ff H',N ff H'->∃m',m'<m/\W (i+1) m' ff H')/\∀x H',J.GD i H x H'->g x σ H' fun i5 H2=>tb {D with nx:=N,ct:=N,bk:=D.nx} i5 H2)
noncomputable def yx(fp:List Addr)(h:Heap):List (Addr×Obj):=fp.filterMap fun b=>(h.get? b).map fun o=>(b,o)
theorem tj{fp:List Addr}{h:Heap}{b:Addr}{o:Obj}(hb:b∈fp)(e:h.get? b=some o):(b,o)∈yx fp h:=abj.mpr ⟨b,hb,by rw[e];rfl⟩
theorem HK{fp:List Addr}{h:Heap}{p:Addr×Obj}(hp:p∈yx fp h):p.1∈fp/\h.get? p.1=some p.2:=by
 obtain⟨b,hb,e⟩:=abj.mp hp
 cases q:h.get? b with
 |none=>rw[q]at e;cases e
 |some o=>
  rw[q]at e
  have e':(b,o)=p:=Option.some.inj e
  subst e'
  exact⟨hb,q⟩
theorem Inv.pinned {pins:List (Addr×Obj)} {σ:St} {H:Hp} {s:Shared} {fp:List Addr} (I:Inv X pins σ H s) (hf:∀b∈fp,n6 X pins H b) (ho:∀b∈fp,∃o,s.heap.get? b=some o/\∀v,o.data≠ .cell v):Inv X (pins++yx fp s.heap) σ H s:=
 I.xV fun p hp=>(abq.mp hp).elim (fun z=>I.pin p (abD _ z)) fun z=>by
  obtain⟨hb,e⟩:=HK z
  obtain⟨f0,f1,f2,_⟩:=hf p.1 hb
  obtain⟨o,e',d⟩:=ho p.1 hb
  rw[e]at e';cases e'
  exact⟨e,f0,f1,f2,d⟩
theorem Inv.n8 {pins pl:List (Addr×Obj)} {σ:St} {H:Hp} {s:Shared} (I:Inv X (pins++pl) σ H s):Inv X pins σ H s:=I.xV fun p hp=>I.pin p (abD _ (abr _ hp))
theorem dI{iter:Expr}{body:List Stmt}{wi:TI}{g:TG}{tb:TS}{pos:Pos}(hp:PassesOwn (model X.prog X.w) X.A X.env X.xe)(hc:X.calm=true)(hi:PI X tg iter wi)(hg:PG X tg g)(hb:HH X body tb)
 (hs:∀x,foldedSetIterable iter X.env x=pure x:=by intro _;rfl):PS X (.For tg iter body [] pos) (Vc wi g tb):=by
 intro pins s σ H D I h
 refine wpAny_For (eO (hi pins s σ H _ I h) fun v s1 h1=>eO h1 fun Va s2 h2=> ?_) hs
 obtain⟨it,fp,tn,J,H2,e,I2,T,T8,f2,W,⟨m0,w0⟩,turn⟩:=h2
 subst e
 have E7:∀{H':Hp},(∀b∈fp,H' b=none)->∀b∈fp,n6 X pins H' b:=fun hn b hb=>⟨hn b hb,(f2 b hb).2⟩
 refine codeAny_forLoop_any (fun n s'=>∃i ff H',Inv X pins ff H' s'/\tn i s'.heap/\(∀b∈fp,H' b=none)/\W i n ff H') ?_ m0 ⟨0,σ,H2,I2,T8,fun b hb=>(f2 b hb).1,w0⟩
 rintro n s3 ⟨i,JE,H3,I3,T9,XB,w3⟩
 rcases turn i n JE H3 w3 with⟨stop,qn⟩|⟨go,N,hN,step⟩
 . refine wpAny_passesOwn hp (eO (T.done X rfl rfl rfl hc i pins s3 JE H3 X.xe I3 (E7 XB) T9 stop) fun r s4⟨hr,I4⟩=> ?_)
   subst hr
   exact wpAny_execs_nil ⟨JE,H3,I4,qn⟩
 refine wpAny_passesOwn hp (eO (T.item X rfl rfl rfl hc i pins s3 JE H3 X.xe I3 (E7 XB) T9 go) fun r s4⟨u,hr,h4⟩=> ?_)
 subst hr
 refine wpAny_passesOwn hp (eO h4 fun _ s5⟨x,H5,I5,r5,y5,QB,YF⟩=> ?_)
 have YG:=I5.pinned (E7 YF) (T.obj _ _ QB)
 refine wpAny_passesOwn hp (eO (hg _ s5 JE H5 x u _ YG r5 (step x H5 y5)) fun _ s6⟨YH,H6,I6,q6⟩=> ?_)
 refine wpAny_passesOwn hp (eO (hb _ s6 YH H6 _ I6 q6) fun f s7 q7=> ?_)
 have again:∀{JF:St}{H7:Hp},Inv X (pins++yx fp s5.heap) JF H7 s7->N JF H7->∃m,m<n/\∃i ff H',Inv X pins ff H' s7/\tn i s7.heap/\(∀b∈fp,H' b=none)/\W i m ff H':=fun{JF H7}I7 n7=>by
  obtain⟨m',hm,w7⟩:=hN JF H7 n7
  refine⟨m',hm,i+1,JF,H7,I7.n8,T.keep _ _ _ QB fun b hb o e=>(I7.pin (b,o) (abD _ (abD _ (tj hb e)))).1,fun b hb=> ?_,w7⟩
  obtain⟨o,e,d⟩:=T.obj _ _ QB b hb
  exact(I7.pin (b,o) (abD _ (abD _ (tj hb e)))).2.1
 cases f with
 |next=>obtain⟨JF,H7,I7,n7⟩:=q7;exact again I7 n7
 |cont=>obtain⟨JF,H7,I7,n7⟩:=q7;exact again I7 n7
 |brk=>obtain⟨JF,H7,I7,q7⟩:=q7;exact⟨JF,H7,I7.n8,q7⟩
 |ret v=>obtain⟨x7,JF,H7,I7,r7,q7⟩:=q7;exact⟨x7,JF,H7,I7.n8,r7,q7⟩
end
theorem eQ{K:PySem.W.Frag}{a:Addr}{xs:List V}{g:TG}{tb:TS}{D:Ends}{σ:St}{H:Hp}(Pv:Nat->St->Hp->Prop)(h0:Pv 0 σ H)(hl:∀i σ H,i<=xs.length->Pv i σ H->aW K H a xs)
 (hs:∀i x σ H,xs[i]?=some x->Pv i σ H->g x σ H fun i5 H2=>tb {D with nx:=Pv (i+1),ct:=Pv (i+1),bk:=D.nx} i5 H2) (hd:∀σ H,Pv xs.length σ H->D.nx σ H):
 ∃W:Nat->Nat->St->Hp->Prop,(∃m,W 0 m σ H)/\∀i m σ H,W i m σ H->
  ((GF K a).stop i H/\D.nx σ H)\/((GF K a).go i H/\∃N:St->Hp->Prop,(∀ff H',N ff H'->∃m',m'<m/\W (i+1) m' ff H')/\∀x H',(GF K a).GD i H x H'->g x σ H' fun i5 H2=>tb {D with nx:=N,ct:=N,bk:=D.nx} i5 H2):=by
 refine⟨fun i m σ H=>m=xs.length-i/\i<=xs.length/\Pv i σ H,⟨xs.length,by simp,abE _,h0⟩, ?_⟩
 rintro i m σ H ⟨rfl,hi,p⟩
 have q:=hl i σ H hi p
 by_cases di:i<xs.length
 . refine .inr ⟨⟨xs,xs[i],q,by simp[di]⟩,Pv (i+1),fun ff H' p'=>⟨xs.length-(i+1),by lia,rfl,di,p'⟩,fun x H' y=> ?_⟩
   obtain⟨e,y⟩:=y
   subst e
   exact hs i x σ _ (y xs q) p
 have e:i=xs.length:=by lia
 subst e
 exact .inl ⟨⟨xs,q,abB _⟩,hd σ H p⟩
theorem LK{K:PySem.W.Frag}{a:Addr}{xs:List V}{g:TG}{tb:TS}{D:Ends}{σ:St}{H:Hp}(Pv:Nat->St->Hp->Prop)(h0:Pv 0 σ H)(hl:∀i σ H,i<=xs.length->Pv i σ H->xq K H a xs)
 (hs:∀i x σ H,xs[i]?=some x->Pv i σ H->g x σ H fun i5 H2=>tb {D with nx:=Pv (i+1),ct:=Pv (i+1),bk:=D.nx} i5 H2) (hd:∀σ H,Pv xs.length σ H->D.nx σ H):
 ∃W:Nat->Nat->St->Hp->Prop,(∃m,W 0 m σ H)/\∀i m σ H,W i m σ H->
  ((Rc K a).stop i H/\D.nx σ H)\/((Rc K a).go i H/\∃N:St->Hp->Prop,(∀ff H',N ff H'->∃m',m'<m/\W (i+1) m' ff H')/\∀x H',(Rc K a).GD i H x H'->g x σ H' fun i5 H2=>tb {D with nx:=N,ct:=N,bk:=D.nx} i5 H2):=by
 refine⟨fun i m σ H=>m=xs.length-i/\i<=xs.length/\Pv i σ H,⟨xs.length,by simp,abE _,h0⟩, ?_⟩
 rintro i m σ H ⟨rfl,hi,p⟩
 have q:=hl i σ H hi p
 by_cases di:i<xs.length
 . refine .inr ⟨⟨xs,xs[i],q,by simp[di]⟩,Pv (i+1),fun ff H' p'=>⟨xs.length-(i+1),by lia,rfl,di,p'⟩,fun x H' y=> ?_⟩
   obtain⟨e,y⟩:=y
   subst e
   exact hs i x σ _ (y xs q) p
 have e:i=xs.length:=by lia
 subst e
 exact .inl ⟨⟨xs,q,abB _⟩,hd σ H p⟩
theorem vy{lo:Int}{n:Nat}{g:TG}{tb:TS}{D:Ends}{σ:St}{H:Hp}(Pv:Nat->St->Hp->Prop)(h0:Pv 0 σ H)
 (hs:∀i σ H,i<n->Pv i σ H->g (.int (lo+i)) σ H fun i5 H2=>tb {D with nx:=Pv (i+1),ct:=Pv (i+1),bk:=D.nx} i5 H2) (hd:∀σ H,Pv n σ H->D.nx σ H):
 ∃W:Nat->Nat->St->Hp->Prop,(∃m,W 0 m σ H)/\∀i m σ H,W i m σ H->
  ((Lu lo n).stop i H/\D.nx σ H)\/((Lu lo n).go i H/\∃N:St->Hp->Prop,(∀ff H',N ff H'->∃m',m'<m/\W (i+1) m' ff H')/\∀x H',(Lu lo n).GD i H x H'->g x σ H' fun i5 H2=>tb {D with nx:=N,ct:=N,bk:=D.nx} i5 H2):=by
 refine⟨fun i m σ H=>m=n-i/\i<=n/\Pv i σ H,⟨n,by simp,abE _,h0⟩, ?_⟩
 rintro i m σ H ⟨rfl,hi,p⟩
 by_cases di:i<n
 . refine .inr ⟨di,Pv (i+1),fun ff H' p'=>⟨n-(i+1),by lia,rfl,di,p'⟩,fun x H' y=> ?_⟩
   obtain⟨e,y⟩:=y
   subst e y
   exact hs i σ _ di p
 have e:i=n:=by lia
 subst e
 exact .inl ⟨abB _,hd σ H p⟩
end L2
namespace L2
open PySem PySem.Spec PyProof.Rows
abbrev R2:=V->V->Hp->VK->Prop
def xW(X:Cx)(f:Value->Value->Sem Value)(r:R2):Prop:=
 ∀(pins:List (Addr×Obj))(s:Shared)(σ:St)(H:Hp)(x y:V)(v u:Value)(Q:VK),Inv X pins σ H s->RelV x v->RelV y u->r x y H Q->
  wpAny (model X.prog X.w) X.A (f v u) (EP X pins σ Q) X.xe s
def Ua(X:Cx)(f:Value->Sem Value)(r:V->Hp->VK->Prop):Prop:=
 ∀(pins:List (Addr×Obj))(s:Shared)(σ:St)(H:Hp)(x:V)(v:Value)(Q:VK),Inv X pins σ H s->RelV x v->r x H Q->
  wpAny (model X.prog X.w) X.A (f v) (EP X pins σ Q) X.xe s
def wx(X:Cx)(f:Value)(r:List V->Hp->VK->Prop):Prop:=
 ∀(pins:List (Addr×Obj))(s:Shared)(σ:St)(H:Hp)(xs:List V)(us:List Value)(Q:VK),Inv X pins σ H s->Vals xs us->r xs H Q->
  wpAny (model X.prog X.w) X.A (call f us) (EP X pins σ Q) X.xe s
def xr(r:R2)(ta tb:TE):TE:=fun σ H Q=>ta σ H fun x H1=>tb σ H1 fun y H2=>r x y H2 Q
def YI(r:V->Hp->VK->Prop)(ta:TE):TE:=fun σ H Q=>ta σ H fun x H1=>r x H1 Q
def rI(C:Int->Int->Prop)(g:Int->Int->V):R2:=fun x y H Q=>∃i j,x= .int i/\y= .int j/\C i j/\Q (g i j) H
def E8(g:Int->Int->V):R2:=fun x y H Q=>∃i j,x= .int i/\y= .int j/\Q (g i j) H
def rU(g:Int->V):V->Hp->VK->Prop:=fun x H Q=>∃i,x= .int i/\Q (g i) H
section
variable{X:Cx}{a b c:Expr}{ta tb tc:TE}{pos:Pos}
theorem Ob(ha:PE X a ta)(hb:PE X b tb){pins:List (Addr×Obj)}{s:Shared}{σ:St}{H:Hp}{R:V->V->Hp->Prop}(I:Inv X pins σ H s)
 (h:ta σ H fun x H1=>tb σ H1 fun y H2=>R x y H2) {Q:Value->Shared->Prop} {f:Value->Value->Sem Value}
 (hf:∀v u s2 x y H2,Inv X pins σ H2 s2->RelV x v->RelV y u->R x y H2->wpAny (model X.prog X.w) X.A (f v u) Q X.xe s2):
 wpAny (model X.prog X.w) X.A (eval a X.env) (fun v bZ=>wpAny (model X.prog X.w) X.A (eval b X.env) (fun u Af=>wpAny (model X.prog X.w) X.A (f v u) Q X.xe Af) X.xe bZ) X.xe s:=by
 refine eO (ha pins s σ H _ I h) fun v s1⟨x,H1,I1,r1,q1⟩=> ?_
 refine eO (hb pins s1 σ H1 _ I1 q1) fun u s2⟨y,H2,I2,r2,q2⟩=> ?_
 exact hf v u s2 x y H2 I2 r1 r2 q2
theorem bA{op:Operator}{r:R2}(ho:xW X (binaryOp op) r)(ha:PE X a ta)(hb:PE X b tb):PE X (.BinOp a op b pos) (xr r ta tb):=by
 intro pins s σ H Q I h
 exact wpAny_BinOp (Ob ha hb I h fun v u s2 x y H2 I2 rx ry q=>ho pins s2 σ H2 x y v u Q I2 rx ry q)
theorem cJ{op:UnaryOp}{r:V->Hp->VK->Prop}(ho:Ua X (unaryOp op) r)(ha:PE X a ta):PE X (.UnaryOp op a pos) (YI r ta):=by
 intro pins s σ H Q I h
 exact UnaryOp_ (eO (ha pins s σ H _ I h) fun v s1⟨x,H1,I1,r1,q1⟩=>ho pins s1 σ H1 x v Q I1 r1 q1)
theorem Ub{f:Value->Value->Sem Value}{C:Int->Int->Prop}{g:Int->Int->Int}
 (rule:∀(i j:Int)(t u:Tok)(s:Shared)(Q:Value->Shared->Prop)(E:Value->Shared->Prop),C i j->Q (.int (g i j) s.toks) {s with toks:=s.toks+1}->wpAny (model X.prog X.w) X.A (f (.int i t) (.int j u)) Q E s):
 xW X f (rI C fun i j=> .int (g i j)):=by
 intro pins s σ H x y v u Q I rx ry h
 obtain⟨i,j,rfl,rfl,hc,q⟩:=h
 obtain⟨t,rfl⟩:=rx
 obtain⟨t',rfl⟩:=ry
 exact rule i j t t' s _ _ hc ⟨.int (g i j),H,I.tok _,⟨_,rfl⟩,q⟩
theorem LL{f:Value->Value->Sem Value}{g:Int->Int->Int}
 (rule:∀(i j:Int)(t u:Tok)(s:Shared)(Q:Value->Shared->Prop)(E:Value->Shared->Prop),Q (.int (g i j) s.toks) {s with toks:=s.toks+1}->wpAny (model X.prog X.w) X.A (f (.int i t) (.int j u)) Q E s):
 xW X f (E8 fun i j=> .int (g i j)):=by
 intro pins s σ H x y v u Q I rx ry h
 obtain⟨i,j,rfl,rfl,q⟩:=h
 obtain⟨t,rfl⟩:=rx
 obtain⟨t',rfl⟩:=ry
 exact rule i j t t' s _ _ ⟨.int (g i j),H,I.tok _,⟨_,rfl⟩,q⟩
theorem LM{f:Value->Value->Sem Value}{g:Int->Int->Bool}
 (rule:∀(i j:Int)(t u:Tok)(s:Shared)(Q:Value->Shared->Prop)(E:Value->Shared->Prop),Q (.bool (g i j)) s->wpAny (model X.prog X.w) X.A (f (.int i t) (.int j u)) Q E s):
 xW X f (E8 fun i j=> .bl (g i j)):=by
 intro pins s σ H x y v u Q I rx ry h
 obtain⟨i,j,rfl,rfl,q⟩:=h
 obtain⟨t,rfl⟩:=rx
 obtain⟨t',rfl⟩:=ry
 exact rule i j t t' s _ _ ⟨.bl (g i j),H,I,rfl,q⟩
def Vd(i j:Int):Prop:=0<=j/\j<=1000000/\i.natAbs<2^64
def Oc(i j:Int):Prop:=(-(2^64)<i/\i<2^64)\/(-(2^64)<j/\j<2^64)
theorem Oc.ok {i j:Int} (h:Oc i j):IntMulOk i j:=by
 rcases h with⟨h1,h2⟩|⟨h1,h2⟩
 . exact .of_left (intBits_le_64 h1 h2)
 exact .of_right (intBits_le_64 h1 h2)
theorem E9(k:Nat):(0:Int)<=2^k:=by
 rw[two_pow_cast]
 exact Int.natCast_nonneg _
theorem ft:xW X (binaryOp .Add) (E8 fun i j=> .int (i+j)):=LL fun _ _ _ _ _ _ _ q=>add_int q
theorem qG:xW X (binaryOp .Sub) (E8 fun i j=> .int (i-j)):=LL fun _ _ _ _ _ _ _ q=>sub_int q
theorem JG:xW X (binaryOp .Mult) (rI Oc fun i j=> .int (i*j)):=Ub fun _ _ _ _ _ _ _ hc q=>mul_int q hc.ok
theorem JH:xW X (binaryOp .Mod) (rI (fun _ j=>0<j) fun i j=> .int (i%j)):=Ub fun i j _ _ _ _ _ hc q=>by
 have h1:(0:Int)<j:=hc
 exact mod_int' (by lia) (by rw[Int.fmod_eq_emod_of_nonneg i (by lia)];exact q)
theorem qH:xW X (binaryOp .LShift) (rI Vd fun i j=> .int (i*2^j.toNat)):=Ub fun _ _ _ _ _ _ _ hc q=>lshift_int_small hc.1 hc.2.1 hc.2.2 q
theorem Fb:xW X (binaryOp .RShift) (rI (fun _ j=>0<=j) fun i j=> .int (i/2^j.toNat)):=Ub fun i j _ _ _ _ _ hc q=>
 rshift_int hc (by rw[Int.fdiv_eq_ediv_of_nonneg i (E9 _)];exact q)
theorem vz:xW X (binaryOp .BitAnd) (E8 fun i j=> .int (Builtin.bitAnd i j)):=LL fun _ _ _ _ _ _ _ q=>and_int q
theorem Od:xW X (binaryOp .BitXor) (E8 fun i j=> .int (Builtin.bitXor i j)):=LL fun _ _ _ _ _ _ _ q=>xor_int q
theorem XC{f:Value->Sem Value}{g:Int->Int}
 (rule:∀(i:Int)(t:Tok)(s:Shared)(Q:Value->Shared->Prop)(E:Value->Shared->Prop),Q (.int (g i) s.toks) {s with toks:=s.toks+1}->wpAny (model X.prog X.w) X.A (f (.int i t)) Q E s):
 Ua X f (rU fun i=> .int (g i)):=by
 intro pins s σ H x v Q I rx h
 obtain⟨i,rfl,q⟩:=h
 obtain⟨t,rfl⟩:=rx
 exact rule i t s _ _ ⟨.int (g i),H,I.tok _,⟨_,rfl⟩,q⟩
theorem bS:Ua X (unaryOp .USub) (rU fun i=> .int (-i)):=XC fun _ _ _ _ _ q=>neg_int q
theorem Oe:Ua X (unaryOp .Invert) (rU fun i=> .int (Builtin.bitNot i)):=XC fun _ _ _ _ _ q=>invert_int q
end
noncomputable def Ri:V->V->Bool
 | .dR, .dR=>true| .dR, .int _=>true| .int _, .dR=>true| .dR, .bl _=>true| .bl _, .dR=>true| .dR, .str _=>true| .str _, .dR=>true
 | .int _, .int _=>true| .bl _, .bl _=>true| .str _, .str _=>true| .EW _, .EW _=>true
 | .int _, .str _=>true| .str _, .int _=>true| .bl _, .str _=>true| .str _, .bl _=>true
 |_,_=>false
def XD:R2:=fun x y H Q=>Ri x y=true/\Q (.bl (decide (x=y))) H
def XE:R2:=fun x y H Q=>Ri x y=true/\Q (.bl (!decide (x=y))) H
theorem GG{i j:Int}:decide (V.int i=V.int j)=(i==j):=by
 rw[abF]
 simp
theorem JI{i j:Bool}:decide (V.bl i=V.bl j)=(i==j):=by
 rw[abF]
 simp
theorem GH{i j:Str}:decide (V.str i=V.str j)=(i==j):=by
 rw[abF]
 simp
theorem GI{i j:Array UInt8}:decide (V.EW i=V.EW j)=(i.toList==j.toList):=by
 rw[abF]
 cases i
 cases j
 simp
section
variable{X:Cx}{a b c:Expr}{ta tb tc:TE}{pos:Pos}
theorem cq{pins:List (Addr×Obj)}{σ:St}{H:Hp}{s:Shared}{Q:VK}{k k':Bool}(I:Inv X pins σ H s)(q:Q (.bl k) H)(e:k=k'):EP X pins σ Q (.bool k') s:=by
 subst e
 exact⟨.bl k,H,I,U,q⟩
theorem ku:xW X (compareOp .Eq) XD:=by
 intro pins s σ H x y v u Q I rx ry h
 obtain⟨hs,q⟩:=h
 cases x with
 |dR=>
  cases rx
  cases y with
  |dR=>cases ry;exact PySem.EqNone.eq_none_none (cq I q (by simp))
  |bl j=>cases ry;exact PySem.EqNone.eq_none_bool (cq I q (by simp))
  |int j=>obtain⟨t',rfl⟩:=ry;exact PySem.EqNone.eq_none_int (cq I q (by simp))
  |str j=>obtain⟨t',rfl⟩:=ry;exact PySem.EqNone.eq_none_str (cq I q (by simp))
  |_=>exact absurd (show false=true from hs) abx
 |bl i=>
  cases rx
  cases y with
  |dR=>cases ry;exact PySem.EqNone.eq_bool_none (cq I q (by simp))
  |bl j=>cases ry;exact eq_bool (cq I q JI)
  |str j=>obtain⟨t',rfl⟩:=ry;exact PySem.EqMixed.eq_bool_str (cq I q (by simp))
  |_=>exact absurd (show false=true from hs) abx
 |int i=>
  obtain⟨t,rfl⟩:=rx
  cases y with
  |dR=>cases ry;exact PySem.EqNone.eq_int_none (cq I q (by simp))
  |int j=>obtain⟨t',rfl⟩:=ry;exact eq_int (cq I q GG)
  |str j=>obtain⟨t',rfl⟩:=ry;exact PySem.EqMixed.eq_int_str (cq I q (by simp))
  |_=>exact absurd (show false=true from hs) abx
 |str i=>
  obtain⟨t,rfl⟩:=rx
  cases y with
  |dR=>cases ry;exact PySem.EqNone.eq_str_none (cq I q (by simp))
  |bl j=>cases ry;exact PySem.EqMixed.eq_str_bool (cq I q (by simp))
  |int j=>obtain⟨t',rfl⟩:=ry;exact PySem.EqMixed.eq_str_int (cq I q (by simp))
  |str j=>obtain⟨t',rfl⟩:=ry;exact eq_str (cq I q GH)
  |_=>exact absurd (show false=true from hs) abx
 |EW i=>
  obtain⟨t,rfl⟩:=rx
  cases y with
  |EW j=>obtain⟨t',rfl⟩:=ry;exact PySem.W.eq_bytes (cq I q GI)
  |_=>exact absurd (show false=true from hs) abx
 |_=>cases y<;>exact absurd (show false=true from hs) abx
theorem GJ:xW X (compareOp .NotEq) XE:=by
 intro pins s σ H x y v u Q I rx ry h
 obtain⟨hs,q⟩:=h
 cases x with
 |dR=>
  cases rx
  cases y with
  |dR=>cases ry;exact PySem.EqNone.ne_none_none (cq I q (by simp))
  |bl j=>cases ry;exact PySem.EqNone.ne_none_bool (cq I q (by simp))
  |int j=>obtain⟨t',rfl⟩:=ry;exact PySem.EqNone.ne_none_int (cq I q (by simp))
  |str j=>obtain⟨t',rfl⟩:=ry;exact PySem.EqNone.ne_none_str (cq I q (by simp))
  |_=>exact absurd (show false=true from hs) abx
 |bl i=>
  cases rx
  cases y with
  |dR=>cases ry;exact PySem.EqNone.ne_bool_none (cq I q (by simp))
  |bl j=>cases ry;exact ne_bool (cq I q (congrArg not JI))
  |str j=>obtain⟨t',rfl⟩:=ry;exact PySem.EqMixed.ne_bool_str (cq I q (by simp))
  |_=>exact absurd (show false=true from hs) abx
 |int i=>
  obtain⟨t,rfl⟩:=rx
  cases y with
  |dR=>cases ry;exact PySem.EqNone.ne_int_none (cq I q (by simp))
  |int j=>obtain⟨t',rfl⟩:=ry;exact ne_int (cq I q (congrArg not GG))
  |str j=>obtain⟨t',rfl⟩:=ry;exact PySem.EqMixed.ne_int_str (cq I q (by simp))
  |_=>exact absurd (show false=true from hs) abx
 |str i=>
  obtain⟨t,rfl⟩:=rx
  cases y with
  |dR=>cases ry;exact PySem.EqNone.ne_str_none (cq I q (by simp))
  |bl j=>cases ry;exact PySem.EqMixed.ne_str_bool (cq I q (by simp))
  |int j=>obtain⟨t',rfl⟩:=ry;exact PySem.EqMixed.ne_str_int (cq I q (by simp))
  |str j=>obtain⟨t',rfl⟩:=ry;exact ne_str (cq I q (congrArg not GH))
  |_=>exact absurd (show false=true from hs) abx
 |EW i=>
  obtain⟨t,rfl⟩:=rx
  cases y with
  |EW j=>obtain⟨t',rfl⟩:=ry;exact PySem.W.ne_bytes (cq I q (congrArg not GI))
  |_=>exact absurd (show false=true from hs) abx
 |_=>cases y<;>exact absurd (show false=true from hs) abx
theorem lV:xW X (compareOp .Lt) (E8 fun i j=> .bl (decide (i<j))):=LM fun _ _ _ _ _ _ _ q=>lt_int q
theorem AW:xW X (compareOp .LtE) (E8 fun i j=> .bl (decide (i<=j))):=LM fun _ _ _ _ _ _ _ q=>le_int q
theorem jF:xW X (compareOp .Gt) (E8 fun i j=> .bl (decide (j<i))):=LM fun _ _ _ _ _ _ _ q=>gt_int q
theorem iR:xW X (compareOp .GtE) (E8 fun i j=> .bl (decide (j<=i))):=LM fun _ _ _ _ _ _ _ q=>ge_int q
theorem hE:xW X (compareOp .Is) (fun x y H Q=>y= .dR/\Q (.bl (decide (x= .dR))) H):=by
 intro pins s σ H x y v u Q I rx ry h
 obtain⟨rfl,q⟩:=h
 cases ry
 refine is_none_gen (cq I q ?_)
 cases x<;>first
  |(cases rx;rfl)
  |(obtain⟨t,rfl⟩:=rx;rfl)
theorem GK:xW X (compareOp .IsNot) (fun x y H Q=>y= .dR/\Q (.bl (!decide (x= .dR))) H):=by
 intro pins s σ H x y v u Q I rx ry h
 obtain⟨rfl,q⟩:=h
 cases ry
 refine isnot_none_gen (cq I q ?_)
 cases x<;>first
  |(cases rx;rfl)
  |(obtain⟨t,rfl⟩:=rx;rfl)
theorem Of(b:Expr){op:CmpOp}(h:op≠ .In:=by decide)(h2:op≠ .NotIn:=by decide):behindInMarks op b=false:=by
 have e1:(op==CmpOp.In)=false:=by cases op<;>first|rfl|exact absurd rfl h
 have e2:(op==CmpOp.NotIn)=false:=by cases op<;>first|rfl|exact absurd rfl h2
 cases b<;>simp[behindInMarks,e1,e2]
theorem oN{op:CmpOp}{r:R2}(ho:xW X (compareOp op) r)(ha:PE X a ta)(hb:PE X b tb)(hm:behindInMarks op b=false):PE X (.Compare a [op] [b] pos) (xr r ta tb):=by
 intro pins s σ H Q I h
 exact wpAny_Compare1 (Ob ha hb I h fun v u s2 x y H2 I2 rx ry q=>ho pins s2 σ H2 x y v u Q I2 rx ry q) hm
def AX(t:TE):TT:=fun σ H Q=>t σ H fun x H'=>∃k,x= .bl k/\Q k H'
theorem ay{op:CmpOp}{r:R2}(ho:xW X (compareOp op) r)(ha:PE X a ta)(hb:PE X b tb)(hm:behindInMarks op b=false):PT X (.Compare a [op] [b] pos) (AX (xr r ta tb)):=by
 intro pins s σ H Q I h
 refine wpAny_isTrue_Compare1 (eO (ha pins s σ H _ I h) fun v s1⟨x,H1,I1,r1,q1⟩=>eO (hb pins s1 σ H1 _ I1 q1) fun u s2⟨y,H2,I2,r2,q2⟩=>
  eO (ho pins s2 σ H2 x y v u _ I2 r1 r2 q2) fun c s3⟨z,H3,I3,r3,k,e,q3⟩=> ?_) hm
 subst e
 cases r3
 exact wpAny_truthy_bool ⟨H3,I3,q3⟩
theorem yy:(sizeLine:Nat)<2^63:=by rw[sizeLine_eq];decide
theorem vals1{x:V}{us:List Value}(r:Vals [x] us):∃u,us=[u]/\RelV x u:=by
 cases r with
 |cons r1 r2=>cases r2;exact⟨_,rfl,r1⟩
theorem vals2{x y:V}{us:List Value}(r:Vals [x,y] us):∃u w',us=[u,w']/\RelV x u/\RelV y w':=by
 cases r with
 |cons r1 r2=>
  cases r2 with
  |cons r3 r4=>cases r4;exact⟨_,_,rfl,r1,r3⟩
theorem r9(hc:X.calm=true):wx X (.builtin "max") (fun xs H Q=>∃i j,xs=[.int i, .int j]/\Q (.int (if j>i then j else i)) H):=by
 intro pins s σ H xs us Q I r h
 obtain⟨i,j,rfl,q⟩:=h
 obtain⟨u,w',rfl,⟨t,rfl⟩,⟨t',rfl⟩⟩:=vals2 r
 refine max_two_ints (I.ok.hd hc) fun h' tk k=>⟨_,H,I.kept k, ?_,q⟩
 by_cases hj:j>i
 . rw[if_pos hj,if_pos hj];exact⟨_,rfl⟩
 rw[if_neg hj,if_neg hj];exact⟨_,rfl⟩
theorem vA(hc:X.calm=true):wx X (.builtin "min") (fun xs H Q=>∃i j,xs=[.int i, .int j]/\Q (.int (if j<i then j else i)) H):=by
 intro pins s σ H xs us Q I r h
 obtain⟨i,j,rfl,q⟩:=h
 obtain⟨u,w',rfl,⟨t,rfl⟩,⟨t',rfl⟩⟩:=vals2 r
 refine min_two_ints (I.ok.hd hc) fun h' tk k=>⟨_,H,I.kept k, ?_,q⟩
 by_cases hj:j<i
 . rw[if_pos hj,if_pos hj];exact⟨_,rfl⟩
 rw[if_neg hj,if_neg hj];exact⟨_,rfl⟩
end
end L2
namespace L2
open PySem PySem.Spec PyProof.Rows
structure Fc(h:Heap)(x dx C:Addr)(mA:Str->Option Value):Prop where
 obj:h.get? x=some (PySem.W.instObj C dx)
 ns:h.Ns1 dx mA
 ne:dx≠x
set_option tactic.hygienic true in
theorem HL{h:Heap}{dx:Addr}{mA:Str->Option Value}(n:h.Ns1 dx mA):∃od,h.get? dx=some od/\∀name,PySem.W.lookIn name od=some (mA name):=by
 obtain⟨o,es,ep,ho,hd,hk,_,hm⟩:=n
 refine⟨o,ho,fun name=> ?_⟩
 have e:=hm name
 unfold nsFind findBy at e
 rw[<-Array.find?_toList]at e
 unfold PySem.W.lookIn
 rw[hd]
 dsimp only
 split
 . rename_i y q
   rw[q]at e
   exact congrArg some e
 rename_i q
 rw[q]at e
 have a:es.toList.any (·.refKey)=false:=by
  rw[List.any_eq_false]
  intro y hy
  obtain⟨z,t,Ve⟩:=hk y (Array.mem_toList_iff.mp hy)
  simp[DictEntry.refKey,Ve]
 have a':¬es.toList.any (·.refKey)=true:=by rw[a];exact abx
 rw[if_neg a']
 exact congrArg some e
theorem Fc.look {h:Heap} {x dx C:Addr} {mA:Str->Option Value} (I:Fc h x dx C mA):∃od,PySem.W.InstAt h x (PySem.W.instObj C dx) C (some od)/\∀name,PySem.W.lookIn name od=some (mA name):=
 let⟨od,ho,hl⟩:=HL I.ns
 ⟨od,⟨I.obj,rfl,rfl,ho⟩,hl⟩
section
variable{prog:Program}{w:World}{A:Around}{E:Value->Shared->Prop}{s:Shared}{K:PySem.W.Frag}{x dx C f:Addr}{mA:Str->Option Value}{name:Str}{v:Value}
theorem get_map{expr:Bool}{Q:Value->Shared->Prop}(X:K.In s.heap)(I:Fc s.heap x dx C mA)(hg:PySem.W.plainGet K C name=true)(hh:PySem.W.hasDictIn K C=true)
 (ha:PySem.W.findIn K (.ref C) name=some none) (hv:mA name=some v) (YJ:PySem.W.handedIn v=true) (h:Q v {s with toks:=s.toks+1}):
 wpAny (model prog w) A (getAttr (.ref x) name expr) Q E s:=by
 obtain⟨od,J,hl⟩:=I.look
 exact PySem.W.get_value X J (PySem.W.plainGet_of hg).1 (PySem.W.findObj_own hh ha rfl (by rw[hl,hv])) YJ h
theorem JJ{pl:Sem Bool}{Q:Value×List Value->Shared->Prop}(X:K.In s.heap)(I:Fc s.heap x dx C mA)(hg:PySem.W.plainGet K C name=true)
 (hf:PySem.W.findIn K (.ref C) name=some (some (.ref f))) (ht:PySem.W.isFn K (.ref f)=true) (hv:mA name=none) (h:Q (.ref f,[.ref x]) s):
 wpAny (model prog w) A (getMethod (.ref x) name pl) Q E s:=by
 obtain⟨od,J,hl⟩:=I.look
 exact PySem.W.method_fn X J (PySem.W.plainGet_of hg).1 (PySem.W.plainGet_of hg).2 hf (beq_iff_eq.mp ht) (by show(PySem.W.lookIn name od).map (·.isSome)=some false;rw[hl,hv];rfl) h
theorem LN{ns:List Str}{Q:Unit->Shared->Prop}(X:K.In s.heap)(I:Fc s.heap x dx C mA)
 (hs:PySem.W.findIn K (.ref C) "__setattr__"=some (some (.builtin "object.__setattr__"))) (hp:PySem.W.plainOver K C=true) (ht:PySem.W.takerIn K C name=some none) (hh:PySem.W.hasDictIn K C=true)
 (hw:PySem.Within mA ns) (hsz:ns.length<=sizeLine)
 (h:∀h',Fc h' x dx C (fun y=>if y=name then some v else mA y)->Heap.SameBut dx s.heap h'->Q () {s with heap:=h',toks:=s.toks+2}):
 wpAny (model prog w) A (setAttr (.ref x) name v) Q E s:=by
 obtain⟨od,J,hl⟩:=I.look
 refine PySem.W.set_plain X J hs (PySem.W.osa_open (s:={s with toks:=s.toks+1}) (r:=none) X J hp ht fun b=> ?_)
 obtain⟨cd,hc,UX⟩:=PySem.W.any_some hh
 have hx:s.heap.get? x=some ⟨.ref C,some dx, .plain, #[]⟩:=I.obj
 refine wpAny_bind (wpAny_pure (wpAny_bind (wpAny_bind (wpAny_loadPart hx (wpAny_bind (PySem.W.Looks.here (s:={s with toks:=s.toks+1}) (PySem.W.looks_clsIn X hc) ?_))))))
 rw[UX]
 refine wpAny_pure (a:=some dx) (wpAny_bind (wpAny_pure (wpAny_bind ?_)))
 refine wpAny_nsSet1 (s:={s with toks:=s.toks+1}) I.ns fun h' QC Oa=> ?_
 obtain⟨oD,esD,epD,YK,YL,YM⟩:=QC.count (PySem.Within.cons name v hw)
 refine wpAny_bind (wpAny_lookBehind YK (by rw[YL];exact pastItsLine_dict (abk YM (by rw[abG];lia))) ?_)
 exact wpAny_pure (h _ ⟨(Oa.2 _ (abp I.ne)).trans I.obj,QC,I.ne⟩ Oa)
theorem JK{R:Result->Shared->Prop}{vs:List Value}{kw:List (Str×Value)}(X:K.In s.heap)(hm:PySem.W.makesIn K C=true)
 (hi:PySem.W.findIn K (.ref C) "__init__"=some (some (.ref f))) (hf:PySem.W.typeIn K (.ref f)=some (.type "function"))
 (h:codeAny (model prog w) (A.under (.builtin "type.__call__" ⟨.ref C::vs,kw⟩)) (.call (.ref f) ⟨.ref (s.heap.objs.size+1)::vs,kw⟩) (PySem.W.InitBack (s.heap.objs.size+1) R)
  {s with heap:=(s.heap.push PySem.W.emptyDict).push (PySem.W.instObj C s.heap.objs.size)}):
 codeAny (model prog w) A (.call (.ref C) ⟨vs,kw⟩) R s:=by
 obtain⟨hh,g,d,t,os⟩:=s
 exact PySem.W.make_core (PySem.W.makes_of X hm) (PySem.W.looks_findIn X hi) (fun self=>PySem.W.bind_fn X self hf) (.inl rfl) h
end
noncomputable def bc(f:Str)(v:V):List (Str×V)->List (Str×V)
 |[]=>[(f,v)]
 |(g,x)::r=>if g=f then(g,v)::r else(g,x)::bc f v r
theorem wz(f g:Str)(v:V):∀fs:List (Str×V),(bc f v fs).lookup g=if g=f then some v else fs.lookup g
 |[]=>by
  show List.lookup g [(f,v)]=_
  by_cases h:g=f
  . have hb:(g==f)=true:=beq_iff_eq.mpr h
    simp only[List.lookup,hb,if_pos h]
  have hb:(g==f)=false:=beq_eq_false_iff_ne.mpr h
  simp only[List.lookup,hb,if_neg h]
 |(k,x)::r=>by
  have ih:=wz f g v r
  rw[show bc f v ((k,x)::r)=(if k=f then(k,v)::r else(k,x)::bc f v r)from rfl]
  by_cases hk:k=f
  . rw[if_pos hk]
    by_cases h:g=k
    . have hb:(g==k)=true:=beq_iff_eq.mpr h
      simp only[List.lookup,hb,if_pos (h.trans hk)]
    have hb:(g==k)=false:=beq_eq_false_iff_ne.mpr h
    simp only[List.lookup,hb,if_neg (fun e:g=f=>h (e.trans hk.symm))]
  rw[if_neg hk]
  by_cases h:g=k
  . have hb:(g==k)=true:=beq_iff_eq.mpr h
    simp only[List.lookup,hb,if_neg (fun e:g=f=>hk (h.symm.trans e))]
  have hb:(g==k)=false:=beq_eq_false_iff_ne.mpr h
  simp only[List.lookup,hb]
  exact ih
theorem vB(f:Str)(v:V):∀fs:List (Str×V),f∈(bc f v fs).map (·.1)/\∀g,g∈fs.map (·.1)->g∈(bc f v fs).map (·.1)
 |[]=>⟨by simp[bc],fun g h=>by simp at h⟩
 |(k,x)::r=>by
  obtain⟨i1,i2⟩:=vB f v r
  rw[show bc f v ((k,x)::r)=(if k=f then(k,v)::r else(k,x)::bc f v r)from rfl]
  by_cases hk:k=f
  . rw[if_pos hk]
    subst hk
    exact⟨by simp,fun g h=>by simpa using h⟩
  rw[if_neg hk]
  refine⟨?_,fun g h=> ?_⟩
  . rw[abH]
    exact abn _ i1
  rw[abH]at h⊢
  rcases abo.mp h with e|e
  . exact abo.mpr (.inl e)
  exact abn _ (i2 g e)
theorem wA(f:Str)(v:V):∀fs:List (Str×V),(bc f v fs).length<=fs.length+1
 |[]=>by simp[bc]
 |(k,x)::r=>by
  have ih:=wA f v r
  rw[show bc f v ((k,x)::r)=(if k=f then(k,v)::r else(k,x)::bc f v r)from rfl]
  by_cases hk:k=f
  . rw[if_pos hk,abG,abG];lia
  rw[if_neg hk,abG,abG];lia
theorem Ae.some_of {v:V} {o:Option Value} (r:Ae (some v) o):∃u,o=some u/\RelV v u:=by
 cases o with
 |none=>exact(show False from r).elim
 |some u=>exact⟨u,rfl,r⟩
theorem Ae.none_of {o:Option Value} (r:Ae none o):o=none:=by
 cases o with
 |none=>rfl
 |some u=>exact(show False from r).elim
theorem HM{v:V}{u:Value}(r:RelV v u):PySem.W.handedIn u=true:=by
 cases v with
 |dR=>cases(show u=Value.none from r);rfl
 |bl b=>cases(show u=Value.bool b from r);rfl
 |int i=>obtain⟨t,e⟩:=(show∃t,u=Value.int i t from r);cases e;rfl
 |str x=>obtain⟨t,e⟩:=(show∃t,u=Value.str x t from r);cases e;rfl
 |EW b=>obtain⟨t,e⟩:=(show∃t,u=Value.bytes b t from r);cases e;rfl
 |TV b=>obtain⟨t,e⟩:=(show∃t,u=Value.float b t from r);cases e;rfl
 |ref a=>cases(show u=Value.ref a from r);rfl
 |ty n=>cases(show u=Value.type n from r);rfl
section
variable{P:Program}{w:World}{H H':Hp}{h h':Heap}{a C dx:Addr}{fs Qu:List (Str×V)}
theorem B2(dD:uf P w H h)(e:H a=some (.ins C dx fs)):∃mA,Fc h a dx C mA/\(∀f,Ae (fs.lookup f) (mA f))/\PySem.Within mA (fs.map (·.1))/\fs.length<=1000/\H dx=some (.own a):=by
 obtain⟨d,z,ne,ob,mA,n,r,q⟩:=(show i4 P w H h a (.ins C dx fs)from dD a _ e)
 exact⟨mA,⟨ob,n,ne⟩,r,q,z,d⟩
end
structure tm(K:PySem.W.Frag)(C:Addr):Prop where
 pg:PySem.W.plainGet K C Str.empty=true
 hd:PySem.W.hasDictIn K C=true
 po:PySem.W.plainOver K C=true
 sa:PySem.W.findIn K (.ref C) "__setattr__"=some (some (.builtin "object.__setattr__"))
theorem tm.get {K:PySem.W.Frag} {C:Addr} (c:tm K C) (f:Str):PySem.W.plainGet K C f=true:=c.pg
def aT(K:PySem.W.Frag)(C:Addr)(f:Str):Prop:=PySem.W.findIn K (.ref C) f=some none
theorem aT.Rj {K:PySem.W.Frag} {C:Addr} {f:Str} (n:aT K C f):PySem.W.takerIn K C f=some none:=by
 unfold PySem.W.takerIn
 rw[show PySem.W.findIn K (.ref C) f=some none from n]
 rfl
structure Meth(K:PySem.W.Frag)(C:Addr)(m:Str)(f:Addr):Prop where
 at_:PySem.W.findIn K (.ref C) m=some (some (.ref f))
 fn:PySem.W.isFn K (.ref f)=true
 kp:PySem.W.keepIn K (.ref f)=true
section
variable{X:Cx}{pins:List (Addr×Obj)}{σ:St}{H:Hp}{s:Shared}{a C dx:Addr}{fs:List (Str×V)}{f:Str}{v:V}{A:Around}{E:Value->Shared->Prop}
theorem yz{b:Bool}{Q:Value->Shared->Prop}(I:Inv X pins σ H s)(e:H a=some (.ins C dx fs))(c:tm X.K C)(n:aT X.K C f)(l:fs.lookup f=some v)
 (h:∀u s',Inv X pins σ H s'->RelV v u->Q u s'):wpAny (model X.prog X.w) A (getAttr (.ref a) f b) Q E s:=by
 obtain⟨mA,O,r,_,_,_⟩:=B2 I.dD e
 obtain⟨u,hu,ru⟩:=Ae.some_of (v:=v) (o:=mA f) (by rw[<-l];exact r f)
 exact get_map I.E1 O (c.get f) c.hd n hu (HM ru) (h u _ (I.tok _) ru)
theorem tw{m:Str}{g:Addr}{pl:Sem Bool}{Q:Value×List Value->Shared->Prop}(I:Inv X pins σ H s)(e:H a=some (.ins C dx fs))(c:tm X.K C)(k:Meth X.K C m g)(l:fs.lookup m=none)
 (h:Q (.ref g,[.ref a]) s):wpAny (model X.prog X.w) A (getMethod (.ref a) m pl) Q E s:=by
 obtain⟨mA,O,r,_,_,_⟩:=B2 I.dD e
 have hn:mA m=none:=Ae.none_of (by rw[<-l];exact r m)
 exact JJ I.E1 O (c.get m) k.at_ k.fn hn h
theorem yA{y:V}{u:Value}{Q:Unit->Shared->Prop}(I:Inv X pins σ H s)(e:H a=some (.ins C dx fs))(c:tm X.K C)(n:aT X.K C f)(hl:fs.length<1000)(ry:RelV y u)
 (h:∀s',Inv X pins σ (upd H a (.ins C dx (bc f y fs))) s'->Q () s'):wpAny (model X.prog X.w) A (setAttr (.ref a) f u) Q E s:=by
 obtain⟨mA,O,r,wi,_,ho⟩:=B2 I.dD e
 have hz:(fs.map (·.1)).length<=sizeLine:=by rw[abI,sizeLine_eq];lia
 refine LN I.E1 O c.sa c.po n.Rj c.hd wi hz fun h' O' sb=>h _ ?_
 have hd:∃o,h'.get? dx=some o:=let⟨o,_,_,e',_⟩:=O'.ns;⟨o,e'⟩
 refine I.write (x:=a) (e:=dx) (by rw[e];exact True.intro) (.inr ho) (fun b q hb z=>(sb.2 b hb).trans z) hd ?_
 refine⟨by rw[au O.ne];exact ho, ?_,O.ne,O'.obj,_,O'.ns,fun g=> ?_,fun g hg=> ?_⟩
 . have:=wA f y fs;lia
 . show Ae ((bc f y fs).lookup g) (if g=f then some u else mA g)
   rw[wz]
   by_cases q:g=f
   . rw[if_pos q,if_pos q];exact ry
   rw[if_neg q,if_neg q];exact r g
 by_cases q:g=f
 . rw[q];exact(vB f y fs).1
 refine(vB f y fs).2 g (wi g fun z=>hg ?_)
 show(if g=f then some u else mA g)=none
 rw[if_neg q];exact z
theorem Inv.made (I:Inv X pins σ H s):Inv X pins σ (upd (upd H s.heap.objs.size (.own (s.heap.objs.size+1))) (s.heap.objs.size+1) (.ins C s.heap.objs.size []))
 {s with heap:=(s.heap.push PySem.W.emptyDict).push (PySem.W.instObj C s.heap.objs.size)}:=by
 have e1:(s.heap.push PySem.W.emptyDict).get? s.heap.objs.size=some PySem.W.emptyDict:=abA s.heap rfl
 have e2:((s.heap.push PySem.W.emptyDict).push (PySem.W.instObj C s.heap.objs.size)).get? (s.heap.objs.size+1)=some (PySem.W.instObj C s.heap.objs.size):=by
  have:=abA (s.heap.push PySem.W.emptyDict) (o:=PySem.W.instObj C s.heap.objs.size) rfl
  rwa[abJ]at this
 have e3:(s.heap.push PySem.W.emptyDict).Ns s.heap.objs.size (fun _=>none):=⟨PySem.W.emptyDict, #[],_,e1,rfl,(fun e he=>absurd he (by simp)),fun _=>rfl⟩
 have I1:=I.laid (a:=s.heap.objs.size) (o:= .own (s.heap.objs.size+1)) (h':=s.heap.push PySem.W.emptyDict) (t':=s.toks) (fun b u q=>abz _ q) (abB _) ⟨_,e1⟩
 refine I1.laid (a:=s.heap.objs.size+1) (o:= .ins C s.heap.objs.size []) (t':=s.toks) (fun b u q=>abz _ q) (abK (abJ _ _)) ?_
 have ne:s.heap.objs.size≠s.heap.objs.size+1:=abg (Nat.lt_succ_self _)
 refine⟨by rw[au ne,af],abE _,ne,e2,fun _=>none,(Heap.Ns1.of_empty e3).at fun o q=>abz _ q,fun _=>True.intro,fun y hy=>absurd rfl hy⟩
theorem LO{prog:Program}{w:World}{env:Env}{e:Expr}{f:Str}{pos:Pos}{s:Shared}{Q:Value->Shared->Prop}(hb:attributeBase e f env (eval e env)=eval e env)
 (h:wpAny (model prog w) A (eval e env) (fun o bZ=>wpAny (model prog w) A (getAttr o f true) Q E bZ) E s):wpAny (model prog w) A (eval (.Attribute e f pos) env) Q E s:=
 Attribute_any_ h (by rw[arm_eval_Attribute,hb])
end
def qI(K:PySem.W.Frag)(ta:TE)(f:Str):TE:=fun σ H Q=>ta σ H fun x H1=>∃a C dx fs v,x= .ref a/\H1 a=some (.ins C dx fs)/\tm K C/\aT K C f/\fs.lookup f=some v/\Q v H1
def Vf(K:PySem.W.Frag)(ta tv:TE)(f:Str):TS:=fun D σ H=>tv σ H fun y H1=>ta σ H1 fun x H2=>∃a C dx fs,x= .ref a/\H2 a=some (.ins C dx fs)/\tm K C/\aT K C f/\fs.length<1000/\
 D.nx σ (upd H2 a (.ins C dx (bc f y fs)))
def Rk(X:Cx)(op:Operator)(rd:V->V->Hp->VK->Prop):Prop:=
 ∀(pins:List (Addr×Obj))(s:Shared)(σ:St)(H:Hp)(x y:V)(u v:Value)(Q:VK),Inv X pins σ H s->RelV x u->RelV y v->rd x y H Q->wpAny (model X.prog X.w) X.A (inplaceOp op u v) (EP X pins σ Q) X.xe s
def LP(K:PySem.W.Frag)(ta tv:TE)(rd:V->V->Hp->VK->Prop)(f:Str):TS:=fun D σ H=>ta σ H fun x H1=>∃a C dx fs v,x= .ref a/\H1 a=some (.ins C dx fs)/\tm K C/\aT K C f/\fs.lookup f=some v/\
 tv σ H1 fun y H2=>rd v y H2 fun z H3=>∃Ab Qu,H3 a=some (.ins C Ab Qu)/\Qu.length<1000/\D.nx σ (upd H3 a (.ins C Ab (bc f z Qu)))
section
variable{X:Cx}{o e value:Expr}{f:Str}{pos pos' Di:Pos}{ta tv:TE}
theorem ai(he:PE X e ta)(hb:attributeBase e f X.env (eval e X.env)=eval e X.env):PE X (.Attribute e f pos) (qI X.K ta f):=by
 intro pins s σ H Q I h
 refine LO hb (eO (he pins s σ H _ I h) fun u s1⟨x,H1,I1,rx,a,C,dx,fs,v,ex,ea,c,n,l,q⟩=> ?_)
 subst ex
 obtain rfl:u=Value.ref a:=rx
 exact yz I1 ea c n l fun u' s2 I2 ru=>⟨v,H1,I2,ru,q⟩
theorem aU(ha:PE X o ta)(hv:PE X value tv)(hs:swapsWith value (some (.Attribute o f pos')) pos.line X.env=pure false):PS X (.Assign [.Attribute o f pos'] value pos) (Vf X.K ta tv f):=by
 intro pins s σ H D I h
 refine plainObj_wpAny_Assign_Attribute (eO (hv pins s σ H _ I h) fun u s1⟨y,H1,I1,ry,q⟩=>eO (ha pins s1 σ H1 _ I1 q) fun ov s2⟨x,H2,I2,rx,a,C,dx,fs,ex,ea,c,n,l,q2⟩=> ?_) hs
 subst ex
 obtain rfl:ov=Value.ref a:=rx
 exact yA I2 ea c n l ry fun s3 I3=>⟨σ,_,I3,q2⟩
theorem AY{op:Operator}{rd:V->V->Hp->VK->Prop}(ha:PE X o ta)(hv:PE X value tv)(YN:Rk X op rd):PS X (.AugAssign (.Attribute o f Di) op value pos) (LP X.K ta tv rd f):=by
 intro pins s σ H D I h
 refine wpAny_AugAssign_AttributeAny (eO (ha pins s σ H _ I h) fun ov s1⟨x,H1,I1,rx,a,C,dx,fs,v,ex,ea,c,n,l,q⟩=> ?_)
 subst ex
 obtain rfl:ov=Value.ref a:=rx
 refine yz I1 ea c n l fun u s2 I2 ru=>eO (hv pins s2 σ H1 _ I2 q) fun w3 s3⟨y,H2,I3,ry,q3⟩=>eO (YN pins s3 σ H2 v y u w3 _ I3 ru ry q3) fun w4 s4⟨z,H3,I4,rz,Ab,Qu,Vg,l',q4⟩=> ?_
 exact yA I4 Vg c n l' rz fun s5 I5=>⟨σ,_,I5,q4⟩
def Vh:V->V->Hp->VK->Prop:=fun x y H Q=>∃i j,x= .int i/\y= .int j/\Q (.int (i+j)) H
theorem JL:Rk X .Add Vh:=by
 rintro pins s σ H x y u v Q I rx ry ⟨i,j,rfl,rfl,q⟩
 obtain⟨t,rfl⟩:=(show∃t,u=Value.int i t from rx)
 obtain⟨t',rfl⟩:=(show∃t',v=Value.int j t' from ry)
 exact PyProof.Rows.iadd_int ⟨.int (i+j),H,I.tok _,⟨_,rfl⟩,q⟩
theorem Nt{pl:Sem Bool}{m:Str}{apos:Pos}{args:List Expr}{pins:List (Addr×Obj)}{s:Shared}{σ:St}{H:Hp}{Q:Value->Shared->Prop}{te:TE}(he:PE X e te)(I:Inv X pins σ H s)
 (h:te σ H fun x H1=>∃a C dx fs g,x= .ref a/\H1 a=some (.ins C dx fs)/\tm X.K C/\Meth X.K C m g/\fs.lookup m=none/\
  ∀s1,Inv X pins σ H1 s1->wpAny (model X.prog X.w) X.A (callWith pos (.ref g) [.ref a] (backTo pos (starEach args X.env)) (backToKw pos (keywordEach [] X.env))) Q X.xe s1)
 (ht:eval (.Call (.Attribute e m apos) args [] pos) X.env=(do
  let ov <-eval e X.env
  standAt apos.atName
  let(f,first) <-holding [ov] (getMethod ov m pl)
  callWith pos f first (backTo pos (starEach args X.env)) (backToKw pos (keywordEach [] X.env)))):
 wpAny (model X.prog X.w) X.A (eval (.Call (.Attribute e m apos) args [] pos) X.env) Q X.xe s:=by
 refine abL (pl:=pl) (eO (he pins s σ H _ I h) fun u s1⟨x,H1,I1,rx,a,C,dx,fs,g,ex,ea,c,k,l,q⟩=> ?_) ht
 subst ex
 obtain rfl:u=Value.ref a:=rx
 exact tw I1 ea c k l (q s1 I1)
end
section
variable{X:Cx}{pins:List (Addr×Obj)}{σ:St}{H:Hp}{s:Shared}{A:Around}{E:Value->Shared->Prop}{Q:Value->Shared->Prop}{c:Value}{b:Bool}
end
end L2
namespace L2
open PySem PySem.Spec PyProof.Rows
structure gg(k:Nat)(A:Around):Prop where
 hd:A.handled=none
 dp:A.depth+3*k+5<recursionLimit
 un:A.units+16*k+200<cLine
theorem gg.mono {j k:Nat} {A:Around} (r:gg k A) (h:j<=k):gg j A:=⟨r.hd,by have:=r.dp;lia,by have:=r.un;lia⟩
theorem gg.deeper {k:Nat} {A:Around} (r:gg (k+1) A) (env:Env):gg k (A.deeper env):=
 ⟨r.hd,by have:=r.dp;show A.depth+1+3*k+5<_;lia,by have:=r.un;show A.units+3+16*k+200<_;lia⟩
theorem gg.in1 {k:Nat} {A:Around} (r:gg (k+1) A):gg k A.in1:=
 ⟨r.hd,by have:=r.dp;show A.depth+3*k+5<_;lia,by have:=r.un;show A.units+1+16*k+200<_;lia⟩
theorem Fd{A:Around}{C:Addr}{us:List Value}{kw:List (Str×Value)}:(A.under (.builtin "type.__call__" ⟨.ref C::us,kw⟩)).depth=A.depth+1:=by
 first|rfl|simp[Around.under,Code.weight,Code.isCreation,Code.isGuard,Code.isCaller,Code.frames,Code.isFrame,guardIds]
theorem Fe{A:Around}{C:Addr}{us:List Value}{kw:List (Str×Value)}:(A.under (.builtin "type.__call__" ⟨.ref C::us,kw⟩)).units=A.units+1:=by
 first|rfl|simp[Around.under,Code.cUnits,Code.frames,Code.isFrame]
theorem gg.make {k:Nat} {A:Around} (r:gg (k+1) A) (C:Addr) (us:List Value) (kw:List (Str×Value)):gg k (A.under (.builtin "type.__call__" ⟨.ref C::us,kw⟩)):=
 ⟨r.hd,by have:=r.dp;rw[Fd];lia,by have:=r.un;rw[Fe];lia⟩
theorem gg.depth {k:Nat} {A:Around} (r:gg k A):A.depth<recursionLimit:=by have:=r.dp;lia
theorem gg.units {k:Nat} {A:Around} (r:gg k A):A.units+64<cLine:=by have:=r.un;lia
def lW:TA:=fun _ H Q=>Q [] H
def cK(ta:TE)(tr:TA):TA:=fun σ H Q=>ta σ H fun x H1=>tr σ H1 fun xs H2=>Q (x::xs) H2
section
variable{X:Cx}{e:Expr}{es:List Expr}{te:TE}{t:TA}{pos:Pos}
theorem ag:PA X [] lW:=fun _ _ _ _ H Q I h=>Calls.spliced_nil ⟨[],H,I, .nil,h⟩
theorem aa(ha:PE X e te)(hr:PA X es t)(hs:starEach (e::es) X.env=(false,eval e X.env)::starEach es X.env:=by rfl):PA X (e::es) (cK te t):=by
 intro pos pins s σ H Q I h
 rw[hs]
 show wpAny _ _ (spliced ((false,eval e X.env)::backTo pos (starEach es X.env))) _ _ s
 refine Calls.spliced_cons (eO (ha pins s σ H _ I h) fun u s1⟨x,H1,I1,r1,q1⟩=> ?_)
 exact eO (hr pos pins s1 σ H1 _ I1 q1) fun us s2⟨xs,H2,I2,r2,q2⟩=>⟨x::xs,H2,I2, .cons r1 r2,q2⟩
def Vi(t:TA):TE:=fun σ H Q=>t σ H fun xs H1=>xs.length<=sizeLine/\∀p,H1 p=none->Q (.ref p) (upd H1 p (.tup xs))
def HN(t:TA):TE:=fun σ H Q=>t σ H fun xs H1=>xs.length<=sizeLine/\∀p,H1 p=none->Q (.ref p) (upd H1 p (.lst xs))
theorem JM{x1}(h:PA X es t):PE X (.Tuple es x1 pos) (Vi t):=by
 intro pins s σ H Q I hq
 refine wpAny_Tuple_spliced (eO (h pos pins s σ H _ I hq) fun us s1⟨xs,H1,I1,r,z,q⟩=>⟨by rw[<-r.length];exact z, ?_⟩)
 have hf:H1 s1.heap.objs.size=none:=I1.dD.fresh (abB _)
 refine⟨.ref s1.heap.objs.size,upd H1 s1.heap.objs.size (.tup xs),I1.laid (t':=s1.toks) (fun b u e=>abz _ e) (abB _) ?_,U,q _ hf⟩
 exact⟨z,us,r,⟨_,abA _ rfl,U,_,U⟩⟩
theorem bb(h:PA X es t):PE X (.List es pos) (HN t):=by
 intro pins s σ H Q I hq
 refine wpAny_List_spliced (eO (h pos pins s σ H _ I hq) fun us s1⟨xs,H1,I1,r,z,q⟩=>⟨by rw[<-r.length];exact z, ?_⟩)
 have hf:H1 s1.heap.objs.size=none:=I1.dD.fresh (abB _)
 refine⟨.ref s1.heap.objs.size,upd H1 s1.heap.objs.size (.lst xs),I1.laid (t':=s1.toks) (fun b u e=>abz _ e) (abB _) ?_,U,q _ hf⟩
 exact⟨z,us,0,r,abA _ rfl⟩
end
abbrev Sp:=List V->Hp->VK->XK->Prop
abbrev HP:=List Env->Hp->Shared->XK->Value->Shared->Prop
structure Dm(P:Program)(w:World)(K:PySem.W.Frag)(mg:Str->Option Value)(base:Heap)(A:Around)(outer:List Env)(s:Shared)(H:Hp):Prop where
 frames:A.frames=some outer
 mod:Mod K mg base
 bs:∀b o,base.get? b=some o->s.heap.get? b=some o/\H b=none
 Jv:base.objs.size<=s.heap.objs.size
 vx:s.heap.FunFrames base outer
 Nq:∀b∈Ju outer,H b=none
 dD:uf P w H s.heap
 bare:AllBare s.gens
def CE(outer:List Env)(P:Program)(w:World)(H:Hp)(s:Shared)(Q:VK)(u:Value)(s':Shared):Prop:=
 ∃v H',s'.os=s.os/\AllBare s'.gens/\Un (Ju outer) [] H H' s.heap s'.heap/\uf P w H' s'.heap/\RelV v u/\Q v H'
def CR(CX:HP)(outer:List Env)(P:Program)(w:World)(H:Hp)(s:Shared)(Q:VK)(E:XK)(r:Result)(s':Shared):Prop:=
 match r with
 | .ok (.ret u)=>CE outer P w H s Q u s'
 | .ok _=>False
 | .error e=>CX outer H s E e s'
structure bq(P:Program)(w:World)(K:PySem.W.Frag)(mg:Str->Option Value)(base:Heap)(CX:HP)(k:Nat)(f:Addr)(fd:FuncData)(ps:List Str)(sp:Sp):Prop where
 len:∀vs H Q E,sp vs H Q E->vs.length=ps.length
 run:∀(A:Around)(outer:List Env)(s:Shared)(H:Hp)(args:Args)(us:List Value)(vs:List V)(Q:VK)(E:XK),gg k A->Dm P w K mg base A outer s H->BindsTo s fd args (ps.zip us)->Vals vs us->sp vs H Q E->
  codeAny (model P w) A (.call (.ref f) args) (CR CX outer P w H s Q E) s
theorem Dm.make {P:Program} {w:World} {K:PySem.W.Frag} {mg:Str->Option Value} {base:Heap} {A:Around} {outer:List Env} {s:Shared} {H:Hp} (e:Dm P w K mg base A outer s H) (C:Addr) (us:List Value) (kw:List (Str×Value)):
 Dm P w K mg base (A.under (.builtin "type.__call__" ⟨.ref C::us,kw⟩)) outer s H:=⟨by first|exact e.frames|(simpa[Around.under,Code.envs,Code.isFrame,pushEnvs]using e.frames),e.mod,e.bs,e.Jv,e.vx,e.Nq,e.dD,e.bare⟩
section
variable{X:Cx}{pins:List (Addr×Obj)}{σ:St}{H:Hp}{s s':Shared}
theorem Inv.Rl (I:Inv X pins σ H s):Dm X.prog X.w X.K X.mg X.base X.A X.stack s H:=
 ⟨I.ok.frames,I.ok.mod,I.bs,abk I.ok.Jv I.sz,I.stack,I.Gx,I.dD,I.bare⟩
theorem Inv.after {Q:VK} {u:Value} (I:Inv X pins σ H s) (h:CE X.stack X.prog X.w H s Q u s'):EP X pins σ Q u s':=by
 obtain⟨v,H',os,bare,un,dD,r,q⟩:=h
 obtain⟨hh,g,d,t,Uc⟩:=s'
 obtain rfl:Uc=s.os:=os
 exact⟨v,H',I.call (h':=hh) (g':=g) (d':=d) (t':=t) (ch:=[]) un dD bare (fun b z=>absurd z (by simp)),r,q⟩
end
def uj(sp:Sp)(dvs:List V)(E:XK)(t:TA):TE:=fun σ H Q=>t σ H fun vs H1=>sp (vs++dvs) H1 Q E
def Dn(C:Addr)(m:Str)(sp:Sp)(dvs:List V)(E:XK)(ta:TE)(t:TA):TE:=fun σ H Q=>ta σ H fun x H1=>∃a dx fs,x= .ref a/\H1 a=some (.ins C dx fs)/\fs.lookup m=none/\
 t σ H1 fun vs H2=>sp (x::(vs++dvs)) H2 Q E
def AZ(C:Addr)(sp:Sp)(dvs:List V)(E:XK)(t:TA):TE:=fun σ H Q=>t σ H fun vs H1=>∀x dx,H1 x=none->H1 dx=none->dx≠x->
 sp (.ref x::(vs++dvs)) (upd (upd H1 dx (.own x)) x (.ins C dx [])) (fun v H2=>v= .dR/\Q (.ref x) H2) E
def Binds(K:PySem.W.Frag)(fd:FuncData)(ps:List Str)(ds:List Value):Prop:=
 ∀(s:Shared)(us:List Value),K.In s.heap->(us++ds).length=ps.length->BindsTo s fd ⟨us,[]⟩ (ps.zip (us++ds))
theorem Binds.all {K:PySem.W.Frag} {fd:FuncData} {ps:List Str} (h:∀us:List Value,us.length=ps.length->bindArgs fd ⟨us,[]⟩=pure (ps.zip us)):Binds K fd ps []:=fun s us _ hl=>by
 rw[abM]at hl⊢
 exact .of_eq (h us hl)
def Passes(CX:HP)(X:Cx)(E:XK):Prop:=∀(pins:List (Addr×Obj))(σ:St)(H:Hp)(s:Shared)(e:Value)(s':Shared),Inv X pins σ H s->CX X.stack H s E e s'->X.xe e s'
section
variable{X:Cx}{CX:HP}{k:Nat}{f C:Addr}{fd:FuncData}{ps:List Str}{sp:Sp}{dvs:List V}{ds:List Value}{E:XK}{x m:Str}{p pos apos:Pos}{e o:Expr}{es:List Expr}{ta:TE}{t:TA}
theorem yB{pins:List (Addr×Obj)}{σ:St}{H:Hp}{s:Shared}{Q:VK}{us:List Value}{vs:List V}(F:bq X.prog X.w X.K X.mg X.base CX k f fd ps sp)(hr:gg k X.A)(hb:Binds X.K fd ps ds)(hd:Vals dvs ds)(hx:Passes CX X E)
 (I:Inv X pins σ H s) (r:Vals vs us) (h:sp (vs++dvs) H Q E):wpAny (model X.prog X.w) X.A (call (.ref f) us) (EP X pins σ Q) X.xe s:=by
 have r2:Vals (vs++dvs) (us++ds):=r.append hd
 have hl:(us++ds).length=ps.length:=by rw[<-r2.length];exact F.len _ _ _ _ h
 refine wpAny_call (codeAny_mono (F.run X.A X.stack s H ⟨us,[]⟩ (us++ds) (vs++dvs) Q E hr I.Rl (hb s us I.E1 hl) r2 h) fun r s' hq=> ?_)
 cases r with
 |error e=>exact hx pins σ H s e s' I hq
 |ok fl=>
  cases fl with
  |ret u=>exact I.after hq
  |next=>exact False.elim hq
  |brk=>exact False.elim hq
  |cont=>exact False.elim hq
theorem LQ(F:bq X.prog X.w X.K X.mg X.base CX k f fd ps sp)(hr:gg k X.A)(hg:Gl X x)(hm:X.mg x=some (.ref f))(hk:PySem.W.keepIn X.K (.ref f)=true)(hb:Binds X.K fd ps ds)(hd:Vals dvs ds)(hx:Passes CX X E)
 (ha:PA X (e::es) t) (JN:(x==("__debug__":Str))=false:=by decide) (he:starEach (e::es) X.env=(false,eval e X.env)::starEach es X.env:=by rfl) (qJ:(backTo pos (starEach es X.env)).any (·.1)=false:=by rfl):
 PE X (.Call (.Name x p) (e::es) [] pos) (uj sp dvs E t):=by
 intro pins s σ H Q I h
 refine wpAny_Call_Name_kw (B0 I hg hm ?_ JN)
 refine abN (h₀:=X.base) I.ok.mod.Qv hk (eO (ha pos pins s σ H _ I h) fun us s1⟨vs,H1,I1,r,q⟩=>⟨I1.E1, ?_⟩) he qJ
 exact yB F hr hb hd hx I1 r q
theorem LR{pl:Sem Bool}(he:PE X o ta)(c:tm X.K C)(hm:Meth X.K C m f)(F:bq X.prog X.w X.K X.mg X.base CX k f fd ps sp)(hr:gg k X.A)(hb:Binds X.K fd ps ds)(hd:Vals dvs ds)(hx:Passes CX X E)(ha:PA X (e::es) t)
 (lA:starEach (e::es) X.env=(false,eval e X.env)::starEach es X.env:=by rfl) (qJ:(backTo pos (starEach es X.env)).any (·.1)=false:=by rfl)
 (ht:eval (.Call (.Attribute o m apos) (e::es) [] pos) X.env=(do
  let ov <-eval o X.env
  standAt apos.atName
  let(f,first) <-holding [ov] (getMethod ov m pl)
  callWith pos f first (backTo pos (starEach (e::es) X.env)) (backToKw pos (keywordEach [] X.env))):=by rfl):
 PE X (.Call (.Attribute o m apos) (e::es) [] pos) (Dn C m sp dvs E ta t):=by
 intro pins s σ H Q I h
 refine abL (pl:=pl) (eO (he pins s σ H _ I h) fun u s1⟨x,H1,I1,rx,a,dx,fs,ex,ea,l,q⟩=> ?_) ht
 subst ex
 obtain rfl:u=Value.ref a:=rx
 refine tw I1 ea c hm l ?_
 refine abN (first:=[.ref a]) (h₀:=X.base) I.ok.mod.Qv hm.kp (eO (ha pos pins s1 σ H1 _ I1 q) fun us s2⟨vs,H2,I2,r,q2⟩=>⟨I2.E1, ?_⟩) lA qJ
 exact yB (us:= .ref a::us) (vs:= .ref a::vs) F hr hb hd hx I2 (.cons rfl r) q2
theorem JO{pl:Sem Bool}(he:PE X o ta)(c:tm X.K C)(hm:Meth X.K C m f)(F:bq X.prog X.w X.K X.mg X.base CX k f fd ps sp)(hr:gg k X.A)(hb:Binds X.K fd ps ds)(hd:Vals dvs ds)(hx:Passes CX X E)
 (ht:eval (.Call (.Attribute o m apos) [] [] pos) X.env=(do
  let ov <-eval o X.env
  standAt apos.atName
  let(f,first) <-holding [ov] (getMethod ov m pl)
  callWith pos f first (backTo pos (starEach [] X.env)) (backToKw pos (keywordEach [] X.env))):=by rfl):
 PE X (.Call (.Attribute o m apos) [] [] pos) (Dn C m sp dvs E ta lW):=by
 intro pins s σ H Q I h
 refine abL (pl:=pl) (eO (he pins s σ H _ I h) fun u s1⟨x,H1,I1,rx,a,dx,fs,ex,ea,l,q⟩=> ?_) ht
 subst ex
 obtain rfl:u=Value.ref a:=rx
 refine tw I1 ea c hm l ?_
 exact PySem.W.callWith_K0 (first:=[.ref a]) I1.E1 hm.kp (yB (us:=[.ref a]) (vs:=[.ref a]) F hr hb hd hx I1 (.cons rfl .nil) q)
structure Mk(K:PySem.W.Frag)(C f:Addr):Prop where
 makes:PySem.W.makesIn K C=true
 init:PySem.W.findIn K (.ref C) "__init__"=some (some (.ref f))
 fn:PySem.W.isFn K (.ref f)=true
 kp:PySem.W.keepIn K (.ref C)=true
theorem JP{pins:List (Addr×Obj)}{σ:St}{H:Hp}{s:Shared}{Q:VK}{us:List Value}{vs:List V}(M:Mk X.K C f)(F:bq X.prog X.w X.K X.mg X.base CX k f fd ps sp)(hr:gg (k+1) X.A)(hb:Binds X.K fd ps ds)(hd:Vals dvs ds)
 (hx:Passes CX X E) (I:Inv X pins σ H s) (r:Vals vs us)
 (h:∀x dx,H x=none->H dx=none->dx≠x->sp (.ref x::(vs++dvs)) (upd (upd H dx (.own x)) x (.ins C dx [])) (fun v H2=>v= .dR/\Q (.ref x) H2) E):
 wpAny (model X.prog X.w) X.A (call (.ref C) us) (EP X pins σ Q) X.xe s:=by
 have hq:=h (s.heap.objs.size+1) s.heap.objs.size (I.dD.fresh (abO _)) (I.dD.fresh (abB _)) (abg (Nat.lt_succ_self _))
 have I2:=Inv.made (C:=C) I
 have r2:Vals (V.ref (s.heap.objs.size+1)::(vs++dvs)) (Value.ref (s.heap.objs.size+1)::(us++ds)):= .cons rfl (r.append hd)
 have hl:(Value.ref (s.heap.objs.size+1)::us++ds).length=ps.length:=by
  have e:=r2.length
  rw[F.len _ _ _ _ hq]at e
  exact e.symm
 refine wpAny_call (JK (f:=f) I.E1 M.makes M.init (beq_iff_eq.mp M.fn) (codeAny_mono (F.run _ X.stack _ _ ⟨Value.ref (s.heap.objs.size+1)::us,[]⟩ (Value.ref (s.heap.objs.size+1)::(us++ds)) _ _ E (hr.make C us [])
  (I2.Rl.make C us []) (hb _ (Value.ref (s.heap.objs.size+1)::us) I2.E1 hl) r2 hq) fun r s' Og=> ?_))
 cases r with
 |error e=>exact hx pins σ _ _ e s' I2 Og
 |ok fl=>
  cases fl with
  |ret u=>
   obtain⟨v,H',I3,rv,ev,q3⟩:=I2.after Og
   subst ev
   exact⟨rv,⟨V.ref (s.heap.objs.size+1),H',I3,U,q3⟩⟩
  |next=>exact False.elim Og
  |brk=>exact False.elim Og
  |cont=>exact False.elim Og
theorem LS(M:Mk X.K C f)(F:bq X.prog X.w X.K X.mg X.base CX k f fd ps sp)(hr:gg (k+1) X.A)(hg:Gl X x)(hm:X.mg x=some (.ref C))(hb:Binds X.K fd ps ds)(hd:Vals dvs ds)(hx:Passes CX X E)
 (ha:PA X (e::es) t) (JN:(x==("__debug__":Str))=false:=by decide) (he:starEach (e::es) X.env=(false,eval e X.env)::starEach es X.env:=by rfl) (qJ:(backTo pos (starEach es X.env)).any (·.1)=false:=by rfl):
 PE X (.Call (.Name x p) (e::es) [] pos) (AZ C sp dvs E t):=by
 intro pins s σ H Q I h
 refine wpAny_Call_Name_kw (B0 I hg hm ?_ JN)
 refine abN (h₀:=X.base) I.ok.mod.Qv M.kp (eO (ha pos pins s σ H _ I h) fun us s1⟨vs,H1,I1,r,q⟩=>⟨I1.E1, ?_⟩) he qJ
 exact JP M F hr hb hd hx I1 r q
end
def PK(X:Cx)(Rm:List Keyword)(t:TA):Prop:=
 ∀(pos:Pos)(pins:List (Addr×Obj))(s:Shared)(σ:St)(H:Hp)(Q:List V->Hp->Prop),Inv X pins σ H s->t σ H Q->wpAny (model X.prog X.w) X.A (evalAll ((backToKw pos (keywordEach Rm X.env)).map (·.2))) (AP X pins σ Q) X.xe s
section
variable{X:Cx}{CX:HP}{k:Nat}{f C:Addr}{fd:FuncData}{ps ks:List Str}{sp:Sp}{E:XK}{x m:Str}{p pos apos Ff:Pos}{e o:Expr}{es:List Expr}{Rm:List Keyword}{te ta:TE}{t tk:TA}{nm:Option Str}
theorem Oh:PK X [] lW:=fun _ _ _ _ H Q I h=>wpAny_evalAll_nil ⟨[],H,I, .nil,h⟩
theorem LU(ha:PE X e te)(hr:PK X Rm t):PK X (⟨nm,e,Ff⟩::Rm) (cK te t):=by
 intro pos pins s σ H Q I h
 show wpAny _ _ (evalAll ((do let v <-eval e X.env;standAt pos;pure v)::(backToKw pos (keywordEach Rm X.env)).map (·.2))) _ _ s
 refine wpAny_evalAll_cons (wpAny_bind (eO (ha pins s σ H _ I h) fun u s1⟨x,H1,I1,r1,q1⟩=>wpAny_bind (wpAny_standAt (wpAny_pure ?_))))
 exact eO (hr pos pins s1 σ H1 _ I1 q1) fun us s2⟨xs,H2,I2,r2,q2⟩=>⟨x::xs,H2,I2, .cons r1 r2,q2⟩
variable{g:List Value->List Value->List Value}{gV:List V->List V->List V}
end
structure aB(N P:List Str)(sc:Scope):Prop where
 kind:sc.kind= .function
 co:sc.isCoroutine=false
 gen:sc.isGenerator=false
 nd:N.Nodup
 pre:N.take P.length=P
 par:∀x∈P,sc.names.lookup x=some .local\/sc.names.lookup x=some .cell
 Oi:∀y∈sc.names,y.2≠ .free
theorem A0{kindOf:Str->Option NameKind}{x:Str}:∀{binds:List (Str×Value)}{m:Str->Option Value},(∀v,(x,v)∉binds)->bindL kindOf binds m x=m x
 |[],_,_=>rfl
 |(n,v)::r,m,h=>by
  unfold bindL
  rw[A0 fun w hw=>h w (abn _ hw)]
  split
  . have:x≠n:=by rintro rfl;exact h v abm
    simp[this]
  rfl
theorem A9{kindOf:Str->Option NameKind}{x:Str}:∀{binds:List (Str×Value)}{m:Str->Option Value},(∀v,(x,v)∉binds)->bindC kindOf binds m x=m x
 |[],_,_=>rfl
 |(n,v)::r,m,h=>by
  unfold bindC
  rw[A9 fun w hw=>h w (abn _ hw)]
  split
  . rfl
  have:x≠n:=by rintro rfl;exact h v abm
  simp[this]
theorem Ba{kindOf:Str->Option NameKind}{x:Str}{v:Value}:∀{P:List Str}{vs:List Value}{i:Nat}{m:Str->Option Value},P.Nodup->P[i]?=some x->vs[i]?=some v->kindOf x=some .local->
 bindL kindOf (P.zip vs) m x=some v
 |[],_,_,_,_,h,_,_=>by simp at h
 |_::_,[],_,_,_,_,h,_=>by simp at h
 |p::P,w::vs,0,m,nd,h1,h2,hk=>by
  simp at h1 h2;subst h1;subst h2
  show bindL kindOf ((p,w)::P.zip vs) m p=_
  unfold bindL
  rw[A0 fun v hv=>(abP.mp nd).1 (List.of_mem_zip hv).1,if_pos hk]
  simp
 |p::P,w::vs,i+1,m,nd,h1,h2,hk=>by
  show bindL kindOf ((p,w)::P.zip vs) m x=_
  unfold bindL
  exact Ba (i:=i) (abP.mp nd).2 (by simpa using h1) (by simpa using h2) hk
theorem Bb{kindOf:Str->Option NameKind}{x:Str}{v:Value}:∀{P:List Str}{vs:List Value}{i:Nat}{m:Str->Option Value},P.Nodup->P[i]?=some x->vs[i]?=some v->kindOf x≠some .local->
 bindC kindOf (P.zip vs) m x=some v
 |[],_,_,_,_,h,_,_=>by simp at h
 |_::_,[],_,_,_,_,h,_=>by simp at h
 |p::P,w::vs,0,m,nd,h1,h2,hk=>by
  simp at h1 h2;subst h1;subst h2
  show bindC kindOf ((p,w)::P.zip vs) m p=_
  unfold bindC
  rw[A9 fun v hv=>(abP.mp nd).1 (List.of_mem_zip hv).1,if_neg hk]
  simp
 |p::P,w::vs,i+1,m,nd,h1,h2,hk=>by
  show bindC kindOf ((p,w)::P.zip vs) m x=_
  unfold bindC
  exact Bb (i:=i) (abP.mp nd).2 (by simpa using h1) (by simpa using h2) hk
noncomputable def start(N:List Str)(vs:List V):St:=vs.map some++List.replicate (N.length-vs.length) none
noncomputable def HQ(CX:HP)(P:Program)(w:World)(K:PySem.W.Frag)(mg:Str->Option Value)(base:Heap)(N:List Str)(qual:Str)(scope:Scope)(f:Addr)(cd:Value)(A:Around)(outer:List Env)(s:Shared)(H:Hp)(E:XK):Cx where
 prog:=P
 w:=w
 K:=K
 mg:=mg
 base:=base
 A:=A.deeper (envOfC qual scope s.heap.objs.size f cd)
 N:=N
 AR:=s
 Qw:=H
 env:=envOfC qual scope s.heap.objs.size f cd
 outer:=outer
 stack:=envOfC qual scope s.heap.objs.size f cd::outer
 ex:=[]
 calm:=true
 fn:=fun _=>true
 pn:=[]
 xe:=fun e s'=>wpAny (model P w) (A.deeper (envOfC qual scope s.heap.objs.size f cd)) (leaving (envOfC qual scope s.heap.objs.size f cd) e) (fun _ Nu=>CX outer H s E e Nu) (fun e' Nu=>CX outer H s E e' Nu) s'
theorem Dq{sc:Scope}{n:Nat}{x:Str}(h:sc.names.lookup x=some .cell):∃c,(cellsFrom n sc.names []).lookup x=some c:=by
 have q:=PySem.W.cellsFrom_some sc.names n [] (.inl h)
 exact abQ.mp q
theorem HR{CX:HP}{P:Program}{w:World}{K:PySem.W.Frag}{mg:Str->Option Value}{base:Heap}{N ps:List Str}{qual:Str}{scope:Scope}{f:Addr}{cd:Value}{A:Around}{outer:List Env}{s s1:Shared}{H:Hp}{E:XK}{us:List Value}{vs:List V}
 (S:aB N ps scope) (hd:A.handled=none) (e0:Dm P w K mg base A outer s H) (hl:vs.length=ps.length) (r:Vals vs us)
 (x:InCallC s s.heap.objs.size (bindL (envOfC qual scope s.heap.objs.size f cd).kindOf (ps.zip us) fun _=>none) (cellsFrom (s.heap.objs.size+1) scope.names []) (bindC (envOfC qual scope s.heap.objs.size f cd).kindOf (ps.zip us) fun _=>none) s1):
 Inv (HQ CX P w K mg base N qual scope f cd A outer s H E) [] (start N vs) H s1:=by
 have qJ:ps.length<=N.length:=by have:=congrArg List.length S.pre;rw[abR]at this;lia
 obtain⟨h1,tk,rfl,hk⟩:=x.done
 have Nv:∀b:Addr,b∉(HQ CX P w K mg base N qual scope f cd A outer s H E).ex:=fun b z=>absurd (show b∈([]:List Addr)from z) (by simp)
 refine⟨⟨e0.mod,S.kind,U,U,abB _,fun y z c h1 h2=> ?_,fun y hy=> ?_,fun y c _ h=> ?_,fun _=>hd,Around.frames_deeper e0.frames, .inr ⟨U,U⟩,fun b z=>absurd z (Nv b),e0.bs,e0.Jv,fun b _ _=>Nv b,fun b z=>absurd z (Nv b),e0.vx,e0.Nq⟩,
  rfl,e0.bare,Un.kept hk,⟨_,x.toInCall.ns,fun i y v h1 h2 h3=> ?_⟩,fun y c h=>⟨_,x.cell y c h⟩,e0.dD.fresh (abB _),fun y c h=> ?_,fun p hp=>absurd (show p∈([]:List (Addr×Obj))from hp) (by simp),e0.dD.kept hk, ?_⟩
 . exact name_of_addr x.apart (abS h1) (abS h2)
 . have hy:scope.names.lookup y=some .cell\/scope.names.lookup y=some .free:=hy
   rcases hy with hy|hy
   . exact Dq hy
   exact absurd rfl (S.Oi _ (abS hy))
 . exact Nat.le_of_lt (x.above y c (abS h))
 . have hi:i<vs.length:=by
    unfold start at h2
    by_cases hi:i<vs.length
    . exact hi
    rw[abT (by simpa using hi)]at h2
    rw[List.getElem?_replicate]at h2
    split at h2<;>cases h2
   have ha:vs[i]?=some v:=by
    unfold start at h2
    rw[abU (by simpa using hi),abV]at h2
    cases e:vs[i]?with
    |none=>rw[e]at h2;cases h2
    |some a=>rw[e]at h2;cases h2;rfl
   obtain⟨u,hu,rv⟩:=r.get ha
   have hp:ps[i]?=some y:=by
    rw[<-S.pre,List.getElem?_take_of_lt (by lia)];exact h1
   have XF:ps.Nodup:=by rw[<-S.pre];exact S.nd.sublist (List.take_sublist _ _)
   refine⟨u,rv, ?_⟩
   rcases S.par y (abW hp)with k|k
   . exact .inl ⟨k,Ba XF hp hu k⟩
   obtain⟨c,e⟩:=Dq (n:=s.heap.objs.size+1) k
   refine .inr ⟨.inl k,c,e, ?_⟩
   have q:=x.cell y c e
   rw[Bb XF hp hu (by show scope.names.lookup y≠_;rw[k];decide)]at q
   exact q
 . exact e0.dD.fresh (Nat.le_of_lt (x.above y c (abS h)))
 unfold start
 show _=N.length
 rw[abX,abI,List.length_replicate]
 lia
theorem Rn{CX:HP}{P:Program}{w:World}{K:PySem.W.Frag}{mg:Str->Option Value}{base:Heap}{k:Nat}{f:Addr}{name qual:Str}{params:Arguments}{body:List Stmt}{scope:Scope}{dV kV doc pm dz ct oc:Value}{an od:Option Addr}
 {B3:Array (Option Value)} {N ps:List Str} {sp:Sp} (lk:K.lookup f=some ⟨oc,od, .func (PySem.W.fnOf name qual params body scope dV kV doc pm an dz ct),B3⟩) (Ls:PySem.W.codeIn K dz qual=true) (S:aB N ps scope)
 (len:∀vs H Q E,sp vs H Q E->vs.length=ps.length)
 (JQ:∀(A:Around)(outer:List Env)(s:Shared)(H:Hp)(vs:List V)(Q:VK)(E:XK),gg k (A.deeper (envOfC qual scope s.heap.objs.size f dz))->sp vs H Q E->
  ∃t,HH (HQ CX P w K mg base N qual scope f dz A outer s H E) body t/\t {nx:=fun _ H'=>Q .dR H',rt:=Q} (start N vs) H):
 bq P w K mg base CX (k+1) f (PySem.W.fnOf name qual params body scope dV kV doc pm an dz ct) ps sp:=by
 refine⟨len,fun A outer s H args us vs Q E hr e0 hb r EX=> ?_⟩
 have hl:=len _ _ _ _ EX
 have KX:K.In s.heap:=e0.mod.Qv.keeps fun b o e=>(e0.bs b o e).1
 have lim:s.heap.NoLimit:=e0.mod.nolimit.keeps fun b o e=>(e0.bs b o e).1
 have Ro:∀y∈ps.zip us,scope.names.lookup y.1=some .local\/(scope.names.lookup y.1=some .cell/\((cellsFrom (s.heap.objs.size+1) scope.names []).lookup y.1).isSome=true):=fun⟨n,v⟩hy=>by
  rcases S.par n (List.of_mem_zip hy).1 with q|q
  . exact .inl q
  exact .inr ⟨q,PySem.W.cellsFrom_some _ _ _ (.inl q)⟩
 refine codeAny_call_function hr.depth (KX _ _ lk) rfl S.co S.gen rfl (PySem.W.codeRec_of KX Ls) (hb _ _ _ _ ?_)
 refine wpAny_newFunctionEnv_cells S.kind Ro fun env he s1 x=> ?_
 subst he
 refine⟨lim.keeps x.toInCall.keep,codeAny_func ?_⟩
 obtain⟨t,ht,hq⟩:=JQ A outer s H vs Q E (hr.deeper _) EX
 have I:Inv (HQ CX P w K mg base N qual scope f dz A outer s H E) [] (start N vs) H s1:=HR S hr.hd e0 hl r x
 refine wpAny_mono (ht [] s1 (start N vs) H _ I hq) (fun fl s' hs=> ?_) fun e s' hs=>hs
 have fin:∀{ff:St}{H':Hp}{v:V}{u:Value},Inv (HQ CX P w K mg base N qual scope f dz A outer s H E) [] ff H' s'->RelV v u->Q v H'->CE outer P w H s Q u s':=
  fun{ff H' v u}J rv q=>⟨v,H',J.os,J.bare,J.base,J.dD,rv,q⟩
 cases fl with
 |ret u=>
  obtain⟨v,ff,H',J,rv,q⟩:=hs
  exact fin J rv q
 |next=>
  obtain⟨ff,H',J,q⟩:=hs
  exact fin (v:=V.dR) (u:=Value.none) J rfl q
 |brk=>
  obtain⟨_,_,_,q⟩:=hs
  exact False.elim q
 |cont=>
  obtain⟨_,_,_,q⟩:=hs
  exact False.elim q
end L2
namespace L2
open PySem PySem.Spec PyProof.Rows
section
variable{X:Cx}{x:Str}{p pos:Pos}{e:Expr}{es:List Expr}{t:TA}{id T:String}{r:List V->Hp->VK->Prop}
def XG(r:List V->Hp->VK->Prop)(t:TA):TE:=fun σ H Q=>t σ H fun vs H1=>r vs H1 Q
theorem aP(hc:wx X (.builtin id) r)(hg:Gl X x)(hm:X.mg x=none)(hv:bootBuiltins x=some (.builtin id))(ha:PA X (e::es) t)(hn:x≠"__name__":=by decide)(JN:(x==("__debug__":Str))=false:=by decide)
 (he:starEach (e::es) X.env=(false,eval e X.env)::starEach es X.env:=by rfl) (qJ:(backTo pos (starEach es X.env)).any (·.1)=false:=by rfl):PE X (.Call (.Name x p) (e::es) [] pos) (XG r t):=by
 intro pins s σ H Q I h
 refine wpAny_Call_Name_kw (qz I hg hm hv ?_ hn JN)
 exact PyProof.Rows.callWith_builtin1 (eO (ha pos pins s σ H _ I h) fun us s1⟨vs,H1,I1,r1,q1⟩=>hc pins s1 σ H1 vs us Q I1 r1 q1) he qJ
theorem Bc(hc:wx X (.type T) r)(hg:Gl X x)(hm:X.mg x=none)(hv:bootBuiltins x=some (.type T))(ha:PA X (e::es) t)(hn:x≠"__name__":=by decide)(JN:(x==("__debug__":Str))=false:=by decide)
 (he:starEach (e::es) X.env=(false,eval e X.env)::starEach es X.env:=by rfl) (qJ:(backTo pos (starEach es X.env)).any (·.1)=false:=by rfl):PE X (.Call (.Name x p) (e::es) [] pos) (XG r t):=by
 intro pins s σ H Q I h
 refine wpAny_Call_Name_kw (qz I hg hm hv ?_ hn JN)
 exact abC (eO (ha pos pins s σ H _ I h) fun us s1⟨vs,H1,I1,r1,q1⟩=>hc pins s1 σ H1 vs us Q I1 r1 q1) he qJ
end
end L2
namespace HT
open PySem PyProof.Rows
section
open PySem.SeqAt
open PySem.AutoSeq1 (wpAny_loadPart')
open PySem.MeetsSeq PySem.MeetsSeq2 PySem.MeetsSeq3
end
section
variable{prog:Program}{w:World}{A:Around}{E:Value->Shared->Prop}{s:Shared}
noncomputable def Bd(n d:Nat):Option Int->Nat
 |none=>d
 |some v=>if v<0 then(v+(n:Int)).toNat else min v.toNat n
theorem LV(n d k:Nat):Bd n d (some (k:Int))=min k n:=by
 show(if(k:Int)<0 then((k:Int)+(n:Int)).toNat else min (k:Int).toNat n)=min k n
 rw[if_neg (by lia),abY]
end
end HT
namespace L2
open PySem PySem.Spec PyProof.Rows
abbrev TO:=St->Hp->(Option Int->Hp->Prop)->Prop
def PO(X:Cx)(e:Option Expr)(t:TO):Prop:=
 ∀(pins:List (Addr×Obj))(s:Shared)(σ:St)(H:Hp)(Q:Option Int->Hp->Prop),Inv X pins σ H s->t σ H Q->
  wpAny (model X.prog X.w) X.A (evalPart e X.env) (fun u s'=>∃o H',Inv X pins σ H' s'/\IsPart u o/\Q o H') X.xe s
def LW:TO:=fun _ H Q=>Q none H
def Rp(t:TE):TO:=fun σ H Q=>t σ H fun x H1=>∃i,x= .int i/\Q (some i) H1
section
variable{X:Cx}{e:Expr}{te:TE}{lo hi:Option Expr}{tl th:TO}{pos p2:Pos}
theorem xX:PO X none LW:=by
 intro pins s σ H Q I h
 rw[evalPart_none]
 exact wpAny_pure ⟨none,H,I, .none,h⟩
theorem j8(h:PE X e te):PO X (some e) (Rp te):=by
 intro pins s σ H Q I hw
 rw[evalPart_some]
 refine eO (h pins s σ H _ I hw) fun u s1⟨x,H1,I1,r1,q1⟩=> ?_
 obtain⟨i,rfl,q⟩:=q1
 obtain⟨t,rfl⟩:=r1
 exact⟨some i,H1,I1, .int i t,q⟩
def XH(X:Cx)(r:V->Option Int->Option Int->Hp->VK->Prop):Prop:=
 ∀(pins:List (Addr×Obj))(s:Shared)(σ:St)(H:Hp)(x:V)(v vl vu:Value)(lo hi:Option Int)(sl:Addr)(Q:VK),Inv X pins σ H s->RelV x v->s.heap.IsSliceOf sl vl vu .none->IsPart vl lo->IsPart vu hi->r x lo hi H Q->
  ∃T id,typeLookup (.type T) "__getitem__"=pure (some (.builtin id))/\s.TypeIs v T/\wpAny (model X.prog X.w) X.A (getItem v (.ref sl)) (EP X pins σ Q) X.xe s
def YO(r:V->Option Int->Option Int->Hp->VK->Prop)(te:TE)(tl th:TO):TE:=fun σ H Q=>te σ H fun x H1=>tl σ H1 fun l H2=>th σ H2 fun u H3=>r x l u H3 Q
theorem lX{r:V->Option Int->Option Int->Hp->VK->Prop}(hr:XH X r)(he:PE X e te)(hl:PO X lo tl)(hu:PO X hi th):PE X (.Subscript e (.Slice lo hi none p2) pos) (YO r te tl th):=by
 intro pins s σ H Q I h
 refine Subscript_ (eO (he pins s σ H _ I h) fun v s1⟨x,H1,I1,r1,q1⟩=> ?_)
 refine wpAny_Slice (eO (hl pins s1 σ H1 _ I1 q1) fun vl s2⟨l,H2,I2,pl,q2⟩=>eO (hu pins s2 σ H2 _ I2 q2) fun vu s3⟨u,H3,I3,pu,q3⟩=> ?_)
 rw[evalPart_none]
 refine wpAny_pure ?_
 have I4:Inv X pins σ H3 {s3 with heap:=s3.heap.push {cls:= .type "slice",data:= .fields #[vl,vu, .none]}}:=I3.kept (t':=s3.toks) fun b ob q=>abz _ q
 obtain⟨T,id,hT,ht,hg⟩:=hr pins {s3 with heap:=s3.heap.push {cls:= .type "slice",data:= .fields #[vl,vu, .none]}} σ H3 x v vl vu l u s3.heap.objs.size Q I4 r1 (Heap.IsSliceOf.new ..) pl pu q3
 show wpAny (model X.prog X.w) X.A (subscriptTail e (.Slice lo hi none p2) v (.ref s3.heap.objs.size)) (EP X pins σ Q) X.xe {s3 with heap:=s3.heap.push {cls:= .type "slice",data:= .fields #[vl,vu, .none]}}
 exact tail_any (ops:=[.ref s3.heap.objs.size,v]) ht hT hg (by with_unfolding_all rfl)
def lB(xs:List V)(lo hi:Option Int):List V:=(xs.drop (HT.Bd xs.length 0 lo)).take (HT.Bd xs.length xs.length hi-HT.Bd xs.length 0 lo)
theorem Dr(xs:List V)(lo hi:Option Int):(lB xs lo hi).length<=xs.length:=by
 unfold lB
 rw[abR,List.length_drop]
 lia
end
end L2
namespace L2
open PySem PySem.Spec PyProof.Rows
noncomputable def JR(n:Nat)(i:Int):Option Nat:=if 0<=i then(if i<n then some i.toNat else none)else if -(n:Int)<=i then some (i+n).toNat else none
def oJ{α:Type}(xs:List α)(i:Int):Option α:=(JR xs.length i).bind fun j=>xs[j]?
theorem GL{n:Nat}{i:Int}{j:Nat}(h:JR n i=some j):seqIndex? i n=some j/\j<n/\ -(n:Int)<=i/\i<n:=by
 unfold JR at h
 by_cases h0:0<=i
 . rw[if_pos h0]at h
   by_cases h1:i<n
   . rw[if_pos h1]at h
     have e:i.toNat=j:=Option.some.inj h
     exact⟨by rw[seqIndex_of h0 h1,e],by lia,by lia,h1⟩
   rw[if_neg h1]at h;cases h
 rw[if_neg h0]at h
 by_cases h1: -(n:Int)<=i
 . rw[if_pos h1]at h
   have e:(i+n).toNat=j:=Option.some.inj h
   exact⟨by rw[seqIndex_neg (by lia) h1,e],by lia,h1,by lia⟩
 rw[if_neg h1]at h;cases h
theorem GN{α:Type}{xs:List α}{i:Int}{v:α}(h:oJ xs i=some v):∃j,seqIndex? i xs.length=some j/\xs[j]?=some v/\j<xs.length/\ -(xs.length:Int)<=i/\i<xs.length:=by
 unfold oJ at h
 cases e:JR xs.length i with
 |none=>rw[e]at h;cases h
 |some j=>
  rw[e]at h
  obtain⟨h1,h2,h3,h4⟩:=GL e
  exact⟨j,h1,h,h2,h3,h4⟩
theorem LX{α:Type}{xs:List α}{j:Nat}{v:α}(h:xs[j]?=some v):oJ xs (j:Int)=some v:=by
 have hj:j<xs.length:=(abt.mp h).1
 have e:JR xs.length (j:Int)=some j:=by
  unfold JR
  rw[if_pos (by lia),if_pos (by lia)];simp
 unfold oJ;rw[e];exact h
def LY(b:Expr):Prop:=∀o i,subscripted b false o i=operate [o,i] (getItem o i)
def Vj(X:Cx)(r:R2):Prop:=
 ∀(value slice:Expr)(pins:List (Addr×Obj))(s:Shared)(σ:St)(H:Hp)(x y:V)(v u:Value)(Q:VK),Inv X pins σ H s->RelV x v->RelV y u->r x y H Q->
  subscripted slice false v u=operate [v,u] (getItem v u)->wpAny (model X.prog X.w) X.A (subscriptTail value slice v u) (EP X pins σ Q) X.xe s
def Vk(X:Cx)(id:String)(r:V->List V->Hp->VK->Prop):Prop:=
 ∀(pins:List (Addr×Obj))(s:Shared)(σ:St)(H:Hp)(x:V)(xs:List V)(v:Value)(us:List Value)(Q:VK),Inv X pins σ H s->RelV x v->Vals xs us->r x xs H Q->
  wpAny (model X.prog X.w) X.A (call (.builtin id) (v::us)) (EP X pins σ Q) X.xe s
section
variable{X:Cx}{a b:Expr}{ta tb:TE}{pos:Pos}
theorem aM{r:R2}(hr:Vj X r)(ha:PE X a ta)(hb:PE X b tb)(hs:LY b):PE X (.Subscript a b pos) (xr r ta tb):=by
 intro pins s σ H Q I h
 exact Subscript_ (Ob ha hb I h fun v u s2 x y H2 I2 rx ry q=>hr a b pins s2 σ H2 x y v u Q I2 rx ry q (hs _ _))
def Ai(K:PySem.W.Frag):R2:=fun x y H Q=>∃p xs i v,x= .ref p/\y= .int i/\aW K H p xs/\oJ xs i=some v/\Q v H
def Vl(K:PySem.W.Frag):R2:=fun x y H Q=>∃p xs i v,x= .ref p/\y= .int i/\xq K H p xs/\oJ xs i=some v/\Q v H
theorem ax:Vj X (Ai X.K):=by
 intro value slice pins s σ H x y v u Q I rx ry h hs
 obtain⟨p,xs,i,z,rfl,rfl,hq,he,q⟩:=h
 cases rx
 obtain⟨t,rfl⟩:=ry
 obtain⟨bp,r,pl,hz⟩:=I.list hq
 obtain⟨j,h1,h2,h3,h4,h5⟩:=GN he
 obtain⟨w,ew,Rq⟩:=r.get h2
 have hl:=r.length
 have hn:=yy
 have fin:EP X pins σ Q w s:=⟨z,H,I,Rq,q⟩
 by_cases h0:0<=i
 . have hj:i.toNat=j:=by
    rw[seqIndex_of h0 h5]at h1
    exact Option.some.inj h1
   exact item_listR pl.isList h0 (by lia) (by rw[hj];simpa using ew) fin hs
 have hj:(i+(bp.toArray.size:Int)).toNat=j:=by
  rw[seqIndex_neg (by lia) h4]at h1
  rw[abZ,<-hl]
  exact Option.some.inj h1
 exact subscriptTail_builtinR (x:=w) pl.isList.typeIs slot_list_getitem.lookup
  (wpAny_getItem_list_neg (Q:=fun r s'=>r=w/\EP X pins σ Q r s') pl.isList (by lia) (by rw[abZ]<;>lia) (by lia) (by rw[hj];simpa using ew) ⟨rfl,fin⟩) hs
theorem Fh:Vj X (Vl X.K):=by
 intro value slice pins s σ H x y v u Q I rx ry h hs
 obtain⟨p,xs,i,z,rfl,rfl,hq,he,q⟩:=h
 cases rx
 obtain⟨t,rfl⟩:=ry
 obtain⟨bp,r,pl,hz⟩:=I.tuple hq
 obtain⟨j,h1,h2,h3,h4,h5⟩:=GN he
 obtain⟨w,ew,Rq⟩:=r.get h2
 have hl:=r.length
 have hn:=yy
 have fin:EP X pins σ Q w s:=⟨z,H,I,Rq,q⟩
 exact subscriptTail_builtinR (x:=w) pl.typeIs slot_tuple_getitem.lookup
  (getItem_tuple (j:=j) (Q:=fun r s'=>r=w/\EP X pins σ Q r s') pl (by lia) (by lia) (by rw[abZ,<-hl];exact h1) (by simpa using ew) ⟨rfl,fin⟩) hs
theorem Fi(bp:List Value)(n j:Nat)(u:Value):Obj.mapSeq (·.setIfInBounds j u) {cls:= .type "list",data:= .seq bp.toArray n}={cls:= .type "list",data:= .seq (bp.set j u).toArray n}:=by
 simp[Obj.mapSeq]
theorem Inv.lst {pins:List (Addr×Obj)} {σ:St} {H:Hp} {s:Shared} {p:Addr} {xs:List V} (I:Inv X pins σ H s) (h:H p=some (.lst xs)):
 ∃(bp:List Value)(n:Nat),Vals xs bp/\s.heap.get? p=some {cls:= .type "list",data:= .seq bp.toArray n}/\xs.length<=sizeLine:=by
 obtain⟨z,bp,n,r,e⟩:=I.dD p _ h
 exact⟨bp,n,r,e,z⟩
theorem Inv.Oj {pins:List (Addr×Obj)} {σ:St} {H:Hp} {s:Shared} {p:Addr} {xs ys:List V} {bp its':List Value} {n n':Nat} {f:Obj->Obj} (I:Inv X pins σ H s) (h:H p=some (.lst xs))
 (ho:s.heap.get? p=some {cls:= .type "list",data:= .seq bp.toArray n}) (hf:f {cls:= .type "list",data:= .seq bp.toArray n}={cls:= .type "list",data:= .seq its'.toArray n'}) (r:Vals ys its') (hz:ys.length<=sizeLine) (t:Nat):
 Inv X pins σ (upd H p (.lst ys)) {s with heap:=s.heap.update p f,toks:=t}:=by
 have e:(s.heap.update p f).get? p=some {cls:= .type "list",data:= .seq its'.toArray n'}:=by
  rw[Heap.get?_update_self f ho (by rw[hf]<;>rfl),hf]
 refine I.write (x:=p) (e:=p) (by rw[h];trivial) (.inl rfl) (fun b u hb q=>(Heap.get?_update_other _ _ (abp hb)).trans q) ⟨_,e⟩ ?_
 exact⟨hz,its',n',r,e⟩
def Rr:V->V->V->Hp->(Hp->Prop)->Prop:=fun o i v H Q=>∃p xs k j,o= .ref p/\i= .int k/\H p=some (.lst xs)/\JR xs.length k=some j/\Q (upd H p (.lst (xs.set j v)))
theorem set_list:N6 X Rr:=by
 intro pins s σ H o i v ov iv u Q I ro ri rv h
 obtain⟨p,xs,k,j,rfl,rfl,hp,hj,q⟩:=h
 cases ro
 obtain⟨t,rfl⟩:=ri
 obtain⟨bp,n,r,ho,hz⟩:=I.lst hp
 obtain⟨h1,h2,h3,h4⟩:=GL hj
 have hl:=r.length
 have hn:=yy
 have I':Inv X pins σ (upd H p (.lst (xs.set j v))) {s with heap:=s.heap.update p (Obj.mapSeq (·.setIfInBounds j u))}:=
  I.Oj hp ho (Fi bp n j u) (r.set rv j) (by rw[ab0];exact hz) s.toks
 by_cases h0:0<=k
 . have hk:k.toNat=j:=by
    rw[seqIndex_of h0 h4]at h1
    exact Option.some.inj h1
   exact PySem.W.ki_setAt ho h0 (by lia) (by rw[abZ,<-hl];exact h4) (by rw[hk];exact⟨_,I',q⟩)
 have hk:(k+(bp.toArray.size:Int)).toNat=j:=by
  rw[seqIndex_neg (by lia) h3]at h1
  rw[abZ,<-hl]
  exact Option.some.inj h1
 exact PySem.W.ki_setBack ho (by lia) (by rw[abZ,<-hl];exact h3) (by lia) (by rw[hk];exact⟨_,I',q⟩)
theorem B4(lo hi:Option Int)(n:Nat):(sliceBounds lo hi none n).1=((HT.Bd n 0 lo:Nat):Int)/\(sliceBounds lo hi none n).2.1=((HT.Bd n n hi:Nat):Int)/\(sliceBounds lo hi none n).2.2=1:=by
 refine⟨?_, ?_,U⟩
 . cases lo with
   |none=>simp[sliceBounds,HT.Bd]
   |some i=>
    simp only[sliceBounds,HT.Bd,Option.getD_none,show(1:Int)>0 by decide,if_true]
    by_cases h:i<0
    . simp only[h,if_true]<;>lia
    simp only[h,if_false]<;>lia
 cases hi with
 |none=>simp[sliceBounds,HT.Bd]
 |some i=>
  simp only[sliceBounds,HT.Bd,Option.getD_none,show(1:Int)>0 by decide,if_true]
  by_cases h:i<0
  . simp only[h,if_true]<;>lia
  simp only[h,if_false]<;>lia
theorem Aj(bp:List Value)(lo hi:Option Int):slicePick bp.toArray lo hi none=((bp.drop (HT.Bd bp.length 0 lo)).take (HT.Bd bp.length bp.length hi-HT.Bd bp.length 0 lo)).toArray:=by
 obtain⟨h1,h2,h3⟩:=B4 lo hi bp.toArray.size
 unfold slicePick
 rw[h1,h2,h3]
 simp only[sliceRange_one,pick_run,abZ]<;>rfl
def Vm(K:PySem.W.Frag):V->Option Int->Option Int->Hp->VK->Prop:=fun x lo hi H Q=>∃a xs,x= .ref a/\aW K H a xs/\∀p,H p=none->Q (.ref p) (upd H p (.lst (lB xs lo hi)))
theorem oO:XH X (Vm X.K):=by
 intro pins s σ H x v vl vu lo hi sl Q I rx hs pl pu h
 obtain⟨a,xs,rfl,hx,q⟩:=h
 cases rx
 obtain⟨bp,r,ht,hz⟩:=I.list hx
 have hlen:=r.length
 refine⟨"list",_,slot_list_getitem.lookup,ht.isList.typeIs, ?_⟩
 refine wpAny_getItem_list_slice ht.isList hs pl pu .none (by simp) ?_ (by rw[abZ]<;>lia)
 rw[Aj,<-hlen]
 refine⟨.ref s.heap.objs.size,_,I.laid (t':=s.toks) (o:= .lst (lB xs lo hi)) (fun b ob q=>abz _ q) (abB _) ?_,U,q _ (I.dD.fresh (abB _))⟩
 exact⟨abk (Dr xs lo hi) hz,_,0,(r.drop (HT.Bd xs.length 0 lo)).take (HT.Bd xs.length xs.length hi-HT.Bd xs.length 0 lo),abA _ rfl⟩
theorem aD:wx X (.builtin "len") (fun xs H Q=>∃p ys,xs=[.ref p]/\(aW X.K H p ys\/xq X.K H p ys)/\Q (.int ys.length) H):=by
 intro pins s σ H xs us Q I r h
 obtain⟨p,ys,rfl,hq,q⟩:=h
 obtain⟨u,rfl,rx⟩:=vals1 r
 cases rx
 have hn:=yy
 rcases hq with hq|hq
 . obtain⟨bp,r',pl,hz⟩:=I.list hq
   have hlen:=r'.length
   exact Calls.call_len_list pl.isList (by simp only[abZ]<;>lia) ⟨.int ys.length,H,I.tok _,⟨s.toks+1,by rw[abZ,hlen]⟩,q⟩
 obtain⟨bp,r',pl,hz⟩:=I.tuple hq
 have hlen:=r'.length
 exact len_tuple pl (by simp only[abZ]<;>lia) ⟨.int ys.length,H,I.tok _,⟨s.toks+1,by rw[abZ,hlen]⟩,q⟩
theorem uk:wx X (.type "list") (fun xs H Q=>∃p ys,xs=[.ref p]/\(aW X.K H p ys\/xq X.K H p ys)/\∀l,H l=none->Q (.ref l) (upd H l (.lst ys))):=by
 intro pins s σ H xs us Q I r h
 obtain⟨p,ys,rfl,hq,q⟩:=h
 obtain⟨u,rfl,rx⟩:=vals1 r
 cases rx
 have fin:∀(bp:List Value),Vals ys bp->ys.length<=sizeLine->∀(h':Heap)(c':Nat),(∀b o',s.heap.get? b=some o'->h'.get? b=some o')->
  h'.get? s.heap.objs.size=some {cls:= .type "list",dict:=none,data:= .seq bp.toArray c',slots:= #[]}->EP X pins σ Q (.ref s.heap.objs.size) {s with heap:=h'}:=fun bp r' hz h' c' kp e=>
  ⟨.ref s.heap.objs.size,_,I.laid (t':=s.toks) kp (abB _) (show i4 X.prog X.w _ h' _ (.lst ys)from⟨hz,bp,c',r',e⟩),rfl,q _ (I.dD.fresh (abB _))⟩
 rcases hq with hq|hq
 . obtain⟨bp,r',pl,hz⟩:=I.list hq
   have hlen:=r'.length
   obtain⟨o,ho,hc,n,hd⟩:=pl.isList
   exact call_list_seq p (.inl rfl) ho hc hd (fun h' c' kp e=>fin bp r' hz h' c' kp e) (by simp only[abZ]<;>lia)
 obtain⟨bp,r',pl,hz⟩:=I.tuple hq
 have hlen:=r'.length
 obtain⟨o,ho,hc,n,hd⟩:=pl
 exact call_list_seq p (.inr rfl) ho hc hd (fun h' c' kp e=>fin bp r' hz h' c' kp e) (by simp only[abZ]<;>lia)
def Vn(K:PySem.W.Frag)(T:String)(x:V)(H:Hp):Prop:=match x with
 | .str _=>T="str"
 | .int _=>T="int"
 | .ref p=>(T="list"/\∃xs,aW K H p xs)\/(T="tuple"/\∃o,K.lookup p=some o/\o.cls= .type "tuple"/\o.dict=none)\/
  (T="dict"/\((∃BZ,H p=some (.dK BZ))\/∃BZ,H p=some (.dT BZ)))\/(T="set"/\∃S n,H p=some (.set S n))
 |_=>False
theorem JS{pins:List (Addr×Obj)}{σ:St}{H:Hp}{s:Shared}{T:String}{x:V}{v:Value}(I:Inv X pins σ H s)(r:RelV x v)(ty:Vn X.K T x H):
 s.TypeIs v T/\∀a,v= .ref a->∃ob,s.heap.get? a=some ob/\ob.dict=none:=by
 cases x with
 |str z=>
  obtain⟨t,rfl⟩:=r
  cases(show T="str"from ty)
  exact⟨typeIs_str s z t,fun _ e=>nomatch e⟩
 |int i=>
  obtain⟨t,rfl⟩:=r
  cases(show T="int"from ty)
  exact⟨typeIs_int s i t,fun _ e=>nomatch e⟩
 |ref p=>
  cases r
  rcases ty with⟨rfl,xs,hq⟩|⟨rfl,o,hk,hc,hd⟩|⟨rfl,hk⟩|⟨rfl,S,n,hk⟩
  . obtain⟨bp,_,pl,_⟩:=I.list hq
    refine⟨pl.isList.typeIs,fun a e=> ?_⟩
    cases e
    obtain⟨o,n,e,c,hd,_⟩:=pl
    exact⟨o,e,hd⟩
  . refine⟨⟨o,I.E1 p o hk,hc⟩,fun a e=> ?_⟩
    cases e
    exact⟨o,I.E1 _ o hk,hd⟩
  . have z:∃o,s.heap.get? p=some o/\o.ExactDict:=by
     rcases hk with⟨BZ,hk⟩|⟨BZ,hk⟩
     . obtain⟨_,_,_,_,o,_,_,e,ex,_⟩:=I.dD p _ hk
       exact⟨o,e,ex⟩
     obtain⟨_,_,_,_,o,_,_,e,ex,_⟩:=I.dD p _ hk
     exact⟨o,e,ex⟩
    obtain⟨o,e,ex⟩:=z
    refine⟨⟨o,e,ex.1⟩,fun a e2=> ?_⟩
    cases e2
    exact⟨o,e,ex.2.1⟩
  obtain⟨o,_,_,_,e,ex,_⟩:=I.dD p _ hk
  refine⟨⟨o,e,ex.1⟩,fun a e2=> ?_⟩
  cases e2
  exact⟨o,e,ex.2.1⟩
 |_=>exact False.elim ty
def Vo(K:PySem.W.Frag)(T:String)(r:V->List V->Hp->VK->Prop)(to:TE):TE:=fun σ H Q=>to σ H fun x H1=>Vn K T x H1/\r x [] H1 Q
def Ue(K:PySem.W.Frag)(T:String)(r:V->List V->Hp->VK->Prop)(to:TE)(t:TA):TE:=fun σ H Q=>to σ H fun x H1=>Vn K T x H1/\t σ H1 fun xs H2=>r x xs H2 Q
variable{o e:Expr}{es:List Expr}{to:TE}{t:TA}{name:Str}{apos yC:Pos}{T id:String}{r:V->List V->Hp->VK->Prop}
theorem JT(pa:PlainAttrs T)(slot:Slot T name id)(Vp:typeOf (.builtin id)=pure (.type "method_descriptor"))(hm:Vk X id r)(ho:PE X o to)
 (JU:attributeBase o name X.env (eval o X.env)=eval o X.env:=by rfl) (JV:(apos.endLine==yC.line)=true:=by rfl):PE X (.Call (.Attribute o name apos) [] [] yC) (Vo X.K T r to):=by
 intro pins s σ H Q I h
 refine wpAny_Call_method0_late JU JV (eO (ho pins s σ H _ I h) fun v s1⟨x,H1,I1,r1,ty,q1⟩=> ?_)
 obtain⟨h1,h2⟩:=JS I1 r1 ty
 exact⟨T,id,pa,slot,Vp,h1,h2,Calls.callWith_builtin rfl (PySem.evalArgs_none (hm pins s1 σ H1 x [] v [] Q I1 r1 .nil q1))⟩
theorem k0(pa:PlainAttrs T)(slot:Slot T name id)(Vp:typeOf (.builtin id)=pure (.type "method_descriptor"))(hm:Vk X id r)(ho:PE X o to)(ha:PA X (e::es) t)
 (JU:attributeBase o name X.env (eval o X.env)=eval o X.env:=by rfl)
 (Vq:((backTo yC (starEach (e::es) X.env)).all (fun x=> !x.1)&&(backToKw yC (keywordEach [] X.env)).all (fun x=>x.1.isSome)
  &&decide ((e::es).length+([]:List Keyword).length+(if([]:List Keyword).isEmpty then 0 else 1)<30))=true:=by rfl)
 (JV:(apos.endLine==yC.line)=true:=by rfl) (hs:starEach (e::es) X.env=(false,eval e X.env)::starEach es X.env:=by rfl) (Fj:(backTo yC (starEach es X.env)).any (·.1)=false:=by rfl):
 PE X (.Call (.Attribute o name apos) (e::es) [] yC) (Ue X.K T r to t):=by
 intro pins s σ H Q I h
 refine wpAny_Call_method_late JU Vq JV rfl (eO (ho pins s σ H _ I h) fun v s1⟨x,H1,I1,r1,ty,q1⟩=> ?_)
 obtain⟨h1,h2⟩:=JS I1 r1 ty
 refine⟨T,id,pa,slot,Vp,h1,h2, ?_⟩
 have hA:=ha yC pins s1 σ H1 _ I1 q1
 rw[hs]at hA⊢
 refine Calls.callWith_builtin (by show(false||(backTo yC (starEach es X.env)).any (·.1))=false;rw[Fj]<;>rfl) (Calls.evalArgs_plain ?_)
 exact eO hA fun us s2⟨vs,H2,I2,r2,q2⟩=>hm pins s2 σ H2 x vs v us Q I2 r1 r2 q2
end
end L2
namespace L2
open PySem PySem.Spec PyProof.Rows
def Vr(X:Cx)(id:String)(r:V->List V->Hp->VK->Prop):Prop:=
 ∀(pins:List (Addr×Obj))(s:Shared)(σ:St)(H:Hp)(x:V)(xs:List V)(v:Value)(us:List Value)(Q:VK),Inv X pins σ H s->RelV x v->Vals xs us->r x xs H Q->
  wpAny (model X.prog X.w) X.A (call (.builtin id) (v::us)) (EP X pins σ Q) X.xe s
theorem Vals.one:∀{x:V}{us:List Value},Vals [x] us->∃u,us=[u]/\RelV x u
 |_,_, .cons r .nil=>⟨_,rfl,r⟩
theorem Vals.zero:∀{us:List Value},Vals [] us->us=[]
 |_, .nil=>rfl
theorem Vals.dropLast {xs:List V} {us:List Value} (h:Vals xs us):Vals xs.dropLast us.dropLast:=by
 induction h with
 |nil=>exact .nil
 |cons r t ih=>
  cases t with
  |nil=>exact .nil
  |cons q t'=>exact .cons r ih
theorem Fl{α:Type}(l:List α):l.eraseIdx (l.length-1)=l.dropLast:=by
 induction l with
 |nil=>rfl
 |cons a r ih=>
  cases r with
  |nil=>rfl
  |cons b r=>
   have e:(a::b::r).length-1=((b::r).length-1)+1:=by
    have h1:(a::b::r).length=r.length+2:=rfl
    have h2:(b::r).length=r.length+1:=rfl
    lia
   rw[e,List.eraseIdx_cons_succ,ih]
   all_goals rfl
section
variable{X:Cx}{pins:List (Addr×Obj)}{σ:St}{H:Hp}{s:Shared}{l b:Addr}{xs ys zs:List V}
theorem Inv.Ol {bp its':List Value} {n:Nat} {f:Array Value->Array Value} {t':Nat} (I:Inv X pins σ H s) (hH:H l=some (.lst xs))
 (e:s.heap.get? l=some {cls:= .type "list",data:= .seq bp.toArray n}) (hf:f bp.toArray=its'.toArray) (hv:Vals ys its') (hz:ys.length<=sizeLine):
 Inv X pins σ (upd H l (.lst ys)) {s with heap:=s.heap.update l (Obj.mapSeq f),toks:=t'}:=by
 have q:=PySem.IsL.update e f
 rw[hf]at q
 refine I.write (x:=l) (e:=l) (by rw[hH];exact trivial) (.inl rfl) (fun b' u hb hu=>(Heap.get?_update_other s.heap (Obj.mapSeq f) (abp hb)).trans hu) ⟨_,q⟩ ?_
 exact⟨hz,its',_,hv,q⟩
theorem Inv.Vs {bp:List Value} {t':Nat} (I:Inv X pins σ H s) (hv:Vals ys bp) (hz:ys.length<=sizeLine):
 Inv X pins σ (upd H s.heap.objs.size (.lst ys)) {s with heap:=s.heap.push {cls:= .type "list",data:= .seq bp.toArray},toks:=t'}:=
 I.laid (fun _ _ q=>abz _ q) (abB _) ⟨hz,bp,0,hv,abA _ rfl⟩
theorem Inv.fresh (I:Inv X pins σ H s):H s.heap.objs.size=none:=I.dD.fresh (abB _)
theorem Inv.HS (I:Inv X pins σ H s) (hH:H l=some (.lst xs)):xs.length<=sizeLine/\∃(bp:List Value)(n:Nat),Vals xs bp/\xs.length=bp.length/\s.heap.get? l=some {cls:= .type "list",data:= .seq bp.toArray n}:=by
 obtain⟨z,bp,n,r,e⟩:=I.dD l _ hH
 exact⟨z,bp,n,r,r.length,e⟩
theorem JW{n:Nat}(h:n<=sizeLine):Builtin.List.listTooLong n=false:=by
 unfold Builtin.List.listTooLong
 exact decide_eq_false (by lia)
end
section
variable{X:Cx}
def xY:V->List V->Hp->VK->Prop:=fun x vs H Q=>∃l xs y,x= .ref l/\vs=[y]/\H l=some (.lst xs)/\xs.length<sizeLine/\Q .dR (upd H l (.lst (xs++[y])))
theorem fu:Vr X "list.append" xY:=by
 intro pins s σ H x vs v us Q I rx rv h
 obtain⟨l,xs,y,rfl,rfl,hH,hz,q⟩:=h
 cases rx
 obtain⟨u,rfl,ru⟩:=rv.one
 obtain⟨z,bp,n,r,hl,e⟩:=I.HS hH
 refine call_meets F.slot_list_append ⟨_,e,rfl⟩ F.entry_list_append (F.args_list_append_2 _ _) (PySem.list_append l bp.toArray n u (by rw[abZ];lia)) ⟨e, ?_⟩
 refine⟨.dR,_,I.Ol (its':=bp++[u]) hH e (by simp) (r.append (.cons ru .nil)) ?_,U,q⟩
 rw[abX,ab1]
 lia
def LZ:V->List V->Hp->VK->Prop:=fun x vs H Q=>∃l b xs zs,x= .ref l/\vs=[.ref b]/\H l=some (.lst xs)/\H b=some (.lst zs)/\xs.length+zs.length<=sizeLine/\Q .dR (upd H l (.lst (xs++zs)))
theorem n9:Vr X "list.extend" LZ:=by
 intro pins s σ H x vs v us Q I rx rv h
 obtain⟨l,b,xs,zs,rfl,rfl,hH,hB,hz,q⟩:=h
 cases rx
 obtain⟨u,rfl,ru⟩:=rv.one
 cases ru
 obtain⟨z,bp,n,r,hl,e⟩:=I.HS hH
 obtain⟨z2,Fn,n2,r2,Lv,e2⟩:=I.HS hB
 have hsz:bp.toArray.size+Fn.toArray.size<=sizeLine:=by rw[abZ,abZ];lia
 have Rt:¬(!bp.toArray.isEmpty&&Builtin.List.listTooLong (bp.toArray.size+Fn.toArray.size))=true:=by
  rw[JW hsz,ab2]
  exact abx
 refine call_meets F.slot_list_extend ⟨_,e,rfl⟩ F.entry_list_extend (F.args_list_extend_2 _ _)
  (AutoSeq1.list_extend_list_list_0 l bp.toArray n b Fn.toArray n2 Rt (by rw[abZ];lia) (by lia)) ⟨e,e2, ?_⟩
 refine⟨.dR,_,I.Ol (its':=bp++Fn) hH e (by simp) (r.append r2) ?_,U,q⟩
 rw[abX]
 lia
def Vt:V->List V->Hp->VK->Prop:=fun x vs H Q=>∃l xs y,x= .ref l/\vs=[]/\H l=some (.lst xs)/\xs[xs.length-1]?=some y/\Q y (upd H l (.lst xs.dropLast))
theorem Om:Vr X "list.pop" Vt:=by
 intro pins s σ H x vs v us Q I rx rv h
 obtain⟨l,xs,y,rfl,rfl,hH,hy,q⟩:=h
 cases rx
 have YQ:=rv.zero
 subst YQ
 obtain⟨z,bp,n,r,hl,e⟩:=I.HS hH
 obtain⟨u,hu,ru⟩:=r.get hy
 have YR:bp.toArray[bp.toArray.size-1]?=some u:=by
  show bp.toArray[bp.length-1]?=some u
  rw[<-Array.getElem?_toList,<-hl]
  exact hu
 refine call_meets F.slot_list_pop ⟨_,e,rfl⟩ F.entry_list_pop (F.args_list_pop_1 _) (MeetsSeq.list_pop_last l bp.toArray n u YR (by rw[abZ];lia)) ⟨e, ?_⟩
 refine⟨y,_,I.Ol (its':=bp.dropLast) hH e ?_ r.dropLast ?_,ru,q⟩
 . show bp.toArray.eraseIdxIfInBounds (bp.toArray.size-1)=bp.dropLast.toArray
   rw[abZ,List.eraseIdxIfInBounds_toArray,Fl]
 rw[List.length_dropLast]
 lia
def JX:R2:=fun x y H Q=>∃l b xs zs,x= .ref l/\y= .ref b/\H l=some (.lst xs)/\H b=some (.lst zs)/\xs.length+zs.length<=sizeLine/\∀p,H p=none->Q (.ref p) (upd H p (.lst (xs++zs)))
theorem lY:xW X (binaryOp .Add) JX:=by
 intro pins s σ H x y v u Q I rx ry h
 obtain⟨l,b,xs,zs,rfl,rfl,hH,hB,hz,q⟩:=h
 cases rx
 cases ry
 obtain⟨z,bp,n,r,hl,e⟩:=I.HS hH
 obtain⟨z2,Fn,n2,r2,Lv,e2⟩:=I.HS hB
 refine PySem.P.add_list e e2 ?_ (by rw[abZ,abZ];lia)
 have ea:bp.toArray++Fn.toArray=(bp++Fn).toArray:=by simp
 rw[ea]
 exact⟨.ref _,_,I.Vs (t':=s.toks) (r.append r2) (by rw[abX];lia),U,q _ I.fresh⟩
end
section
variable{prog:Program}{w:World}{A:Around}{E:Value->Shared->Prop}{s:Shared}
set_option maxRecDepth 100000 in
end
section
variable{X:Cx}
end
end L2
namespace L2
open PySem PySem.Spec PyProof.Rows
theorem Vals.ints:∀{ns:List Int}{us:List Value},Vals (ns.map V.int) us->IntsAre us ns
 |[],us,h=>by
  rw[List.map_nil]at h
  cases h
  exact IntsAre.nil
 |n::ns,us,h=>by
  rw[abH]at h
  cases h with
  |cons r t=>
   obtain⟨k,rfl⟩:=r
   exact IntsAre.cons n k (Vals.ints t)
theorem um:∀{us:List Value}{ns:List Int},IntsAre us ns->Vals (ns.map V.int) us
 |_,_, .nil=>by rw[List.map_nil];exact Paired.nil
 |_,_, .cons n t h=>by rw[abH];exact Paired.cons (show RelV (V.int n) (Value.int n t)from⟨t,rfl⟩) (um h)
theorem Vals.L0 {a:Addr} {us:List Value} (r:Vals [V.ref a] us):us=[Value.ref a]:=by
 cases r with
 |cons r t=>
  cases t
  cases r
  rfl
section
variable{prog:Program}{w:World}{A:Around}{E:Value->Shared->Prop}{s:Shared}{l:Addr}{bp:List Value}{ns:List Int}{Q:Value->Shared->Prop}
theorem L1(hh:A.handled=none)(hl:s.heap.IsList l bp.toArray)(hi:IntsAre bp ns)(ir:0<ns.length)
 (h:∀h' tk M t',(∀b o,s.heap.get? b=some o->h'.get? b=some o)->M∈ns->(∀a,a∈ns->a<=M)->Q (.int M t') {s with heap:=h',toks:=tk}):wpAny (model prog w) A (call (.builtin "max") [.ref l]) Q E s:=by
 obtain⟨xs,e⟩:=hi.allInts.items
 have hn:numsOf (intItems xs).toList=ns:=by rw[<-e];exact hi.numsOf
 rw[nums_intItems]at hn
 subst hn
 rw[e]at hl
 have hsz:0<xs.size:=by simpa using ir
 refine PySem.max_intList hh hl hsz fun v h' tk hv hk=> ?_
 obtain⟨t,rfl⟩:=intItems_at hv
 obtain⟨h1,h2⟩:=argBest_gt (numAt xs) (xs.size-1)
 refine h h' tk _ t hk ?_ fun a ha=> ?_
 . rw[numAt_eq];exact PySem.getD_mem (by rw[abI,abw];lia)
 obtain⟨j,hj,rfl⟩:=mem_getD ha
 rw[abI,abw]at hj
 rw[<-numAt_eq];exact h2 j (by lia)
theorem L3(hh:A.handled=none)(hl:s.heap.IsList l bp.toArray)(hi:IntsAre bp ns)(ir:0<ns.length)
 (h:∀h' tk M t',(∀b o,s.heap.get? b=some o->h'.get? b=some o)->M∈ns->(∀a,a∈ns->M<=a)->Q (.int M t') {s with heap:=h',toks:=tk}):wpAny (model prog w) A (call (.builtin "min") [.ref l]) Q E s:=by
 obtain⟨xs,e⟩:=hi.allInts.items
 have hn:numsOf (intItems xs).toList=ns:=by rw[<-e];exact hi.numsOf
 rw[nums_intItems]at hn
 subst hn
 rw[e]at hl
 have hsz:0<xs.size:=by simpa using ir
 refine PySem.min_intList hh hl hsz fun v h' tk hv hk=> ?_
 obtain⟨t,rfl⟩:=intItems_at hv
 obtain⟨h1,h2⟩:=argBest_lt (numAt xs) (xs.size-1)
 refine h h' tk _ t hk ?_ fun a ha=> ?_
 . rw[numAt_eq];exact PySem.getD_mem (by rw[abI,abw];lia)
 obtain⟨j,hj,rfl⟩:=mem_getD ha
 rw[abI,abw]at hj
 rw[<-numAt_eq];exact h2 j (by lia)
end
section
variable{X:Cx}
def Vu(K:PySem.W.Frag):List V->Hp->VK->Prop:=fun vs H Q=>∃(a:Addr)(ns:List Int),vs=[V.ref a]/\aW K H a (ns.map V.int)/\0<ns.length/\∀m,m∈ns->(∀y,y∈ns->y<=m)->Q (.int m) H
def Vv(K:PySem.W.Frag):List V->Hp->VK->Prop:=fun vs H Q=>∃(a:Addr)(ns:List Int),vs=[V.ref a]/\aW K H a (ns.map V.int)/\0<ns.length/\∀m,m∈ns->(∀y,y∈ns->m<=y)->Q (.int m) H
theorem Oo(hc:X.calm=true):wx X (.builtin "max") (Vu X.K):=by
 intro pins s σ H vs us Q I r h
 obtain⟨a,ns,rfl,hs,ir,q⟩:=h
 obtain⟨bp,rv,hl,_⟩:=I.list hs
 rw[Vals.L0 r]
 exact L1 (I.ok.hd hc) hl.isList rv.ints ir fun h' tk m t' hk h1 h2=>⟨.int _,H,I.kept hk,⟨_,rfl⟩,q m h1 h2⟩
theorem Oq(hc:X.calm=true):wx X (.builtin "min") (Vv X.K):=by
 intro pins s σ H vs us Q I r h
 obtain⟨a,ns,rfl,hs,ir,q⟩:=h
 obtain⟨bp,rv,hl,_⟩:=I.list hs
 rw[Vals.L0 r]
 exact L3 (I.ok.hd hc) hl.isList rv.ints ir fun h' tk m t' hk h1 h2=>⟨.int _,H,I.kept hk,⟨_,rfl⟩,q m h1 h2⟩
end
section
variable{X:Cx}
end
section
variable{X:Cx}
end
section
variable{X:Cx}
end
mutual
inductive Dp(K:PySem.W.Frag)(H:Hp):V->PyData->Prop
 |dR:Dp K H .dR .none
 |bl (b:Bool):Dp K H (.bl b) (.bool b)
 |int (i:Int):Dp K H (.int i) (.int i)
 |str (x:Str):Dp K H (.str x) (.str x)
 |lst {a:Addr} {xs:List V} {ds:List PyData}:aW K H a xs->yD K H xs ds->Dp K H (.ref a) (.list ds)
 |tup {a:Addr} {xs:List V} {ds:List PyData}:xq K H a xs->yD K H xs ds->Dp K H (.ref a) (.tuple ds)
inductive yD(K:PySem.W.Frag)(H:Hp):List V->List PyData->Prop
 |nil:yD K H [] []
 |cons {v:V} {vs:List V} {d:PyData} {ds:List PyData}:Dp K H v d->yD K H vs ds->yD K H (v::vs) (d::ds)
end
section
variable{X:Cx}{pins:List (Addr×Obj)}{σ:St}{H:Hp}{s:Shared}
mutual
theorem Dp.reads (I:Inv X pins σ H s):∀(d:PyData)(v:V)(u:Value),Dp X.K H v d->RelV v u->∃as,Reads s.heap u d as
 | .none,_,_,h,r=>by
  cases h
  cases r
  exact⟨_,Reads.none⟩
 | .bool b,_,_,h,r=>by
  cases h
  cases r
  exact⟨_,Reads.bool b⟩
 | .int i,_,_,h,r=>by
  cases h
  obtain⟨t,rfl⟩:=r
  exact⟨_,Reads.int i t⟩
 | .str x,_,_,h,r=>by
  cases h
  obtain⟨t,rfl⟩:=r
  exact⟨_,Reads.str x t⟩
 | .list ds,_,_,h,r=>by
  cases h with
  |lst hs ha=>
   cases r
   obtain⟨bp,rv,⟨o,n,ho,hc,_,hd⟩,_⟩:=I.list hs
   obtain⟨as,hr⟩:=Dp.readsAll I ds _ bp ha rv
   exact⟨_,Reads.list ho hc hd hr⟩
 | .tuple ds,_,_,h,r=>by
  cases h with
  |tup hs ha=>
   cases r
   obtain⟨bp,rv,⟨o,ho,hc,n,hd⟩,_⟩:=I.tuple hs
   obtain⟨as,hr⟩:=Dp.readsAll I ds _ bp ha rv
   exact⟨_,Reads.tuple ho hc hd hr⟩
 | .dict _,_,_,h,_=>by cases h
theorem Dp.readsAll (I:Inv X pins σ H s):∀(ds:List PyData)(vs:List V)(us:List Value),yD X.K H vs ds->Vals vs us->∃as,ReadsAll s.heap us ds as
 |[],_,_,h,r=>by
  cases h
  cases r
  exact⟨_,ReadsAll.nil⟩
 |d::ds,_,_,h,r=>by
  cases h with
  |cons h1 h2=>
   cases r with
   |cons r1 r2=>
    obtain⟨as,q1⟩:=Dp.reads I d _ _ h1 r1
    obtain⟨bs,q2⟩:=Dp.readsAll I ds _ _ h2 r2
    exact⟨_,ReadsAll.cons q1 q2⟩
end
end
section
variable{X:Cx}
def Vw(K:PySem.W.Frag):R2:=fun x y H Q=>∃d e,Dp K H x d/\Dp K H y e/\SeqAt.shaped d=true/\SeqAt.shaped e=true/\Q (.bl (!PyData.eqv d e)) H
theorem Ot(hu:X.A.units+64<cLine):xW X (compareOp .NotEq) (Vw X.K):=by
 intro pins s σ H x y v u Q I rx ry h
 obtain⟨d,e,hd,he,sd,se,q⟩:=h
 obtain⟨as,r1⟩:=Dp.reads I d x v hd rx
 obtain⟨bs,r2⟩:=Dp.reads I e y u he ry
 exact SeqAt.compareNe_shaped r1 r2 sd se hu ⟨.bl _,H,I,rfl,q⟩
end
end L2
namespace L2
open PySem PySem.Spec PyProof.Rows
abbrev JY(h:Heap)(c:Addr)(v:Option Value):Prop:=h.IsCell c v
noncomputable def Vx(scope sc:Scope):Scope:=
 {scope with names:=scope.names.map fun(n,k)=>if(k== .free&&sc.kind== .function&&sc.names.lookup n==some .cell)then(n, .cell)else(n,k)}
noncomputable def dj(cells:List (Str×Addr)):List (Str×NameKind)->List (Str×Addr)->List (Str×Addr)
 |[],acc=>acc
 |(n,k)::r,acc=>if k== .free then dj cells r ((n,(cells.lookup n).getD 0)::acc)else dj cells r acc
theorem uo(env:Env)(f:Str×NameKind->List (Str×Addr)->Sem (ForInStep (List (Str×Addr))))
 (hf:∀n k c,f (n,k) c=if k== .free then(do let a <-cellOf env n;pure (.yield ((n,a)::c)))else pure (.yield c)):
 ∀(names:List (Str×NameKind))(acc:List (Str×Addr)),(∀y∈names,y.2= .free->∃c,env.cells.lookup y.1=some c)->forIn names acc f=pure (dj env.cells names acc)
 |[],acc,_=>by rw[List.forIn_nil];rfl
 |(n,k)::r,acc,h=>by
  rw[List.forIn_cons,hf]
  have ih:=fun acc=>uo env f hf r acc fun y hy=>h y (abn _ hy)
  unfold dj
  by_cases hk:(k==NameKind.free)=true
  . rw[if_pos hk,if_pos hk]
    obtain⟨c,hc⟩:=h (n,k) abm (by simpa using hk)
    have e:cellOf env n=pure c:=by unfold cellOf;rw[hc]
    rw[e]
    have e2:(env.cells.lookup n).getD 0=c:=by rw[hc];rfl
    rw[e2]
    exact ih _
  rw[if_neg hk,if_neg hk]
  exact ih _
theorem Fo{scope:Scope}{env:Env}(h:∀y∈scope.names,y.2= .free->∃c,env.cells.lookup y.1=some c):closureFor scope env=pure (dj env.cells scope.names []):=by
 simp only[closureFor]
 rw[uo env _ (fun n k c=>rfl) scope.names [] h]
 rfl
theorem mem_lookup{α:Type}:∀{l:List (Str×α)}{n:Str}{c:α},(n,c)∈l->∃c',l.lookup n=some c'
 |(k,v)::r,n,c,h=>by
  rw[ab3]
  cases hb:n==k with
  |true=>exact⟨_,rfl⟩
  |false=>
   rcases abo.mp h with e|h
   . cases e;simp at hb
   exact mem_lookup h
theorem mP{cells:List (Str×Addr)}:∀{names:List (Str×NameKind)}{acc:List (Str×Addr)}{n:Str}{c:Addr},(n,c)∈dj cells names acc->(n,c)∈acc\/((n, .free)∈names/\c=(cells.lookup n).getD 0)
 |[],_,_,_,h=> .inl h
 |(m,k)::r,acc,n,c,h=>by
  unfold dj at h
  split at h
  . rename_i hk
    have hk:k= .free:=by simpa using hk
    rcases mP h with h|⟨h1,h2⟩
    . rcases abo.mp h with e|h
      . cases e;exact .inr ⟨hk▸abm,rfl⟩
      exact .inl h
    exact .inr ⟨abn _ h1,h2⟩
  rcases mP h with h|⟨h1,h2⟩
  . exact .inl h
  exact .inr ⟨abn _ h1,h2⟩
theorem qK{cells:List (Str×Addr)}:∀{names:List (Str×NameKind)}{acc:List (Str×Addr)}{p:Str×Addr},p∈acc->p∈dj cells names acc
 |[],_,_,h=>h
 |(m,k)::r,acc,p,h=>by
  unfold dj
  split
  . exact qK (abn _ h)
  exact qK h
theorem qL{cells:List (Str×Addr)}:∀{names:List (Str×NameKind)}{acc:List (Str×Addr)}{n:Str},(n, .free)∈names->(n,(cells.lookup n).getD 0)∈dj cells names acc
 |(m,k)::r,acc,n,h=>by
  unfold dj
  rcases abo.mp h with e|h
  . cases e
    exact qK abm
  split
  . exact qL h
  exact qL h
theorem oe:∀{names:List (Str×NameKind)}{h:Heap}{acc:List (Str×Addr)}{x:Str}{c:Addr},(x,c)∈cellsFrom h.objs.size names acc->
 (x,c)∈acc\/((x, .cell)∈names/\h.objs.size<=c/\JY (pushCells h names) c none)
 |[],_,_,_,_,h=> .inl h
 |(n,k)::r,h,acc,x,c,hm=>by
  unfold cellsFrom at hm
  unfold pushCells
  split at hm
  . rename_i hk
    rw[if_pos hk]
    have hk:k= .cell:=by simpa using hk
    rw[<-abJ h {cls:= .type "cell",data:= .cell none}]at hm
    rcases oe hm with hm|⟨h1,h2,h3⟩
    . rcases abo.mp hm with e|hm
      . cases e
        exact .inr ⟨hk▸abm,abB _,_,pushCells_keeps r _ _ _ (abA _ rfl),rfl⟩
      exact .inl hm
    rw[abJ]at h2
    exact .inr ⟨abn _ h1,ab4 h2,h3⟩
  rename_i hk
  rw[if_neg hk]
  rcases oe hm with hm|⟨h1,h2,h3⟩
  . exact .inl hm
  exact .inr ⟨abn _ h1,h2,h3⟩
theorem sf:∀{names:List (Str×NameKind)}{n:Nat}{acc:List (Str×Addr)}{p:Str×Addr},p∈acc->p∈cellsFrom n names acc
 |[],_,_,_,h=>h
 |(m,k)::r,n,acc,p,h=>by
  unfold cellsFrom
  split
  . exact sf (abn _ h)
  exact sf h
theorem vC:∀{names:List (Str×NameKind)}{n:Nat}{acc:List (Str×Addr)}{x:Str},(x, .cell)∈names->∃c,(x,c)∈cellsFrom n names acc
 |(m,k)::r,n,acc,x,h=>by
  unfold cellsFrom
  rcases abo.mp h with e|h
  . cases e
    exact⟨n,sf abm⟩
  split
  . exact vC h
  exact vC h
theorem vD:∀{names:List (Str×NameKind)}{h:Heap}{acc:List (Str×Addr)}{x y:Str}{c:Addr},(∀p∈acc,p.2<h.objs.size)->(∀x y c,(x,c)∈acc->(y,c)∈acc->x=y)->
 (x,c)∈cellsFrom h.objs.size names acc->(y,c)∈cellsFrom h.objs.size names acc->x=y
 |[],_,_,_,_,_,_,hi,h1,h2=>hi _ _ _ h1 h2
 |(n,k)::r,h,acc,x,y,c,hl,hi,h1,h2=>by
  unfold cellsFrom at h1 h2
  split at h1
  . rename_i hk
    rw[if_pos hk]at h2
    rw[<-abJ h {cls:= .type "cell",data:= .cell none}]at h1 h2
    refine vD (h:=h.push _) (fun p hp=> ?_) (fun x y c a b=> ?_) h1 h2
    . rw[abJ]
      rcases abo.mp hp with rfl|hp
      . exact Nat.lt_succ_self _
      exact ab5 (hl p hp)
    rcases abo.mp a with e|a<;>rcases abo.mp b with e'|b
    . cases e;cases e';rfl
    . cases e;exact absurd (hl _ b) (abf _)
    . cases e';exact absurd (hl _ a) (abf _)
    exact hi _ _ _ a b
  rename_i hk
  rw[if_neg hk]at h2
  exact vD hl hi h1 h2
theorem Ds{M:Model}{A:Around}{E:Value->Shared->Prop}{s:Shared}{scope:Scope}{globals:Addr}{closure:List (Str×Addr)}{qual:Str}{func:Option Addr}{code:Value}{around:Env}{builtins:Addr}{Q:Env->Shared->Prop}
 (h:Q (newEnv scope s.heap.objs.size globals (cellsFrom (s.heap.objs.size+1) scope.names closure) qual func code (some around) builtins)
  {s with heap:=pushCells (s.heap.push {cls:= .type "dict",data:= .dict #[]}) scope.names}):
 wpAny M A (newFunctionEnv scope globals closure [] qual func code (some around) builtins) Q E s:=by
 simp only[newFunctionEnv,Option.isSome_some,if_true]
 refine wpAny_bind (wpAny_alloc ?_)
 refine wpAny_bind (wpAny_layCells _ (fun n k c=>rfl) scope.names closure _ _ ?_)
 rw[show({s with heap:=s.heap.push {cls:= .type "dict",data:= .dict #[]}}:Shared).heap.objs.size=s.heap.objs.size+1 from abJ ..]
 rw[List.forIn_nil]
 exact wpAny_bind (wpAny_pure (wpAny_pure h))
theorem qM{sc:Scope}:∀{names:List (Str×NameKind)}{x:Str}{k:NameKind},
 (names.map fun(n,k)=>if(k==NameKind.free&&sc.kind== .function&&sc.names.lookup n==some .cell)then(n,NameKind.cell)else(n,k)).lookup x=some k->
 ∃k',names.lookup x=some k'/\(k=k'\/(k'= .free/\k= .cell))
 |[],_,_,h=>by simp at h
 |(n,JZ)::r,x,k,h=>by
  have ih:= @qM sc r x k
  have h':List.lookup x ((if(JZ==NameKind.free&&sc.kind== .function&&sc.names.lookup n==some .cell)=true then(n,NameKind.cell)else(n,JZ))::(r.map _))=some k:=h
  cases hx:x==n with
  |true=>
   simp only[ab3,hx]
   by_cases hc:(JZ==NameKind.free&&sc.kind== .function&&sc.names.lookup n==some .cell)=true
   . rw[if_pos hc]at h'
     simp only[ab3,hx]at h'
     cases h'
     simp only[ab6,beq_iff_eq]at hc
     exact⟨JZ,U, .inr ⟨hc.1.1,U⟩⟩
   rw[if_neg hc]at h'
   simp only[ab3,hx]at h'
   cases h'
   exact⟨_,U, .inl rfl⟩
  |false=>
   simp only[ab3,hx]
   by_cases hc:(JZ==NameKind.free&&sc.kind== .function&&sc.names.lookup n==some .cell)=true
   . rw[if_pos hc]at h'
     simp only[ab3,hx]at h'
     exact ih h'
   rw[if_neg hc]at h'
   simp only[ab3,hx]at h'
   exact ih h'
structure Dt(N:List Str)(sc scope:Scope)(own:List (Str×Nat)):Prop where
 kind:scope.kind= .function
 uniq:∀y∈scope.names,scope.names.lookup y.1=some y.2
 ix:∀p∈own,N[p.2]?=some p.1
 free:∀y∈scope.names,y.2= .free->sc.names.lookup y.1=some .cell\/sc.names.lookup y.1=some .free
 own:∀y∈scope.names,y.2= .local\/y.2= .cell->y.1∈own.map (·.1)\/y.1∉N
noncomputable def wipe(σ:St):List Nat->St
 |[]=>σ
 |v::vs=>(wipe σ vs).set v none
theorem qO(σ:St):∀vs:List Nat,(wipe σ vs).length=σ.length
 |[]=>rfl
 |v::vs=>by unfold wipe;rw[ab0,qO σ vs]
theorem vE{σ:St}{i:Nat}{x:V}:∀{vs:List Nat},(wipe σ vs)[i]?=some (some x)->σ[i]?=some (some x)/\i∉vs
 |[],h=>⟨h,by simp⟩
 |v::vs,h=>by
  unfold wipe at h
  by_cases hi:v=i
  . subst hi
    by_cases hv:v<(wipe σ vs).length
    . rw[abu hv]at h;cases h
    rw[ab7 (by simpa using hv)]at h;cases h
  rw[abv hi]at h
  obtain⟨h1,h2⟩:=vE h
  exact⟨h1,by simp only[abo,not_or];exact⟨fun e=>hi e.symm,h2⟩⟩
abbrev Cx.B5 (X:Cx) (s:Shared) (H:Hp) (scope:Scope) (iY:Env) (fp:List Addr):Cx:={X with AR:=s,Qw:=H,env:=iY,outer:=X.stack,ex:=fp,fn:=fun x=>scope.names.lookup x==some .cell,pn:=[],xe:=fun _ _=>False}
section
variable{X:Cx}{pins:List (Addr×Obj)}{σ:St}{H:Hp}{s:Shared}
theorem Du{scope:Scope}{own:List (Str×Nat)}{fp:List Addr}(I:Inv X pins σ H s)(ok:Dt X.N X.env.scope scope own)(hN:X.N.Nodup)(QD:∀b∈fp,n6 X pins H b/\b<s.heap.objs.size):
 Inv (X.B5 s H scope (compEnvC scope (cellsFrom (s.heap.objs.size+1) scope.names (dj X.env.cells scope.names [])) s.heap.objs.size X.env) fp) [] (wipe σ (own.map (·.2))) H {s with heap:=pushCells (s.heap.push {cls:= .type "dict",data:= .dict #[]}) scope.names}:=by
 have AU:∀y∈scope.names,y.2= .free->∃c,X.env.cells.lookup y.1=some c:=fun y hy e=>by
  rcases ok.free y hy e with k|k
  . exact I.ok.has _ (.inl k)
  exact I.ok.has _ (.inr k)
 generalize Dv:compEnvC scope (cellsFrom (s.heap.objs.size+1) scope.names (dj X.env.cells scope.names [])) s.heap.objs.size X.env=iY
 have kp:∀b o,s.heap.get? b=some o->(pushCells (s.heap.push {cls:= .type "dict",data:= .dict #[]}) scope.names).get? b=some o:=fun b o e=>pushCells_keeps _ _ _ _ (abz _ e)
 have hL:iY.locals=s.heap.objs.size:=by rw[<-Dv];rfl
 have GO:iY.cells=cellsFrom (s.heap.objs.size+1) scope.names (dj X.env.cells scope.names []):=by rw[<-Dv];rfl
 have Vy:iY.scope=Vx scope X.env.scope:=by rw[<-Dv];rfl
 rw[<-abJ s.heap {cls:= .type "dict",data:= .dict #[]}]at GO
 have cm:∀{y c},(y,c)∈dj X.env.cells scope.names []->X.env.cells.lookup y=some c/\c<s.heap.objs.size:=fun{y c}hm=>by
  rcases mP hm with hm|⟨h1,rfl⟩
  . cases hm
  obtain⟨c,hc⟩:=AU _ h1 rfl
  rw[hc]
  obtain⟨w,z⟩:=I.cell _ _ hc
  exact⟨U,z.lt⟩
 have mem:∀{y c},iY.cells.lookup y=some c->(X.env.cells.lookup y=some c/\c<s.heap.objs.size)\/(s.heap.objs.size+1<=c/\JY (pushCells (s.heap.push {cls:= .type "dict",data:= .dict #[]}) scope.names) c none):=fun{y c}e=>by
  rw[GO]at e
  rcases oe (abS e)with hm|⟨_,h2,h3⟩
  . exact .inl (cm hm)
  rw[abJ]at h2;exact .inr ⟨h2,h3⟩
 have look:∀{y},scope.names.lookup y=some .free->∃c,iY.cells.lookup y=some c/\X.env.cells.lookup y=some c:=fun{y}hl=>by
  have hy:(y,NameKind.free)∈scope.names:=abS hl
  obtain⟨c',e'⟩:=mem_lookup (sf (names:=scope.names) (n:=(s.heap.push {cls:= .type "dict",data:= .dict #[]}).objs.size) (qL (cells:=X.env.cells) (acc:=[]) hy))
  rw[<-GO]at e'
  refine⟨c',e', ?_⟩
  rw[GO]at e'
  rcases oe (abS e')with hm|⟨h1,_,_⟩
  . exact(cm hm).1
  have:=ok.uniq _ h1
  rw[hl]at this;cases this
 have YS:(X.B5 s H scope iY fp).Ok:=by
  refine⟨I.ok.mod,by show iY.scope.kind=_;rw[Vy];exact ok.kind,by show iY.globals=_;rw[<-Dv];exact I.ok.glob,by show iY.builtins=_;rw[<-Dv];exact I.ok.blt,by show s.heap.objs.size<=iY.locals;rw[hL];exact abB _,
   fun y z c e1 e2=> ?_,fun y hy=> ?_,fun y c z e=> ?_,I.ok.hd,I.ok.frames, .inl rfl,fun b hb=>⟨?_,fun y c e z=> ?_⟩,I.bs,abk I.ok.Jv I.sz,fun b o e hb=> ?_,fun b hb z=> ?_,I.stack,I.Gx⟩
  . have e1:iY.cells.lookup y=some c:=e1
    have e2:iY.cells.lookup z=some c:=e2
    rw[GO]at e1 e2
    refine vD (fun p hp=> ?_) (fun y z c a b=>I.ok.inj y z c (cm a).1 (cm b).1) (abS e1) (abS e2)
    rw[abJ]
    exact ab5 (cm (y:=p.1) (c:=p.2) hp).2
  . show∃c,iY.cells.lookup y=some c
    have key:∀k,iY.kindOf y=some k->(k= .cell\/k= .free)->∃c,iY.cells.lookup y=some c:=fun k hk Ou=>by
     unfold Env.kindOf at hk
     rw[Vy]at hk
     obtain⟨k',e,r⟩:=qM hk
     have:k'= .cell\/k'= .free:=by
      rcases r with rfl|⟨rfl,_⟩
      . exact Ou
      exact .inr rfl
     rcases this with rfl|rfl
     . obtain⟨c,hm⟩:=vC (n:=(s.heap.push {cls:= .type "dict",data:= .dict #[]}).objs.size) (acc:=dj X.env.cells scope.names []) (abS e)
       obtain⟨c',e'⟩:=mem_lookup hm
       exact⟨c',by rw[GO];exact e'⟩
     obtain⟨c,h1,_⟩:=look e
     exact⟨c,h1⟩
    rcases hy with hy|hy
    . exact key _ hy (.inl rfl)
    exact key _ hy (.inr rfl)
  . have z:(scope.names.lookup y==some NameKind.cell)=true:=z
    have z:scope.names.lookup y=some .cell:=by simpa using z
    have e:iY.cells.lookup y=some c:=e
    rw[GO]at e
    rcases oe (abS e)with hm|⟨_,h2,_⟩
    . rcases mP hm with hm|⟨h1,_⟩
      . cases hm
      have q:=ok.uniq _ h1
      rw[z]at q;cases q
    rw[abJ]at h2
    exact ab4 h2
  . show b≠iY.locals
    rw[hL];exact abg (QD b hb).2
  . have e:iY.cells.lookup y=some c:=e
    rcases mem e with⟨h1,_⟩|⟨h1,_⟩
    . exact(QD b hb).1.2.2.2.2.1 y c h1 z
    have h2:s.heap.objs.size+1<=b:=by rw[<-z];exact h1
    exact absurd (abe (QD b hb).2 (ab4 h2)) (abf _)
  . rcases(QD b hb).1.2.2.2.1 with z|z
    . exact I.ok.EZ b o e z
    exact absurd (abe (abd e) (abk I.ok.Jv z)) (abf _)
  rcases abo.mp (I.E2 b z)with z|z
  . exact(QD b hb).1.2.1 z
  exact(QD b hb).1.2.2.1 z
 refine⟨YS,U,I.bare,Un.kept kp,⟨fun _=>none, ?_,fun i y av e1 e2 e3=> ?_⟩,fun y c e=> ?_, ?_,fun y c e=> ?_,fun p hp=> ?_,I.dD.kept kp,by rw[qO];exact I.len⟩
 . show Heap.Ns _ iY.locals _
   rw[hL]
   exact Heap.Ns.keeps (Heap.Ns.new ..) fun b o e=>pushCells_keeps _ _ _ _ e
 . obtain⟨e2,ir⟩:=vE e2
   have Dx:scope.names.lookup y=some .free/\(iY.kindOf y=some .cell\/iY.kindOf y=some .free):=by
    have key:∀k,iY.scope.names.lookup y=some k->k= .local\/k= .cell\/k= .free->scope.names.lookup y=some .free/\(iY.kindOf y=some .cell\/iY.kindOf y=some .free):=fun k hk Ou=>by
     have XI:=hk
     rw[Vy]at hk
     obtain⟨k',e,r⟩:=qM hk
     have no:¬(k'= .local\/k'= .cell):=fun hh=>by
      rcases ok.own _ (abS e) hh with e'|e'
      . obtain⟨p,hp,YT⟩:=ab8.mp e'
        have e3:=ok.ix p hp
        have:p.1=y:=YT
        rw[this]at e3
        exact ir (ab8.mpr ⟨p,hp,yr hN e3 e1⟩)
      exact e' (abW e1)
     rcases r with rfl|⟨rfl,rfl⟩
     . rcases Ou with rfl|rfl|rfl
       . exact absurd (.inl rfl) no
       . exact absurd (.inr rfl) no
       exact⟨e, .inr XI⟩
     exact⟨e, .inl XI⟩
    have e3:Qx iY.scope y:=e3
    rcases e3 with e3|e3|e3
    . exact key _ e3 (.inl rfl)
    . exact key _ e3 (.inr (.inl rfl))
    exact key _ e3 (.inr (.inr rfl))
   obtain⟨m,hn,hl⟩:=I.loc
   have Vz:Qx X.env.scope y:=(ok.free _ (abS Dx.1) rfl).elim (fun k=> .inr (.inl k)) (fun k=> .inr (.inr k))
   obtain⟨w,r,q⟩:=hl i y av e1 e2 Vz
   refine⟨w,r, .inr ⟨Dx.2, ?_⟩⟩
   obtain⟨c,h1,h2⟩:=look Dx.1
   rcases q with⟨k,_⟩|⟨_,c',e',z⟩
   . have k:X.env.scope.names.lookup y=some .local:=k
     rcases ok.free _ (abS Dx.1) rfl with k'|k'<;>rw[show X.env.scope.names.lookup y=_ from k']at k<;>cases k
   rw[h2]at e';cases e'
   exact⟨c,h1,z.keeps kp⟩
 . have e:iY.cells.lookup y=some c:=e
   rcases mem e with⟨h1,_⟩|⟨_,z⟩
   . obtain⟨w,z⟩:=I.cell y c h1
     exact⟨w,z.keeps kp⟩
   exact⟨_,z⟩
 . show H iY.locals=none
   rw[hL];exact I.dD.fresh (abB _)
 . have e:iY.cells.lookup y=some c:=e
   rcases mem e with⟨h1,_⟩|⟨h1,_⟩
   . exact I.nZ y c h1
   exact I.dD.fresh (ab4 h1)
 exact absurd (show p∈([]:List (Addr×Obj))++[]from hp) (by simp)
theorem Ov{E:Value->Shared->Prop}{D:Addr}{xs:List V}{y:V}{v:Value}{Q:Value->Shared->Prop}(I:Inv X pins σ H s)(hD:H D=some (.lst xs))(hz:xs.length<sizeLine)(r:RelV y v)
 (h:∀s',Inv X pins σ (upd H D (.lst (xs++[y]))) s'->Q .none s'):wpAny (model X.prog X.w) X.A (call (.builtin "list.append") [.ref D,v]) Q E s:=by
 obtain⟨hz',bp,n,ri,e⟩:=I.dD D _ hD
 have hl:=ri.length
 refine append_at (hsz:=by rw[abZ];lia) e fun h' sb Jm=> ?_
 refine h {s with heap:=h'} (I.write (t':=s.toks) (by rw[hD];trivial) (.inl rfl) (fun b u hb q=>(sb.2 b hb).trans q) ⟨_,Jm⟩ ⟨by rw[abX];exact hz,bp++[v],n+1,ri.append (.cons r .nil), ?_⟩)
 rw[Jm]
 simp
def Ru(X:Cx)(ifs:List Expr)(t:TT):Prop:=
 ∀(pins:List (Addr×Obj))(s:Shared)(σ:St)(H:Hp)(Q:Bool->Hp->Prop),Inv X pins σ H s->t σ H Q->
  wpAny (model X.prog X.w) X.A (forIn ifs true fun c r=>if r=true then do let ok <-isTrue c X.env (eval c X.env);pure (ForInStep.yield ok)else pure (ForInStep.yield r)) (TP X pins σ Q) X.xe s
def Dy:TT:=fun _ H Q=>Q true H
theorem iu:Ru X [] Dy:=fun _ _ _ H _ I h=>wpAny_tests_nil ⟨H,I,h⟩
theorem B6{c:Expr}{t:TT}(h:PT X c t):Ru X [c] t:=fun pins s σ H Q I hw=>wpAny_tests_one (h pins s σ H Q I hw)
end
theorem HU{α:Type}{t:Sem α}{Q Q':α->Shared->Prop}{M:Model}{A:Around}{E:Value->Shared->Prop}{s:Shared}(h:wpAny M A t Q (fun _ _=>False) s)(hQ:∀a s,Q a s->Q' a s):wpAny M A t Q' E s:=wpAny_mono h hQ fun _ _ z=>False.elim z
theorem B7{prog:Program}{w:World}{A:Around}{R:Result->Shared->Prop}{s:Shared}{elt target iter:Expr}{ifs:List Expr}{scope:Scope}{pos:Pos}{it acc:Value}{env:Env}(I:Nat->Shared->Prop)
 (turn:∀n s,I n s->wpAny (model prog w) A (pyNext it) (fun r bZ=>match r with
  |none=>R (.ok .next) bZ
  |some v=>wpAny (model prog w) A (letOwnedTupleGo target it v) (fun _ Nw=>wpAny (model prog w) A (assign target env v) (fun _ Af=>
   wpAny (model prog w) A (forIn ifs true fun c r=>if r=true then do let ok <-isTrue c env (eval c env);pure (ForInStep.yield ok)else pure (ForInStep.yield r)) (fun ok JD=>
    if ok=true then wpAny (model prog w) A (eval elt env) (fun x Rv=>
     wpAny (model prog w) A (call (.builtin "list.append") [acc,x]) (fun _ Rw=>∃m,m<n/\I m Rw) (notedBy (model prog w) A env fun e s'=>R (.error e) s') Rv) (notedBy (model prog w) A env fun e s'=>R (.error e) s') JD
    else∃m,m<n/\I m JD) (notedBy (model prog w) A env fun e s'=>R (.error e) s') Af) (notedBy (model prog w) A env fun e s'=>R (.error e) s') Nw) (notedBy (model prog w) A env fun e s'=>R (.error e) s') bZ) (notedBy (model prog w) A env fun e s'=>R (.error e) s') s)
 (n:Nat) (h:I n s):
 codeAny (model prog w) A (.compLoop (.ListComp elt [⟨target,iter,ifs,0⟩] scope pos) 0 it acc env) R s:=by
 refine codeAny_loop rfl I (fun n s hI=> ?_) n h
 show wpAny _ A ((compTurn (.ListComp elt [⟨target,iter,ifs,0⟩] scope pos) 0 it acc env).onRaise (fun x=>do noteFrame x env;theTreesLotGoes x)) _ _ s
 refine wpAny_noted ?_
 rw[compTurn_list]
 refine wpAny_bind (wpAny_standAt (wpAny_bind (wpAny_mono (turn n s hI) (fun r bZ Rx=> ?_) fun _ _ h'=>h')))
 cases r with
 |none=>exact wpAny_pure Rx
 |some v=>
  refine wpAny_bind (wpAny_mono Rx (fun _ Nw Ry=> ?_) fun _ _ h'=>h')
  refine wpAny_bind (wpAny_mono Ry (fun _ Af VA=>wpAny_bind (wpAny_mono VA (fun ok JD Rz=> ?_) fun _ _ h'=>h')) fun _ _ h'=>h')
  cases ok with
  |false=>exact wpAny_pure ⟨rfl,Rz⟩
  |true=>
   exact wpAny_bind (wpAny_bind (wpAny_mono Rz (fun x Rv VB=>wpAny_bind (wpAny_mono VB (fun _ Rw VC=>wpAny_pure (wpAny_pure ⟨rfl,VC⟩)) fun _ _ h'=>h')) fun _ _ h'=>h'))
section
variable{X:Cx}
def Ug(wi:TI)(g:TG)(tt:TT)(te:TE)(vs:List Nat):TE:=fun σ H Q=>wi σ H fun J H1=>∀D,H1 D=none->∃W:Nat->Nat->Hp->Prop,(∃m,W 0 m (upd H1 D (.lst [])))/\∀i m H,W i m H->
 (J.stop i H/\Q (.ref D) H)\/(J.go i H/\∃Nx:Hp->Prop,(∀H',Nx H'->∃m',m'<m/\W (i+1) m' H')/\∀x H',J.GD i H x H'->g x (wipe σ vs) H' fun i5 H2=>wipe i5 vs=wipe σ vs/\tt i5 H2 fun b H3=>
  if b=true then te i5 H3 fun y H4=>∃acc,H4 D=some (.lst acc)/\acc.length<sizeLine/\Nx (upd H4 D (.lst (acc++[y])))else Nx H3)
theorem GP{pins:List (Addr×Obj)}{s:Shared}{σ:St}{H:Hp}{Q:VK}{elt tg iter:Expr}{ifs:List Expr}{scope:Scope}{own:List (Str×Nat)}{pos pos':Pos}{wi:TI}{g:TG}{tt:TT}{te:TE}{use:Option (Value->Sem Unit)}{Qf:Value->Shared->Prop}
 (hc:X.calm=true) (hN:X.N.Nodup) (I:Inv X pins σ H s) (hi:PI X tg iter wi) (ok:Dt X.N X.env.scope scope own)
 (hg:∀(s:Shared)(H:Hp)(C:Addr)(cl:List (Str×Addr))(fp:List Addr),PG (X.B5 s H scope (compEnvC scope cl C X.env) fp) tg g) (ht:∀(s:Shared)(H:Hp)(C:Addr)(cl:List (Str×Addr))(fp:List Addr),Ru (X.B5 s H scope (compEnvC scope cl C X.env) fp) ifs tt)
 (he:∀(s:Shared)(H:Hp)(C:Addr)(cl:List (Str×Addr))(fp:List Addr),PE (X.B5 s H scope (compEnvC scope cl C X.env) fp) elt te) (hs:∀x,foldedSetIterable iter X.env x=pure x)
 (h:Ug wi g tt te (own.map (·.2)) σ H Q)
 (YU:∀D C s' m H',Inv X pins σ H' s'->Q (.ref D) H'->s'.heap.Ns C m->n6 X pins H' C->compPost (model X.prog X.w) X.A X.xe use Qf (.ref D) C (.ok .next) s'):
 wpAny (model X.prog X.w) X.A (comprehension (.ListComp elt [⟨tg,iter,ifs,0⟩] scope pos) scope X.env pos' (newList []) false (eval iter X.env) use) Qf X.xe s:=by
 have AU:∀y∈scope.names,y.2= .free->∃c,X.env.cells.lookup y.1=some c:=fun y hy e=>by
  rcases ok.free y hy e with k|k
  . exact I.ok.has _ (.inl k)
  exact I.ok.has _ (.inr k)
 refine wpAny_comprehension_free (use:=use) rfl hs (Fo AU) ok.kind (fun y hy e=>by rw[ok.uniq y hy,e])
  (eO (hi pins s σ H _ I h) fun xv s1 hx=>eO hx fun Va s2 h2=> ?_)
 obtain⟨it,fp,tn,J,H2,e,I2,T,T8,f2,q⟩:=h2
 subst e
 refine wpAny_newObj_type (Ds ?_) (by show 0<=sizeLine;decide)
 generalize hD:s2.heap.objs.size=D
 have YV:H2 D=none:=I2.dD.fresh (abK hD)
 obtain⟨W,⟨m0,w0⟩,turn⟩:=q D YV
 generalize XJ:({s2 with heap:=s2.heap.push {cls:= .type "list",data:= .seq ([]:List Value).toArray}}:Shared)=s3
 have I3:Inv X pins σ (upd H2 D (.lst [])) s3:=by
  rw[<-XJ]
  refine I2.laid (t':=s2.toks) (fun b o e=>abz _ e) (abK hD) ⟨abE _,[],0, .nil, ?_⟩
  rw[<-hD]
  exact abA _ rfl
 have h3:s3.heap=s2.heap.push {cls:= .type "list",data:= .seq ([]:List Value).toArray}:=by rw[<-XJ]
 have sz:∀b∈fp,b<s2.heap.objs.size:=fun b hb=>by
  obtain⟨o,e,_⟩:=T.obj _ _ T8 b hb
  exact abd e
 have f3:∀b∈fp,n6 X pins (upd H2 D (.lst [])) b/\b<s3.heap.objs.size:=fun b hb=>by
  have di:=sz b hb
  refine⟨⟨?_,(f2 b hb).2⟩,by rw[h3,abJ];exact ab5 di⟩
  rw[au (by rw[<-hD];exact abg di)]
  exact(f2 b hb).1
 have T9:tn 0 s3.heap:=T.keep _ _ _ T8 fun b _ o e=>by rw[h3];exact abz _ e
 have I4:=Du I3 ok hN f3
 have pg:=hg s3 (upd H2 D (.lst [])) s3.heap.objs.size (cellsFrom (s3.heap.objs.size+1) scope.names (dj X.env.cells scope.names [])) fp
 have pt:=ht s3 (upd H2 D (.lst [])) s3.heap.objs.size (cellsFrom (s3.heap.objs.size+1) scope.names (dj X.env.cells scope.names [])) fp
 have pe:=he s3 (upd H2 D (.lst [])) s3.heap.objs.size (cellsFrom (s3.heap.objs.size+1) scope.names (dj X.env.cells scope.names [])) fp
 show codeAny _ _ (.compStart (.ListComp elt [⟨tg,iter,ifs,0⟩] scope pos) 0 (.ref it) (.ref D) (compEnvC scope (cellsFrom (s3.heap.objs.size+1) scope.names (dj X.env.cells scope.names [])) s3.heap.objs.size X.env)) (compPost (model X.prog X.w) X.A X.xe use Qf (.ref D) s3.heap.objs.size) {s3 with heap:=pushCells (s3.heap.push {cls:= .type "dict",data:= .dict #[]}) scope.names}
 have XM:∀b∈fp,(upd H2 D (.lst [])) b=none:=fun b hb=>(f3 b hb).1.1
 generalize YW:compEnvC scope (cellsFrom (s3.heap.objs.size+1) scope.names (dj X.env.cells scope.names [])) s3.heap.objs.size X.env=ce at I4 pg pt pe⊢
 have cL:ce.locals=s3.heap.objs.size:=by subst YW;rfl
 generalize hH3:upd H2 D (.lst [])=H3 at I3 I4 pg pt pe w0 XM f3
 generalize YX:({s3 with heap:=pushCells (s3.heap.push {cls:= .type "dict",data:= .dict #[]}) scope.names}:Shared)=s4 at I4⊢
 have XN:tn 0 s4.heap:=T.keep _ _ _ T9 fun b _ o e=>by rw[<-YX];exact pushCells_keeps _ _ _ _ (abz _ e)
 have E7:∀{ff:St}{H':Hp}{s':Shared},Inv (X.B5 s3 H3 scope ce fp) [] ff H' s'->(∀b∈fp,H' b=none)->∀b∈fp,n6 (X.B5 s3 H3 scope ce fp) [] H' b:=fun{ff H' s'}I' hn b hb=>
  ⟨hn b hb,(I'.ok.Q1 b hb).1,I'.ok.HG b hb, .inl hb,fun x c e=>(I'.ok.Q1 b hb).2 x c e,fun p hp=>absurd (show p∈([]:List (Addr×Obj))++[]from hp) (by simp)⟩
 have loop:codeAny (model X.prog X.w) X.A (.compLoop (.ListComp elt [⟨tg,iter,ifs,0⟩] scope pos) 0 (.ref it) (.ref D) ce) (compPost (model X.prog X.w) X.A X.xe use Qf (.ref D) s3.heap.objs.size) s4:=by
  refine B7 (fun n s'=>∃i H',Inv (X.B5 s3 H3 scope ce fp) [] (wipe σ (own.map (·.2))) H' s'/\tn i s'.heap/\(∀b∈fp,H' b=none)/\W i n H') ?_ m0 ⟨0,H3,I4,XN,XM,w0⟩
  rintro n s5 ⟨i,H5,I5,QB,n5,w5⟩
  rcases turn i n H5 w5 with⟨stop,qq⟩|⟨go,Nx,YY,step⟩
  . have td:=T.done (X.B5 s3 H3 scope ce fp) rfl rfl rfl hc i [] s5 _ H5 (fun _ _=>False) I5 (E7 I5 n5) QB stop
    refine HU td fun r s6⟨hr,I6⟩=> ?_
    subst hr
    have I7:Inv X pins σ H5 s6:=I3.Q4 (ch:=fp) I6.os I6.base I6.dD I6.bare fun b hb=>⟨(f3 b hb).1.2.2.2.1,(f3 b hb).1.2.1,(f3 b hb).1.2.2.2.2.1,(f3 b hb).1.2.2.2.2.2⟩
    have nC:H5 s3.heap.objs.size=none:=by
     have z:H5 ce.locals=none:=I6.free
     rw[cL]at z
     exact z
    obtain⟨m,hn,_⟩:=I6.loc
    have hn:s6.heap.Ns ce.locals m:=hn
    rw[cL]at hn
    exact YU D s3.heap.objs.size s6 m H5 I7 qq hn (I3.Dj (abB _) nC)
  have ti:=T.item (X.B5 s3 H3 scope ce fp) rfl rfl rfl hc i [] s5 _ H5 (fun _ _=>False) I5 (E7 I5 n5) QB go
  refine HU ti fun r s6⟨u,hr,h6⟩=> ?_
  subst hr
  refine HU h6 fun _ s7⟨x,H7,I7,r7,y7,VD,n7⟩=> ?_
  have YZ:=I7.pinned (E7 I7 n7) (T.obj _ _ VD)
  refine HU (pg _ s7 _ H7 x u _ YZ r7 (step x H7 y7)) fun _ s8⟨Uh,H8,I8,XO,q8⟩=> ?_
  refine HU (pt _ s8 Uh H8 _ I8 q8) fun b s9⟨H9,I9,q9⟩=> ?_
  have fin:∀{s':Shared}{H':Hp},Inv (X.B5 s3 H3 scope ce fp) ([]++yx fp s7.heap) Uh H' s'->Nx H'->∃m,m<n/\∃i H',Inv (X.B5 s3 H3 scope ce fp) [] (wipe σ (own.map (·.2))) H' s'/\tn i s'.heap/\(∀b∈fp,H' b=none)/\W i m H':=fun{s' H'}I' nx=>by
   obtain⟨m',hm,w'⟩:=YY H' nx
   have RA:∀b∈fp,∀o,s7.heap.get? b=some o->s'.heap.get? b=some o/\H' b=none:=fun b hb o e=>
    let z:=I'.pin (b,o) (abD _ (abD _ (tj hb e)))
    ⟨z.1,z.2.1⟩
   have hl:(wipe σ (own.map (·.2))).length=Uh.length:=by rw[<-XO,qO]
   refine⟨m',hm,i+1,H',(I'.n8 (pins:=[])).weak hl (fun j v e=> ?_),T.keep _ _ _ VD fun b hb o e=>(RA b hb o e).1,fun b hb=> ?_,w'⟩
   . rw[<-XO]at e
     exact(vE e).1
   obtain⟨o,e,_⟩:=T.obj _ _ VD b hb
   exact(RA b hb o e).2
  cases b with
  |false=>
   simp only[Bool.false_eq_true,if_false]at q9⊢
   exact fin I9 q9
  |true=>
   simp only[if_true]at q9⊢
   refine HU (pe _ s9 Uh H9 _ I9 q9) fun z VE⟨yv,Y0,Y1,Y2,acc,VF,VG,nx⟩=> ?_
   exact Ov (X:=X.B5 s3 H3 scope ce fp) Y1 VF VG Y2 fun L4 Y3=>fin Y3 nx
 exact codeAny_compStart_list loop (T.self X.A 0 _ _ _ XN loop)
theorem wB{elt tg iter:Expr}{ifs:List Expr}{scope:Scope}{own:List (Str×Nat)}{pos:Pos}{wi:TI}{g:TG}{tt:TT}{te:TE}(hc:X.calm=true)(hN:X.N.Nodup)(hi:PI X tg iter wi)(ok:Dt X.N X.env.scope scope own)
 (hg:∀(s:Shared)(H:Hp)(C:Addr)(cl:List (Str×Addr))(fp:List Addr),PG (X.B5 s H scope (compEnvC scope cl C X.env) fp) tg g) (ht:∀(s:Shared)(H:Hp)(C:Addr)(cl:List (Str×Addr))(fp:List Addr),Ru (X.B5 s H scope (compEnvC scope cl C X.env) fp) ifs tt)
 (he:∀(s:Shared)(H:Hp)(C:Addr)(cl:List (Str×Addr))(fp:List Addr),PE (X.B5 s H scope (compEnvC scope cl C X.env) fp) elt te) (hs:∀x,foldedSetIterable iter X.env x=pure x:=by intro _;rfl):
 PE X (.ListComp elt [⟨tg,iter,ifs,0⟩] scope pos) (Ug wi g tt te (own.map (·.2))):=by
 intro pins s σ H Q I h
 rw[eval_ListComp]
 refine GP hc hN I hi ok hg ht he hs h fun D C s' m H' I' q hn f=>⟨m,hn,fun Ui sb=> ?_⟩
 obtain⟨f0,f1,f2,f3,f4,f5⟩:=f
 exact⟨.ref D,H',I'.turned (t':=s'.toks) (fun b o hb e=>(sb.2 b hb).trans e) f0 f1 f3 f4 f5,U,q⟩
theorem lZ{i:Nat}{y:Str}{py:Pos}{elt tg iter:Expr}{ifs:List Expr}{scope:Scope}{own:List (Str×Nat)}{pos RB:Pos}{wi:TI}{g:TG}{tt:TT}{te:TE}(hc:X.calm=true)(hN:X.N.Nodup)(hy:X.N[i]?=some y)(XQ:X.env.scope.names.lookup y=some .local)
 (Y4:swapsWith (.ListComp elt [⟨tg,iter,ifs,0⟩] scope pos) (some (.Name y py)) RB.line X.env=pure true) (hi:PI X tg iter wi) (ok:Dt X.N X.env.scope scope own)
 (hg:∀(s:Shared)(H:Hp)(C:Addr)(cl:List (Str×Addr))(fp:List Addr),PG (X.B5 s H scope (compEnvC scope cl C X.env) fp) tg g) (ht:∀(s:Shared)(H:Hp)(C:Addr)(cl:List (Str×Addr))(fp:List Addr),Ru (X.B5 s H scope (compEnvC scope cl C X.env) fp) ifs tt)
 (he:∀(s:Shared)(H:Hp)(C:Addr)(cl:List (Str×Addr))(fp:List Addr),PE (X.B5 s H scope (compEnvC scope cl C X.env) fp) elt te) (hs:∀x,foldedSetIterable iter X.env x=pure x:=by intro _;rfl):
 PS X (.Assign [.Name y py] (.ListComp elt [⟨tg,iter,ifs,0⟩] scope pos) RB) (Dh (Ug wi g tt te (own.map (·.2))) (kr i)):=by
 intro pins s σ H D I h
 rw[exec_Assign_Name_used _ _ _ _ Y4]
 refine wpAny_bind (wpAny_standAt (wpAny_bind ?_))
 show wpAny _ X.A (do let _ <-comprehension (.ListComp elt [⟨tg,iter,ifs,0⟩] scope pos) scope X.env (firstIterPos [⟨tg,iter,ifs,0⟩] pos) (newList []) false (eval iter X.env) (some (assign (.Name y py) X.env))) _ _ s
 have h:Ug wi g tt te (own.map (·.2)) σ H (fun x H1=>kr i x σ H1 D.nx):=h
 refine wpAny_bind (eO (GP (Qf:=fun _ s'=>SP X pins D .next s') hc hN I hi ok hg ht he hs h fun L C s' m H' I' q hn f=> ?_) fun _ s' hq=>wpAny_pure (wpAny_pure hq))
 show wpAny _ _ (assign (.Name y py) X.env (.ref L)) _ _ _
 refine wpAny_assign_Name (AS (v:=V.ref L) I' hN hy (.inl XQ) rfl (fun s2 I2⟨a,sb,ha⟩=> ?_) (.inr XQ))
 obtain⟨f0,f1,f2,f3,f4,f5⟩:=f
 have Y5:C≠a:=by
  rcases ha with z|z
  . rw[z];exact f1
  exact fun e=>f4 y a z e.symm
 refine⟨m,hn.sameBut sb Y5,fun h3 Y6=> ?_⟩
 exact⟨_,H',I2.turned (t':=s2.toks) (fun b o hb e=>(Y6.2 b hb).trans e) f0 f1 f3 f4 f5,q⟩
end
theorem yE{lo:Int}{n:Nat}{g:TG}{tt:TT}{te:TE}{vs:List Nat}{σ:St}{H1:Hp}{D:Addr}{Qd:Hp->Prop}(Pv:Nat->Hp->Prop)(h0:Pv 0 (upd H1 D (.lst [])))
 (hs:∀i H,i<n->Pv i H->g (.int (lo+i)) (wipe σ vs) H fun i5 H2=>wipe i5 vs=wipe σ vs/\tt i5 H2 fun b H3=>
  if b=true then te i5 H3 fun y H4=>∃acc,H4 D=some (.lst acc)/\acc.length<sizeLine/\Pv (i+1) (upd H4 D (.lst (acc++[y])))else Pv (i+1) H3) (hd:∀H,Pv n H->Qd H):
 ∃W:Nat->Nat->Hp->Prop,(∃m,W 0 m (upd H1 D (.lst [])))/\∀i m H,W i m H->
  ((Lu lo n).stop i H/\Qd H)\/((Lu lo n).go i H/\∃Nx:Hp->Prop,(∀H',Nx H'->∃m',m'<m/\W (i+1) m' H')/\∀x H',(Lu lo n).GD i H x H'->g x (wipe σ vs) H' fun i5 H2=>wipe i5 vs=wipe σ vs/\tt i5 H2 fun b H3=>
    if b=true then te i5 H3 fun y H4=>∃acc,H4 D=some (.lst acc)/\acc.length<sizeLine/\Nx (upd H4 D (.lst (acc++[y])))else Nx H3):=by
 refine⟨fun i m H=>m=n-i/\i<=n/\Pv i H,⟨n,by simp,abE _,h0⟩, ?_⟩
 rintro i m H ⟨rfl,hi,p⟩
 by_cases di:i<n
 . refine .inr ⟨di,Pv (i+1),fun H' p'=>⟨n-(i+1),by lia,rfl,di,p'⟩,fun x H' y=> ?_⟩
   obtain⟨e,y⟩:=y
   subst e y
   exact hs i _ di p
 have e:i=n:=by lia
 subst e
 exact .inl ⟨abB _,hd H p⟩
theorem xZ{K:PySem.W.Frag}{a:Addr}{xs:List V}{g:TG}{tt:TT}{te:TE}{vs:List Nat}{σ:St}{H1:Hp}{D:Addr}{Qd:Hp->Prop}(Pv:Nat->Hp->Prop)(h0:Pv 0 (upd H1 D (.lst [])))(hl:∀i H,i<=xs.length->Pv i H->aW K H a xs)
 (hs:∀i x H,xs[i]?=some x->Pv i H->g x (wipe σ vs) H fun i5 H2=>wipe i5 vs=wipe σ vs/\tt i5 H2 fun b H3=>
  if b=true then te i5 H3 fun y H4=>∃acc,H4 D=some (.lst acc)/\acc.length<sizeLine/\Pv (i+1) (upd H4 D (.lst (acc++[y])))else Pv (i+1) H3) (hd:∀H,Pv xs.length H->Qd H):
 ∃W:Nat->Nat->Hp->Prop,(∃m,W 0 m (upd H1 D (.lst [])))/\∀i m H,W i m H->
  ((GF K a).stop i H/\Qd H)\/((GF K a).go i H/\∃Nx:Hp->Prop,(∀H',Nx H'->∃m',m'<m/\W (i+1) m' H')/\∀x H',(GF K a).GD i H x H'->g x (wipe σ vs) H' fun i5 H2=>wipe i5 vs=wipe σ vs/\tt i5 H2 fun b H3=>
    if b=true then te i5 H3 fun y H4=>∃acc,H4 D=some (.lst acc)/\acc.length<sizeLine/\Nx (upd H4 D (.lst (acc++[y])))else Nx H3):=by
 refine⟨fun i m H=>m=xs.length-i/\i<=xs.length/\Pv i H,⟨xs.length,by simp,abE _,h0⟩, ?_⟩
 rintro i m H ⟨rfl,hi,p⟩
 have q:=hl i H hi p
 by_cases di:i<xs.length
 . refine .inr ⟨⟨xs,xs[i],q,by simp[di]⟩,Pv (i+1),fun H' p'=>⟨xs.length-(i+1),by lia,rfl,di,p'⟩,fun x H' y=> ?_⟩
   obtain⟨e,y⟩:=y
   subst e
   exact hs i x _ (y xs q) p
 have e:i=xs.length:=by lia
 subst e
 exact .inl ⟨⟨xs,q,abB _⟩,hd H p⟩
noncomputable def RC(N:List Str)(sc scope:Scope)(own:List (Str×Nat)):Bool:=
 (match scope.kind with| .function=>true|_=>false)&&(scope.names.all fun y=>decide (scope.names.lookup y.1=some y.2))&&(own.all fun p=>decide (N[p.2]?=some p.1))&&
  (scope.names.all fun y=>match y.2 with
   | .free=>(match sc.names.lookup y.1 with|some .cell=>true|some .free=>true|_=>false)
   | .local=>decide (y.1∈own.map (·.1))||decide (y.1∉N)
   | .cell=>decide (y.1∈own.map (·.1))||decide (y.1∉N)
   |_=>true)
theorem ee{N:List Str}{sc scope:Scope}{own:List (Str×Nat)}(h:RC N sc scope own=true):Dt N sc scope own:=by
 unfold RC at h
 simp only[ab6,ab9,decide_eq_true_eq]at h
 obtain⟨⟨⟨h1,h2⟩,h3⟩,h4⟩:=h
 refine⟨?_,h2,h3,fun y hy e=> ?_,fun y hy e=> ?_⟩
 . split at h1
   . assumption
   cases h1
 . have q:=h4 y hy
   simp only[e]at q
   split at q<;>first|exact .inl (by assumption)|exact .inr (by assumption)|cases q
 have q:=h4 y hy
 rcases e with e|e<;>(simp only[e,aca,decide_eq_true_eq]at q;exact q)
end L2
namespace L2
open PySem PySem.Spec PyProof.Rows
section
variable{prog:Program}{w:World}{A:Around}{R:Result->Shared->Prop}{s:Shared}{elt t0 i0 t1 i1:Expr}{Y7 Y8:List Expr}{scope:Scope}{pos:Pos}{it acc:Value}{env:Env}
end
section
variable{X:Cx}
end
end L2
namespace L2
open PySem PySem.Spec PyProof.Rows
section
variable{κ:Type} [DecidableEq κ]
end
section
variable{P:Program}{w:World}{H:Hp}{h:Heap}{a:Addr}
end
section
variable{X:Cx}{pins:List (Addr×Obj)}{σ:St}{H:Hp}{s:Shared}{a:Addr}{y v:V}{u r:Value}{o:Option V}{A:Around}{E:Value->Shared->Prop}
end
section
variable{X:Cx}{pins:List (Addr×Obj)}{σ:St}{H:Hp}{s:Shared}{a:Addr}{BZ:List (Key×V)}{k:Key}{u:Value}{A:Around}{E:Value->Shared->Prop}
end
section
variable{X:Cx}{o i e value:Expr}{pos pos' Di:Pos}{td ty tv:TE}
end
section
variable{X:Cx}{pos:Pos}
end
section
variable{X:Cx}{pins:List (Addr×Obj)}{σ:St}{H:Hp}{s:Shared}{a:Addr}{y d:V}{u r:Value}{o:Option V}{A:Around}{E:Value->Shared->Prop}
end
section
variable{X:Cx}{o e f:Expr}{apos yC:Pos}{td ty tx:TE}
end
section
variable{X:Cx}{pins:List (Addr×Obj)}{σ:St}{H:Hp}{s:Shared}{a:Addr}{BZ:List (Key×V)}{A:Around}{E:Value->Shared->Prop}
end
section
variable{X:Cx}{pins:List (Addr×Obj)}{σ:St}{H:Hp}{s:Shared}{a:Addr}{y:V}{u:Value}{A:Around}{E:Value->Shared->Prop}
end
end L2
namespace L2
open PySem PySem.Spec PyProof.Rows
section
variable{prog:Program}{w:World}{A:Around}{E:Value->Shared->Prop}
end
section
variable{X:Cx}
end
end L2
namespace L2
open PySem PySem.Spec PyProof.Rows
theorem yF:bootBuiltins "reversed"=some (.type "reversed"):=by decide+kernel
section
variable{X:Cx}{pins:List (Addr×Obj)}{σ:St}{H:Hp}{s:Shared}{h':Heap}
theorem Inv.L5 {t':Nat} {ch:List Addr} (I:Inv X pins σ H s) (k:∀b o,b∉ch->s.heap.get? b=some o->h'.get? b=some o) (hf:∀b∈ch,n6 X pins H b):Inv X pins σ H {s with heap:=h',toks:=t'}:=by
 have Jw:∀b u,H b=some u->b∉ch:=fun b u e z=>by
  have q:=(hf b z).1
  rw[q]at e;cases e
 refine I.step (g':=s.gens) (d':=s.drawn) (ch:=ch) (fun b hb=>⟨(hf b hb).2.2.2.1,(hf b hb).2.1,(hf b hb).2.2.2.2.1,(hf b hb).2.2.2.2.2⟩) (fun b o _ _ hc e _=>k b o hc e) (fun b o _ _ hc e _=>⟨o.slots,k b o hc e⟩)
  (fun _ _ _ _ n=>n) (fun b o hc e=>⟨o,k b o hc e⟩) (fun _ _ e=>e) (fun _ _ _ e=>e) (fun b ps e=>⟨#[],by rw[e];simp⟩) (fun m hm=> ?_) (fun b u e=> ?_) I.bare
 . obtain⟨o,es,ep,ho,r⟩:=hm
   exact⟨o,es,ep,k _ o (fun z=>(hf _ z).2.1 rfl) ho,r⟩
 refine(I.dD b u e).uh (fun c v hc q=>k c v ?_ q) (fun _ q=>q) fun _ _ q=>q
 rcases hc with z|z
 . rw[z];exact Jw b u e
 exact Jw c _ z
theorem Inv.HV {t':Nat} {ch:List Addr} {T:Addr} {ob:HO} (I:Inv X pins σ H s) (k:∀b o,b∉ch->s.heap.get? b=some o->h'.get? b=some o) (hf:∀b∈ch,n6 X pins H b) (hT:s.heap.objs.size<=T)
 (new:i4 X.prog X.w (upd H T ob) h' T ob):Inv X pins σ (upd H T ob) {s with heap:=h',toks:=t'}:=by
 have hn:H T=none:=I.dD.fresh hT
 have Jw:∀b u,H b=some u->b∉ch:=fun b u e z=>by
  have q:=(hf b z).1
  rw[q]at e;cases e
 refine I.step (g':=s.gens) (d':=s.drawn) (ch:=ch) (fun b hb=>⟨(hf b hb).2.2.2.1,(hf b hb).2.1,(hf b hb).2.2.2.2.1,(hf b hb).2.2.2.2.2⟩) (fun b o _ _ hc e _=>k b o hc e) (fun b o _ _ hc e _=>⟨o.slots,k b o hc e⟩)
  (fun b o _ e n=> ?_) (fun b o hc e=>⟨o,k b o hc e⟩) (fun b xs e=> ?_) (fun b o u e=> ?_) (fun b ps e=>⟨#[], ?_⟩) (fun m hm=> ?_) (fun b u e=> ?_) I.bare
 . rw[au (abg (abe (abd e) hT))];exact n
 . rw[au (aw e hn)];exact e
 . rw[au (aw e hn)];exact e
 . rw[au (aw e hn),e];simp
 . obtain⟨o,es,ep,ho,r⟩:=hm
   exact⟨o,es,ep,k _ o (fun z=>(hf _ z).2.1 rfl) ho,r⟩
 by_cases hb:b=T
 . subst hb
   rw[af]at e
   cases e
   exact new
 rw[au hb]at e
 refine(I.dD b u e).uh (fun c v hc q=>k c v ?_ q) (fun c q=>by rw[au (aw q hn)];exact q) fun c xs q=>by rw[au (aw q hn)];exact q
 rcases hc with z|z
 . rw[z];exact Jw b u e
 exact Jw c _ z
end
section
variable{X:Cx}
theorem J0{tg:Expr}{pins:List (Addr×Obj)}{σ:St}{H:Hp}{s:Shared}{R:It->Hp->Prop}{J:It}{tn:Nat->Heap->Prop}{tk:Nat}(I:Inv X pins σ H s)(o:Obj)
 (T:Turn X.prog X.w X.K tg J [s.heap.objs.size] s.heap.objs.size tn) (st:tn 0 (s.heap.push o)) (q:R J H):U9 X pins σ tg R (.ref s.heap.objs.size) {s with heap:=s.heap.push o,toks:=tk}:=by
 refine⟨s.heap.objs.size,[s.heap.objs.size],tn,J,H,U,I.kept fun b ob e=>abz _ e,T,st,fun b hb=> ?_,q⟩
 have e:b=s.heap.objs.size:=by simpa using hb
 subst e
 exact I.Dj (abB _) (I.dD.fresh (abB _))
end
noncomputable def RD(lo c:Int)(n:Nat):It:=⟨fun i _=>i<n,fun i H x H'=>H'=H/\x= .int (lo+(i:Nat)*c),fun i _=>n<=i⟩
theorem Dz{P:Program}{w:World}{K:PySem.W.Frag}{tg:Expr}(it:Addr)(lo c:Int)(n:Nat):Turn P w K tg (RD lo c n) [it] it (fun i h=>IsRangeIter h it (lo+(i:Nat)*c) ((n:Int)-(i:Nat)) c)where
 mem:=by simp
 obj:=fun i h st b hb=>by
  have e:b=it:=by simpa using hb
  subst e
  exact⟨_,st,fun v z=>nomatch z⟩
 keep:=fun i h h' st k=>k it (by simp) _ st
 item:=by
  intro X hP hw hK hc i pins s σ H E I hf st hg
  subst hP hw hK
  obtain⟨f0,f1,f2,f3,f4,f5⟩:=hf it (by simp)
  have W:=Walks.range (prog:=X.prog) (w:=X.w) (I.ok.hd hc) it lo c n
  refine W.item i s _ _ hg st fun v h' tk hv E4 kk=> ?_
  obtain⟨t,rfl⟩:=hv
  have I1:Inv X pins σ H {s with heap:=h',toks:=tk}:=I.turned (fun b o hb e=>kk b o (by simpa using hb) e) f0 f1 f3 f4 f5
  exact⟨_,U,Dk (s:={s with heap:=h',toks:=tk}) (n:="range_iterator") E4 rfl rfl (by decide) ⟨.int (lo+(i:Nat)*c),H,I1,⟨t,U⟩,⟨U,U⟩,E4,fun b hb=>(hf b hb).1⟩⟩
 done:=by
  intro X hP hw hK hc i pins s σ H E I hf st hg
  subst hP hw hK
  obtain⟨f0,f1,f2,f3,f4,f5⟩:=hf it (by simp)
  exact wpAny_pyNext_range_end (I.ok.hd hc) st (by have:n<=i:=hg;lia) fun h' eb=>⟨rfl,I.turned (t':=s.toks) (fun b o hb e=>eb b o hb e) f0 f1 f3 f4 f5⟩
 self:=fun A i s Q E st h=>wpAny_pyIter_rangeiter st h
def XR(i j c:Int)(n:Nat):Prop:=c≠0/\c.natAbs<1073741824/\Builtin.Range.small i j c=true/\Builtin.Range.rangeSize i j c=n
def RE(ta:TA):TI:=fun σ H R=>ta σ H fun vs H1=>∃(i j c:Int)(n:Nat),vs=[.int i, .int j, .int c]/\XR i j c n/\R (RD i c n) H1
section
variable{X:Cx}{tg:Expr}
theorem HW{a b c:Expr}{ta:TA}{p pos:Pos}(hg:Gl X "range")(hm:X.mg "range"=none)(ha:PA X [a,b,c] ta)
 (hs:starEach [a,b,c] X.env=(false,eval a X.env)::starEach [b,c] X.env:=by rfl) (qJ:(backTo pos (starEach [b,c] X.env)).any (·.1)=false:=by rfl):
 PI X tg (.Call (.Name "range" p) [a,b,c] [] pos) (RE ta):=by
 intro pins s σ H R I h
 refine Call_ (qz I hg hm boot_range (abC (eO (ha pos pins s σ H _ I h) fun us s1⟨vs,H1,I1,r1,q1⟩=> ?_) hs qJ))
 obtain⟨i,j,k,n,e,⟨c0,c1,c2,c3⟩,q⟩:=q1
 subst e
 cases r1 with
 |cons r rr=>
  cases rr with
  |cons r' rr=>
   cases rr with
   |cons Y9 rr=>
    cases rr
    obtain⟨t,rfl⟩:=r
    obtain⟨t',rfl⟩:=r'
    obtain⟨Za,rfl⟩:=Y9
    refine call_range_3 c0 ?_ (.inl (PyProof.noPylong_small c1))
    refine wpAny_pyIter_range (IsRange.new ..) c2 ?_
    have I2:Inv X pins σ H1 {s1 with heap:=s1.heap.push {cls:= .type "range",data:= .fields #[.int i t, .int j t', .int k Za]}}:=I1.kept (t':=s1.toks) fun b o e=>abz _ e
    refine J0 (tk:=s1.toks) I2 _ (Dz _ i k n) ?_ q
    have e1:i+((0:Nat):Int)*k=i:=by simp
    have e2:(n:Int)-((0:Nat):Int)=Builtin.Range.rangeSize i j k:=by rw[c3];simp
    show IsRangeIter _ _ (i+((0:Nat):Int)*k) ((n:Int)-((0:Nat):Int)) k
    rw[e1,e2]
    exact abA _ rfl
end
noncomputable def RF(K:PySem.W.Frag)(a:Addr)(n:Nat):It:=
 ⟨fun i H=>i<n/\∃(xs:List V)(x:V),aW K H a xs/\xs[n-1-i]?=some x,fun i H x H'=>H'=H/\∀xs,aW K H a xs->xs[n-1-i]?=some x,fun i _=>n<=i⟩
theorem J6{P:Program}{w:World}{K:PySem.W.Frag}{tg:Expr}(a it:Addr)(n:Nat):Turn P w K tg (RF K a n) [it] it (fun i h=>i<=n/\h.IsRevIter it a ((n:Int)-1-(i:Nat)))where
 mem:=by simp
 obj:=fun i h st b hb=>by
  have e:b=it:=by simpa using hb
  subst e
  obtain⟨_,o,e,c,d⟩:=st
  exact⟨o,e,fun v z=>by rw[d]at z;cases z⟩
 keep:=fun i h h' st k=>⟨st.1,st.2.at fun o e=>k it (by simp) o e⟩
 item:=by
  intro X hP hw hK hc i pins s σ H E I hf st hg
  subst hP hw hK
  obtain⟨GQ,xs,x,hq,hx⟩:=hg
  obtain⟨bp,rv,p,hz⟩:=I.list hq
  obtain⟨u,hu,ru⟩:=rv.get hx
  obtain⟨f0,f1,f2,f3,f4,f5⟩:=hf it (by simp)
  obtain⟨_,hit⟩:=st
  have e1:(n:Int)-1-(i:Int)=((n-1-i:Nat):Int):=by lia
  rw[e1]at hit
  refine wpAny_pyNext_rev_item hit p.isList (x:=u) (by simpa using hu) fun h' E4 sb=> ?_
  have e2:((n-1-i:Nat):Int)-1=(n:Int)-1-((i+1:Nat):Int):=by lia
  rw[e2]at E4
  have I1:Inv X pins σ H {s with heap:=h'}:=I.turned (t':=s.toks) (fun b o hb e=>(sb.2 b hb).trans e) f0 f1 f3 f4 f5
  obtain⟨o,e,c,d⟩:=id E4
  exact⟨u,U,Dk (s:={s with heap:=h'}) e c d (by decide) ⟨x,H,I1,ru,⟨U,fun ys hy=>by rw[I.yu hy hq];exact hx⟩,⟨GQ,E4⟩,fun b hb=>(hf b hb).1⟩⟩
 done:=by
  intro X hP hw hK hc i pins s σ H E I hf st hg
  subst hP hw hK
  obtain⟨f0,f1,f2,f3,f4,f5⟩:=hf it (by simp)
  obtain⟨GQ,hit⟩:=st
  have QE:n<=i:=hg
  have e1:(n:Int)-1-(i:Int)= -1:=by lia
  rw[e1]at hit
  exact wpAny_pyNext_rev_end (I.ok.hd hc) hit fun h' eb=>⟨rfl,I.turned (t':=s.toks) (fun b o hb e=>eb b o hb e) f0 f1 f3 f4 f5⟩
 self:=fun A i s Q E st h=>wpAny_pyIter_revIter st.2 h
def VH(K:PySem.W.Frag)(ta:TA):TI:=fun σ H R=>ta σ H fun vs H1=>∃(a:Addr)(xs:List V),vs=[.ref a]/\aW K H1 a xs/\R (RF K a xs.length) H1
section
variable{X:Cx}{tg:Expr}
theorem DA{e:Expr}{ta:TA}{p pos:Pos}(hg:Gl X "reversed")(hm:X.mg "reversed"=none)(ha:PA X [e] ta)(hs:starEach [e] X.env=[(false,eval e X.env)]:=by rfl):PI X tg (.Call (.Name "reversed" p) [e] [] pos) (VH X.K ta):=by
 intro pins s σ H R I h
 refine Call_ (qz I hg hm yF (abC (eO (ha pos pins s σ H _ I h) fun us s1⟨vs,H1,I1,r1,q1⟩=> ?_) hs rfl))
 obtain⟨a,xs,e,hq,q⟩:=q1
 subst e
 cases r1 with
 |cons r rr=>
  cases rr
  cases r
  obtain⟨bp,rv,p',hz⟩:=I1.list hq
  have hl:=rv.length
  have e1:(bp.toArray.size:Int)-1=(xs.length:Int)-1-((0:Nat):Int):=by simp only[abZ];lia
  refine call_reversed_list p'.isList (wpAny_pyIter_revIter (l:=a) (i:=(bp.toArray.size:Int)-1) ⟨_,abA _ rfl,rfl,rfl⟩ ?_)
  refine J0 (tk:=s1.toks) I1 _ (J6 a _ xs.length) ⟨abE _, ?_⟩ q
  rw[<-e1]
  exact⟨_,abA _ rfl,U,U⟩
end
section
variable{prog:Program}{w:World}{A:Around}{E:Value->Shared->Prop}{s:Shared}
end
section
variable{X:Cx}{pins:List (Addr×Obj)}{σ:St}{H:Hp}{s:Shared}{d:Addr}{o:Obj}
end
section
variable{P:Program}{w:World}{K:PySem.W.Frag}{tg:Expr}{d:Addr}{o:Obj}{es:Array DictEntry}{ep:Nat}
end
section
variable{X:Cx}{tg e:Expr}{td:TE}{apos yC:Pos}
end
def Ny(K:PySem.W.Frag)(a:Addr):It:=
 ⟨fun i H=>∃(xs:List V)(x:V),aW K H a xs/\xs[i]?=some x,fun i H v H'=>∃T x,v= .ref T/\H T=none/\H'=upd H T (.tup [.int (i:Nat),x])/\∀xs,aW K H a xs->xs[i]?=some x,fun i H=>∃xs:List V,aW K H a xs/\xs.length<=i⟩
theorem HX{P:Program}{w:World}{K:PySem.W.Frag}{elts:List Expr}{kk:Nat}{Di:Pos}(a e it:Addr):
 Turn P w K (.Tuple elts kk Di) (Ny K a) [e,it] e (fun i h=>(∃old,IsEnum h e it ((i:Nat):Int) old)/\h.IsListIter it a i/\e≠it)where
 mem:=by simp
 obj:=fun i h st b hb=>by
  obtain⟨⟨old,he⟩,⟨o,ho,hc,hd⟩,_⟩:=st
  have e':b=e\/b=it:=by simpa using hb
  rcases e' with z|z
  . rw[z];exact⟨_,he,fun v q=>nomatch q⟩
  rw[z];exact⟨o,ho,fun v q=>by rw[hd]at q;cases q⟩
 keep:=fun i h h' st k=>let⟨⟨old,he⟩,hi,ir⟩:=st;⟨⟨old,k e (by simp) _ he⟩,hi.at fun o q=>k it (by simp) o q,ir⟩
 item:=by
  intro X hP hw hK hc i pins s σ H E I hf st hg
  subst hP hw hK
  obtain⟨⟨old,he⟩,hit,ir⟩:=st
  obtain⟨xs,x,hq,hx⟩:=hg
  obtain⟨bp,rv,p,hz⟩:=I.list hq
  obtain⟨u,hu,ru⟩:=rv.get hx
  have XS:e<s.heap.objs.size:=abd he
  have Zb:it<s.heap.objs.size:=by obtain⟨_,q,_⟩:=hit;exact abd q
  refine wpAny_pyNext_enum_item he hit p.isList (x:=u) (by simpa using hu) ir fun h' ho VI hT hsz hk=> ?_
  refine⟨_,U,wpAny_letOwnedTupleGo_enum (s:={s with heap:=h',toks:=s.toks+1}) ho fun Ui Zc sb=> ?_⟩
  have Zd:Ui.get? s.heap.objs.size=some {cls:= .type "tuple",data:= .seq #[.int i s.toks,u]}:=(sb.2 _ (Nat.ne_of_gt XS)).trans hT
  have new:i4 X.prog X.w (upd H s.heap.objs.size (.tup [.int (i:Nat),x])) Ui s.heap.objs.size (.tup [.int (i:Nat),x]):=
   ⟨by show 2<=sizeLine;decide,[.int i s.toks,u], .cons ⟨_,rfl⟩ (.cons ru .nil),⟨_,Zd,rfl,_,rfl⟩⟩
  have I1:Inv X pins σ (upd H s.heap.objs.size (.tup [.int (i:Nat),x])) {s with heap:=Ui,toks:=s.toks+1}:=
   I.HV (ch:=[e,it]) (fun b ob hb q=>(sb.2 b (fun z=>hb (by simp[z]))).trans (hk b ob (fun z=>hb (by simp[z])) (fun z=>hb (by simp[z])) q)) hf (abB _) new
  refine⟨.ref s.heap.objs.size,_,I1,U,⟨_,x,U,I.dD.fresh (abB _),U,fun ys hy=>by rw[I.yu hy hq];exact hx⟩,⟨⟨u, ?_⟩,VI.at fun o q=>(sb.2 it (abp ir)).trans q,ir⟩,fun b hb=> ?_⟩
  . have e1:((i+1:Nat):Int)=(i:Int)+1:=by lia
    rw[e1];exact Zc
  have Ow:b<s.heap.objs.size:=by
   have e':b=e\/b=it:=by simpa using hb
   rcases e' with z|z
   . rw[z];exact XS
   rw[z];exact Zb
  rw[au (abg Ow)]
  exact(hf b hb).1
 done:=by
  intro X hP hw hK hc i pins s σ H E I hf st hg
  subst hP hw hK
  obtain⟨⟨old,he⟩,hit,ir⟩:=st
  obtain⟨xs,hq,hx⟩:=hg
  obtain⟨bp,rv,p,hz⟩:=I.list hq
  obtain⟨f0,f1,f2,f3,f4,f5⟩:=hf it (by simp)
  have hl:=rv.length
  exact wpAny_pyNext_enum_end (I.ok.hd hc) he hit p.isList (by simp;lia) fun h' eb=>⟨rfl,I.turned (t':=s.toks) (fun b o hb q=>eb b o hb q) f0 f1 f3 f4 f5⟩
 self:=fun A i s Q E st h=>let⟨⟨_,he⟩,_⟩:=st;wpAny_pyIter_enum he h
def RG(K:PySem.W.Frag)(ta:TA):TI:=fun σ H R=>ta σ H fun vs H1=>∃a xs,vs=[.ref a]/\aW K H1 a xs/\R (Ny K a) H1
theorem oP{X:Cx}{e:Expr}{ta:TA}{p pos Di:Pos}{elts:List Expr}{kk:Nat}(hg:Gl X "enumerate")(hm:X.mg "enumerate"=none)(ha:PA X [e] ta)(hs:starEach [e] X.env=[(false,eval e X.env)]:=by rfl):
 PI X (.Tuple elts kk Di) (.Call (.Name "enumerate" p) [e] [] pos) (RG X.K ta):=by
 intro pins s σ H R I h
 refine Call_ (qz I hg hm boot_enumerate (abC (eO (ha pos pins s σ H _ I h) fun us s1⟨vs,H1,I1,r1,q1⟩=> ?_) hs rfl))
 obtain⟨a,xs,ex,hq,q⟩:=q1
 subst ex
 cases r1 with
 |cons r rr=>
  cases rr
  cases r
  obtain⟨bp,rv,p',hz⟩:=I1.list hq
  refine call_enumerate_list p'.isList fun h' he hit hsz hk=>wpAny_pyIter_enum he ?_
  have I2:Inv X pins σ H1 {s1 with heap:=h'}:=I1.kept (t':=s1.toks) hk
  refine⟨s1.heap.objs.size+1,[s1.heap.objs.size+1,s1.heap.objs.size],_,_,H1,U,I2,HX a (s1.heap.objs.size+1) s1.heap.objs.size,⟨⟨.none,he⟩,hit,Nat.succ_ne_self _⟩,fun b hb=> ?_,q⟩
  have e':b=s1.heap.objs.size+1\/b=s1.heap.objs.size:=by simpa using hb
  have hle:s1.heap.objs.size<=b:=by
   rcases e' with z|z
   . rw[z];exact Nat.le_add_right _ _
   rw[z];exact abB _
  exact I1.Dj hle (I1.dD.fresh hle)
end L2
section
namespace Bits
open PySem PyProof.Rows
end Bits
end
section
namespace TL
open PySem PySem.Builtin PySem.Builtin.Str PySem.StrLaws
end TL
end
namespace L2
open PySem PySem.Spec PyProof.Rows
section
variable{X:Cx}{pins:List (Addr×Obj)}{σ:St}{H:Hp}{s:Shared}{Q:VK}
end
section
variable{X:Cx}
end
section
variable{X:Cx}{o e:Expr}{to te:TE}
end
end L2
namespace L2
open PySem PySem.Spec PyProof.Rows
section
variable{X:Cx}
end
end L2
namespace Ze
open PySem PySem.W PySem.Calls PyProof.Rows
section
variable{prog:Program}{w:World}{A:Around}{E:Value->Shared->Prop}{s:Shared}{K:Frag}
end
end Ze
namespace L2
open PySem PySem.Spec PyProof.Rows
theorem Be:∀{vs:List Value}{ns:List Int},IntsAre vs ns->Vals (ns.map V.int) vs
 |_,_, .nil=> .nil
 |_,_, .cons n t h=> .cons ⟨t,rfl⟩ (Be h)
def RH(H:Hp):Prop:=∀b,H b=none\/∃o xs,H b=some (.yo o (.lst xs))
theorem RI{P:Program}{w:World}{K:PySem.W.Frag}{mg mb:Str->Option Value}{CX:HP}{k:Nat}{fa a:Addr}{fd:FuncData}{x:Str}{sp:Sp}{bZ:Shared}{vs:List Value}{ns:List Int}
 (KX:K.In bZ.heap) (RJ:bZ.heap.Ns mainGlobals mg) (hb:bZ.heap.Ns builtinsNs mb) (QF:∀x:Str,x≠"__name__"->mb x=bootBuiltins x) (Ox:bZ.heap.NoLimit) (hg:bZ.gens= #[])
 (ha:bZ.heap.get? a=some {cls:= .type "list",data:= .seq vs.toArray}) (hi:IntsAre vs ns) (hl:ns.length<=sizeLine) (hr:gg k callerA)
 (F:∀base:Heap,K.In base->base.Ns mainGlobals mg->bq P w K mg base CX k fa fd [x] sp) (DB:∀(s:Shared)(u:Value),BindsTo s fd ⟨[u],[]⟩ [(x,u)])
 (EX:∀H:Hp,RH H->aW K H a (ns.map V.int)->sp [.ref a] H (fun v _=>v= .bl true) fun _ _ _=>False)
 (Oy:∀H e s',CX [] H bZ (fun _ _ _=>False) e s'->False):
 codeAny (model P w) callerA (.call (.ref fa) ⟨[.ref a],[]⟩) (fun r s'=>r= .ok (.ret (.bool true))/\OldK bZ.heap s'.heap/\s'.os=bZ.os/\AllBare s'.gens) bZ:=by
 have rv:=Be hi
 have VJ:=hi.length
 have core:∀H:Hp,RH H->aW K H a (ns.map V.int)->uf P w H bZ.heap->(∀b,H b≠none->b=a)->(H a≠none->K.lookup a=none)->
  codeAny (model P w) callerA (.call (.ref fa) ⟨[.ref a],[]⟩) (fun r s'=>r= .ok (.ret (.bool true))/\OldK bZ.heap s'.heap/\s'.os=bZ.os/\AllBare s'.gens) bZ:=by
  intro H hO hS dD hA hK
  have uq:∀{b:Addr}{o:Obj},bZ.heap.get? b=some o->H b=none->(ui bZ.heap H).get? b=some o:=fun e n=>De e n
  have Nv:∀{b:Addr}{o:Obj}{es:Array DictEntry}{ep:Nat},bZ.heap.get? b=some o->o.data= .dict es ep->H b=none:=fun{b o es ep}e d=>by
   cases q:H b with
   |none=>rfl
   |some u=>
    have e':b=a:=hA b (by rw[q];simp)
    subst e'
    rw[ha]at e;cases e
    have d':Data.seq vs.toArray _=Data.dict es ep:=d
    cases d'
  have L6:∀{b:Addr}{m:Str->Option Value},bZ.heap.Ns b m->(ui bZ.heap H).Ns b m:=fun{b m}⟨o,es,ep,e,d,r⟩=>⟨o,es,ep,uq e (Nv e d),d,r⟩
  have RK:K.In (ui bZ.heap H):=fun b o e=>uq (KX b o e) (by
   cases q:H b with
   |none=>rfl
   |some u=>
    have e':b=a:=hA b (by rw[q];simp)
    subst e'
    rw[hK (by rw[q];simp)]at e;cases e)
  have hM:Mod K mg (ui bZ.heap H):=⟨RK,L6 RJ,⟨mb,L6 hb,QF⟩,let⟨mc,h1,h2⟩:=Ox;⟨mc,L6 h1,h2⟩⟩
  have e0:Dm P w K mg (ui bZ.heap H) callerA [] bZ H:=⟨rfl,hM,fun b o e=>Gw e,abK (AQ _ _),trivial,fun b hb=>absurd (show b∈([]:List Addr)from hb) (by simp),dD, .of_eq hg⟩
  refine codeAny_mono ((F _ RK (L6 RJ)).run callerA [] bZ H ⟨[.ref a],[]⟩ [.ref a] [.ref a] _ _ hr e0 (DB bZ (.ref a)) (.cons rfl .nil) (EX H hO hS)) fun r s' h=> ?_
  cases r with
  |error e=>exact(Oy H e s' h).elim
  |ok fl=>
   cases fl with
   |next=>exact False.elim h
   |brk=>exact False.elim h
   |cont=>exact False.elim h
   |ret u=>
    obtain⟨v,H',os,bare,un,L7,r',q⟩:=h
    have q':v= .bl true:=q
    subst q'
    obtain rfl:u=Value.bool true:=r'
    refine⟨U,OldK.of_keep fun b o e=> ?_,os,bare⟩
    cases q:H b with
    |none=>exact un.keep b o e q (by intro z;exact absurd (show b∈([]:List Addr)from z) (by simp)) (by simp)
    |some u=>
     rcases hO b with z|⟨ob,xs,z⟩
     . rw[q]at z;cases z
     have z2:=un.yp b ob _ z
     obtain⟨e1,_⟩:=dD b _ z
     obtain⟨e2,_⟩:=L7 b _ z2
     rw[e]at e1;cases e1
     exact e2
 cases hk:K.lookup a with
 |some o=>
  have e:=KX a o hk
  rw[ha]at e
  cases e
  refine core (fun _=>none) (fun _=> .inl rfl) (.inr ⟨_,vs.toArray,_,hk,rfl,rfl,rfl,by rw[abZ,VJ];exact hl,by simpa using rv⟩) (fun b u z=>by have z':(none:Option HO)=some u:=z;cases z') (fun b z=>absurd rfl z) fun z=>absurd rfl z
 |none=>
  refine core (fun b=>if b=a then some (.yo {cls:= .type "list",data:= .seq vs.toArray} (.lst (ns.map V.int)))else none) (fun b=> ?_) (.inl (.inr ⟨{cls:= .type "list",data:= .seq vs.toArray},if_pos rfl⟩)) (fun b u z=> ?_) (fun b z=> ?_) fun _=>hk
  . by_cases hb:b=a
    . exact .inr ⟨_,_,if_pos hb⟩
    exact .inl (if_neg hb)
  . by_cases hb:b=a
    . have z':=(if_pos hb).symm.trans z
      cases z'
      subst hb
      exact⟨ha,by rw[abI];exact hl,vs,_,rv,ha⟩
    have z':=(if_neg hb).symm.trans z
    cases z'
  by_cases hb:b=a
  . exact hb
  exact absurd (if_neg hb) z
end L2
namespace L2
open PySem PySem.Spec PyProof.Rows
end L2
namespace L2
open PySem PySem.Spec PyProof.Rows
noncomputable def inClass(s:Stmt)(j:Nat):Stmt:=match s with
 | .ClassDef _ _ _ body _ _ _ _ _ _ _=>body.getD j (.Pass ⟨0,0,0,0⟩)
 |_=> .Pass ⟨0,0,0,0⟩
noncomputable def sg(s:Stmt):Arguments:=match s with
 | .FunctionDef _ a _ _ _ _ _ _ _ _=>a
 |_=>{posonlyargs:=[],args:=[],vararg:=none,kwonlyargs:=[],kw_defaults:=[],kwarg:=none,defaults:=[]}
noncomputable def oQ(s:Stmt):List Stmt:=match s with
 | .FunctionDef _ _ b _ _ _ _ _ _ _=>b
 |_=>[]
noncomputable def ao(s:Stmt):Scope:=match s with
 | .FunctionDef _ _ _ _ _ _ sc _ _ _=>sc
 |_=>{kind:= .function,names:=[],isGenerator:=false,isCoroutine:=false}
abbrev eD:HP:=fun _ _ _ _ _ _=>False
abbrev E0:XK:=fun _ _ _=>False
theorem Bf{X:Cx}:Passes eD X E0:=fun _ _ _ _ _ _ _ h=>h.elim
structure eH(K:PySem.W.Frag)(x qual:Str)(st:Stmt)(f:Addr)(fd:FuncData):Prop where
 ex:∃(oc:Value)(od:Option Addr)(kV doc pm:Value)(an:Option Addr)(dz ct:Value)(B3:Array (Option Value)),
  fd=PySem.W.fnOf x qual (sg st) (oQ st) (ao st) .none kV doc pm an dz ct/\K.lookup f=some ⟨oc,od, .func fd,B3⟩/\PySem.W.codeIn K dz qual=true
 kp:PySem.W.keepIn K (.ref f)=true
section
variable{P:Program}{w:World}{K:PySem.W.Frag}{mg:Str->Option Value}{base:Heap}
theorem eH.ok {x qual:Str} {st:Stmt} {f:Addr} {fd:FuncData} {N ps:List Str} {k:Nat} {sp:Sp} (F:eH K x qual st f fd) (S:aB N ps (ao st)) (len:∀vs H Q E,sp vs H Q E->vs.length=ps.length)
 (JQ:∀(dz:Value)(A:Around)(outer:List Env)(s:Shared)(H:Hp)(vs:List V)(Q:VK)(E:XK),gg k (A.deeper (envOfC qual (ao st) s.heap.objs.size f dz))->sp vs H Q E->
  ∃t,HH (HQ eD P w K mg base N qual (ao st) f dz A outer s H E).T4 (oQ st) t/\t {nx:=fun _ H'=>Q .dR H',rt:=Q} (start N vs) H):bq P w K mg base eD (k+1) f fd ps sp:=by
 obtain⟨oc,od,kV,doc,pm,an,dz,ct,B3,rfl,lk,Ls⟩:=F.ex
 refine Rn lk Ls S len fun A outer s H vs Q E hr EX=> ?_
 obtain⟨t,h,q⟩:=JQ dz A outer s H vs Q E hr EX
 exact⟨t,h.T4,q⟩
theorem eH.binds {x qual:Str} {st:Stmt} {f:Addr} {fd:FuncData} {ps:List Str} (F:eH K x qual st f fd)
 (h:∀(kV doc pm:Value)(an:Option Addr)(dz ct:Value)(us:List Value),us.length=ps.length->bindArgs (PySem.W.fnOf x qual (sg st) (oQ st) (ao st) .none kV doc pm an dz ct) ⟨us,[]⟩=pure (ps.zip us)):Binds K fd ps []:=by
 obtain⟨oc,od,kV,doc,pm,an,dz,ct,B3,rfl,lk,Ls⟩:=F.ex
 exact .all (h kV doc pm an dz ct)
theorem J7{x qual:Str}{st:Stmt}{f:Addr}{oc:Value}{od an:Option Addr}{B3:Array (Option Value)}{kV doc pm dz ct:Value}(l:K.lookup f=some ⟨oc,od, .func (PySem.W.fnOf x qual (sg st) (oQ st) (ao st) .none kV doc pm an dz ct),B3⟩)
 (c:PySem.W.codeIn K dz qual=true) (k:PySem.W.keepIn K (.ref f)=true):eH K x qual st f (PySem.W.fnOf x qual (sg st) (oQ st) (ao st) .none kV doc pm an dz ct):=⟨⟨oc,od,kV,doc,pm,an,dz,ct,B3,rfl,l,c⟩,k⟩
end
section
variable{X:Cx}
theorem pv(i:Nat){x:Str}{pos:Pos}(hN:X.N[i]?=some x:=by rfl)(hv:Qx X.env.scope x:=by first|exact Or.inl rfl|exact Or.inr oi|exact Or.inr oj)(hd:(x==("__debug__":Str))=false:=by decide)
 (Ls:(x==("__classdict__":Str))=false:=by decide):PE X (.Name x pos) (cT i):=N2 hN hv hd Ls
end
theorem VL{A B:Prop}(h:A):if true=true then A else B:=by
 rw[if_pos rfl]
 exact h
theorem aK{c A B:Prop} [Decidable c](h1:c->A)(h2:¬c->B):if c then A else B:=by
 by_cases h:c
 . rw[if_pos h]
   exact h1 h
 rw[if_neg h]
 exact h2 h
def ak(H H':Hp):Prop:=∀b o,H b=some o->H' b=some o
theorem ak.refl (H:Hp):ak H H:=fun _ _ h=>h
theorem ak.trans {H H1 H2:Hp} (a:ak H H1) (b:ak H1 H2):ak H H2:=fun c o h=>b c o (a c o h)
theorem ak.free {H H':Hp} (e:ak H H') {l:Addr} (h:H' l=Option.none):H l=Option.none:=by
 cases q:H l with
 |none=>rfl
 |some o=>
  rw[e l o q]at h
  cases h
theorem ak.seq {K:PySem.W.Frag} {H H':Hp} {a:Addr} {xs:List V} (e:ak H H') (h:aW K H a xs):aW K H' a xs:=by
 rcases h with(h|⟨o,h⟩)|h
 . exact .inl (.inl (e _ _ h))
 . exact .inl (.inr ⟨o,e _ _ h⟩)
 exact .inr h
section
variable{κ:Type} [DecidableEq κ]
end
theorem RL{α:Type}{l:List α}(hN:l.Nodup){i j:Nat}{x:α}(a:l[i]?=some x)(b:l[j]?=some x):i=j:=by
 obtain⟨h1,e1⟩:=abt.mp a
 obtain⟨h2,e2⟩:=abt.mp b
 exact(List.getElem_inj hN).mp (e1.trans e2.symm)
end L2
section
namespace L2
open PySem PySem.Spec PyProof.Rows
open PySem.W (WData Codec OpenSpec Well WellAll ReadsW ReadsAllW)
mutual
inductive Dw(K:PySem.W.Frag)(H:Hp):V->WData->Prop
 |dR:Dw K H .dR .none
 |bl (b:Bool):Dw K H (.bl b) (.bool b)
 |int (i:Int):Dw K H (.int i) (.int i)
 |str (x:Str):Dw K H (.str x) (.str x)
 |EW (b:Array UInt8):Dw K H (.EW b) (.bytes b.toList)
 |lst {a:Addr} {xs:List V} {ds:List WData}:aW K H a xs->p8 K H xs ds->Dw K H (.ref a) (.list ds)
 |tup {a:Addr} {xs:List V} {ds:List WData}:xq K H a xs->p8 K H xs ds->Dw K H (.ref a) (.tuple ds)
inductive p8(K:PySem.W.Frag)(H:Hp):List V->List WData->Prop
 |nil:p8 K H [] []
 |cons {v:V} {vs:List V} {d:WData} {ds:List WData}:Dw K H v d->p8 K H vs ds->p8 K H (v::vs) (d::ds)
end
theorem GR{K:PySem.W.Frag}{H:Hp}:∀ns:List Int,p8 K H (ns.map V.int) (ns.map WData.int)
 |[]=> .nil
 |n::r=> .cons (.int n) (GR r)
theorem GS{K:PySem.W.Frag}{H:Hp}:∀(ns:List Int)(xs:List V),p8 K H xs (ns.map WData.int)->xs=ns.map V.int
 |[],xs,h=>by
  cases h
  rfl
 |n::r,xs,h=>by
  cases h with
  |cons h1 h2=>
   cases h1
   rw[GS r _ h2]<;>rfl
section
variable{P:Program}{w:World}{K:PySem.W.Frag}{H:Hp}{h:Heap}{R:PySem.W.WRecords}{cl:Str->Option Addr}
theorem Oz{a:Addr}{xs:List V}(dD:uf P w H h)(KX:K.In h)(q:aW K H a xs):∃(bp:List Value)(o:Obj)(n:Nat),Vals xs bp/\h.get? a=some o/\o.cls= .type "list"/\o.data= .seq bp.toArray n:=by
 rcases q with q|⟨o,bp,n,e,hc,_,hd,_,hv⟩
 . obtain⟨_,bp,n,hv,e⟩:=(show i4 P w H h a (.lst xs)from q.ok dD)
   exact⟨bp,_,n,hv,e,U,U⟩
 exact⟨bp.toList,o,n,hv,KX _ _ e,hc,by simp[hd]⟩
theorem OA{a:Addr}{xs:List V}(dD:uf P w H h)(KX:K.In h)(q:xq K H a xs):∃(bp:List Value)(o:Obj)(n:Nat),Vals xs bp/\h.get? a=some o/\o.cls= .type "tuple"/\o.data= .seq bp.toArray n:=by
 rcases q with q|⟨o,bp,n,e,hc,hd,_,hv⟩
 . obtain⟨_,bp,hv,o,e,hc,n,hd⟩:=(show i4 P w H h a (.tup xs)from q.ok dD)
   exact⟨bp,o,n,hv,e,hc,hd⟩
 exact⟨bp.toList,o,n,hv,KX _ _ e,hc,by simp[hd]⟩
mutual
theorem Dw.reads (dD:uf P w H h) (KX:K.In h):∀(d:WData)(v:V)(u:Value),Dw K H v d->RelV v u->∃as,ReadsW R cl h u d as
 | .none,_,_,x,r=>by
  cases x
  cases r
  exact⟨_,ReadsW.none⟩
 | .bool b,_,_,x,r=>by
  cases x
  cases r
  exact⟨_,ReadsW.bool b⟩
 | .int i,_,_,x,r=>by
  cases x
  obtain⟨t,rfl⟩:=r
  exact⟨_,ReadsW.int i t⟩
 | .str s,_,_,x,r=>by
  cases x
  obtain⟨t,rfl⟩:=r
  exact⟨_,ReadsW.str s t⟩
 | .bytes b,_,_,x,r=>by
  cases x
  obtain⟨t,rfl⟩:=r
  exact⟨_,ReadsW.bytes _ t⟩
 | .list ds,_,_,x,r=>by
  cases x with
  |lst hs ha=>
   cases r
   obtain⟨bp,o,n,rv,ho,hc,hd⟩:=Oz dD KX hs
   obtain⟨as,hr⟩:=Dw.readsAll dD KX ds _ bp ha rv
   exact⟨_,ReadsW.list ho hc hd hr⟩
 | .tuple ds,_,_,x,r=>by
  cases x with
  |tup hs ha=>
   cases r
   obtain⟨bp,o,n,rv,ho,hc,hd⟩:=OA dD KX hs
   obtain⟨as,hr⟩:=Dw.readsAll dD KX ds _ bp ha rv
   exact⟨_,ReadsW.tuple ho hc hd hr⟩
 | .float _,_,_,x,_=>by cases x
 | .dict _,_,_,x,_=>by cases x
 | .bytearray _,_,_,x,_=>by cases x
 | .set _,_,_,x,_=>by cases x
 | .frozenset _,_,_,x,_=>by cases x
 | .obj _ _,_,_,x,_=>by cases x
theorem Dw.readsAll (dD:uf P w H h) (KX:K.In h):∀(ds:List WData)(vs:List V)(us:List Value),p8 K H vs ds->Vals vs us->∃as,ReadsAllW R cl h us ds as
 |[],_,_,x,r=>by
  cases x
  cases r
  exact⟨_,ReadsAllW.nil⟩
 |d::ds,_,_,x,r=>by
  cases x with
  |cons h1 h2=>
   cases r with
   |cons r1 r2=>
    obtain⟨as,q1⟩:=Dw.reads dD KX d _ _ h1 r1
    obtain⟨bs,q2⟩:=Dw.readsAll dD KX ds _ _ h2 r2
    exact⟨_,ReadsAllW.cons q1 q2⟩
end
end
mutual
def GU:WData->Bool
 | .none=>true
 | .bool _=>true
 | .int _=>true
 | .str _=>true
 | .bytes _=>true
 | .list xs=>xt xs
 | .tuple xs=>xt xs
 |_=>false
def xt:List WData->Bool
 |[]=>true
 |x::r=>GU x&&xt r
end
theorem DC{α:Type}{f:α->WData}(h:∀a,GU (f a)=true):∀l:List α,xt (l.map f)=true
 |[]=>rfl
 |x::r=>by
  show(GU (f x)&&xt (r.map f))=true
  rw[h x,DC h r]<;>rfl
theorem qP:∀(c:Codec)(a:c.denote),GU (c.enc a)=true
 | .unit,_=>rfl
 | .bool,_=>rfl
 | .int _ _,_=>rfl
 | .nat _ _,_=>rfl
 | .u8,_=>rfl
 | .bytes _ _,_=>rfl
 | .text _ _ _ _,_=>rfl
 | .list _ _ c,a=>DC (fun x=>qP c x) a
 | .pair c d,a=>by
  show(GU (c.enc a.1)&&(GU (d.enc a.2)&&true))=true
  rw[qP c a.1,qP d a.2]<;>rfl
 | .triple c d e,a=>by
  show(GU (c.enc a.1)&&(GU (d.enc a.2.1)&&(GU (e.enc a.2.2)&&true)))=true
  rw[qP c a.1,qP d a.2.1,qP e a.2.2]<;>rfl
 | .option c,none=>rfl
 | .option c,some x=>qP c x
theorem Bg:∀(cs:List Codec)(a:Codec.denoteAll cs),xt (Codec.encAll cs a)=true
 |[],_=>rfl
 |c::cs,a=>by
  show(GU (c.enc a.1)&&xt (Codec.encAll cs a.2))=true
  rw[qP c a.1,Bg cs a.2]<;>rfl
theorem tD:∀{xs:List WData}{d:WData},d∈xs->d.weight<=WData.weightAll xs
 |[],d,h=>absurd h (by simp)
 |x::r,d,h=>by
  show d.weight<=x.weight+1+WData.weightAll r
  rcases abo.mp h with e|m
  . rw[e]
    lia
  have z:=tD m
  lia
noncomputable def toV:Value->V
 | .none=> .dR
 | .bool b=> .bl b
 | .int i _=> .int i
 | .str x _=> .str x
 | .bytes b _=> .EW b
 | .ref a=> .ref a
 |_=> .dR
def HY(A:List Addr):Value->Prop
 | .none=>True
 | .bool _=>True
 | .int _ _=>True
 | .str _ _=>True
 | .bytes _ _=>True
 | .ref a=>a∈A
 |_=>False
theorem HY.mono {A B:List Addr} (h:∀a∈A,a∈B):∀{u:Value},HY A u->HY B u:=fun{u}x=>by
 cases u with
 |ref a=>exact h a x
 |none=>trivial
 |bool b=>trivial
 |int i t=>trivial
 |str s t=>trivial
 |bytes b t=>trivial
 |_=>exact False.elim x
theorem J8{A:List Addr}{u:Value}(x:HY A u):RelV (toV u) u:=by
 cases u with
 |ref a=>rfl
 |none=>rfl
 |bool b=>rfl
 |int i t=>exact⟨t,rfl⟩
 |str s t=>exact⟨t,rfl⟩
 |bytes b t=>exact⟨t,rfl⟩
 |_=>exact False.elim x
theorem og{A:List Addr}:∀{vs:List Value},(∀u∈vs,HY A u)->Vals (vs.map toV) vs
 |[],_=> .nil
 |u::r,h=> .cons (J8 (h u (abm ..))) (og fun x hx=>h x (abn _ hx))
def p9(h:Heap)(A:List Addr)(a:Addr):Prop:=∃vs:List Value,vs.length<=sizeLine/\(∀u∈vs,HY A u)/\
 (h.get? a=some {cls:= .type "list",data:= .seq vs.toArray}\/h.get? a=some {cls:= .type "tuple",data:= .seq vs.toArray})
theorem p9.mono {h:Heap} {A B:List Addr} {a:Addr} (k:∀a∈A,a∈B) (x:p9 h A a):p9 h B a:=by
 obtain⟨vs,h1,h2,h3⟩:=x
 exact⟨vs,h1,fun u hu=>(h2 u hu).mono k,h3⟩
theorem mQ{P:Params}{h:Heap}:∀{vs:List Value}{ds:List WData},WellAll P h vs ds->vs.length=ds.length
 |_,_, .nil=>rfl
 |_,_, .cons _ b=>by
  show _+1=_+1
  rw[mQ b]
theorem Bh{P:Params}{h:Heap}{v:Value}{ds:List WData}(x:Well P h v (.list ds)):∃(a:Addr)(vs:List Value),v= .ref a/\h.get? a=some {cls:= .type "list",data:= .seq vs.toArray}/\WellAll P h vs ds:=by
 cases x with
 |list ho tE=>exact⟨_,_,rfl,ho,tE⟩
theorem yG{P:Params}{h:Heap}{v:Value}{ds:List WData}(x:Well P h v (.tuple ds)):∃(a:Addr)(vs:List Value),v= .ref a/\h.get? a=some {cls:= .type "tuple",data:= .seq vs.toArray}/\WellAll P h vs ds:=by
 cases x with
 |tuple ho tE=>exact⟨_,_,rfl,ho,tE⟩
theorem Bi{P:Params}{h:Heap}{us:List Value}{d:WData}{ds:List WData}(x:WellAll P h us (d::ds)):∃(v:Value)(vs:List Value),us=v::vs/\Well P h v d/\WellAll P h vs ds:=by
 cases x with
 |cons a b=>exact⟨_,_,rfl,a,b⟩
theorem GV{n:Nat}(h:n<=1048576):n<=sizeLine:=abk h (by decide)
section
variable{P:Params}{h:Heap}
mutual
theorem J9:∀(d:WData)(v:Value),Well P h v d->GU d=true->d.weight<=1048576->∃A:List Addr,HY A v/\∀a∈A,p9 h A a
 | .none,_,x,_,_=>by
  cases x
  exact⟨[],trivial,fun a m=>absurd m (by simp)⟩
 | .bool b,_,x,_,_=>by
  cases x
  exact⟨[],trivial,fun a m=>absurd m (by simp)⟩
 | .int i,_,x,_,_=>by
  cases x
  exact⟨[],trivial,fun a m=>absurd m (by simp)⟩
 | .str s,_,x,_,_=>by
  cases x
  exact⟨[],trivial,fun a m=>absurd m (by simp)⟩
 | .bytes b,_,x,_,_=>by
  cases x
  exact⟨[],trivial,fun a m=>absurd m (by simp)⟩
 | .list ds,_,x,p,z=>by
  obtain⟨a,vs,rfl,ho,tE⟩:=Bh x
  have z2:WData.weightAll ds<=1048576:=z
  obtain⟨A,h1,h2⟩:=ur ds _ tE p fun d hd=>abk (tD hd) z2
  have k:∀b∈A,b∈a::A:=fun b hb=>abn _ hb
  refine⟨a::A,abm ..,fun b hb=> ?_⟩
  rcases abo.mp hb with e|m
  . rw[e]
    exact⟨vs,GV (by rw[mQ tE];exact abk (PySem.W.length_le_weightAllW ds) z2),fun u hu=>(h1 u hu).mono k, .inl ho⟩
  exact(h2 b m).mono k
 | .tuple ds,_,x,p,z=>by
  obtain⟨a,vs,rfl,ho,tE⟩:=yG x
  have z2:WData.weightAll ds<=1048576:=z
  obtain⟨A,h1,h2⟩:=ur ds _ tE p fun d hd=>abk (tD hd) z2
  have k:∀b∈A,b∈a::A:=fun b hb=>abn _ hb
  refine⟨a::A,abm ..,fun b hb=> ?_⟩
  rcases abo.mp hb with e|m
  . rw[e]
    exact⟨vs,GV (by rw[mQ tE];exact abk (PySem.W.length_le_weightAllW ds) z2),fun u hu=>(h1 u hu).mono k, .inr ho⟩
  exact(h2 b m).mono k
 | .float _,_,_,p,_=>Bool.noConfusion (show false=true from p)
 | .dict _,_,_,p,_=>Bool.noConfusion (show false=true from p)
 | .bytearray _,_,_,p,_=>Bool.noConfusion (show false=true from p)
 | .set _,_,_,p,_=>Bool.noConfusion (show false=true from p)
 | .frozenset _,_,_,p,_=>Bool.noConfusion (show false=true from p)
 | .obj _ _,_,_,p,_=>Bool.noConfusion (show false=true from p)
theorem ur:∀(ds:List WData)(vs:List Value),WellAll P h vs ds->xt ds=true->(∀d∈ds,d.weight<=1048576)->∃A:List Addr,(∀u∈vs,HY A u)/\∀a∈A,p9 h A a
 |[],_,x,_,_=>by
  cases x
  exact⟨[],fun u m=>absurd m (by simp),fun a m=>absurd m (by simp)⟩
 |d::ds,_,x,p,z=>by
  obtain⟨v,vs,rfl,x1,x2⟩:=Bi x
  have q:GU d=true/\xt ds=true:=Bool.and_eq_true_iff.mp p
  obtain⟨A,a1,a2⟩:=J9 d v x1 q.1 (z d (abm ..))
  obtain⟨B,b1,b2⟩:=ur ds vs x2 q.2 fun e he=>z e (abn _ he)
  have kA:∀b∈A,b∈A++B:=fun b hb=>abq.mpr (.inl hb)
  have kB:∀b∈B,b∈A++B:=fun b hb=>abq.mpr (.inr hb)
  refine⟨A++B,fun u hu=> ?_,fun b hb=> ?_⟩
  . rcases abo.mp hu with e|m
    . rw[e]
      exact a1.mono kA
    exact(b1 u m).mono kB
  rcases abq.mp hb with m|m
  . exact(a2 b m).mono kA
  exact(b2 b m).mono kB
end
end
def L8(o:Obj):Option HO:=match o.data with
 | .seq vs _=>if(o.cls==Value.type "list")=true then some (.yo o (.lst (vs.toList.map toV)))else some (.yo o (.tup (vs.toList.map toV)))
 |_=>none
def oR(K:PySem.W.Frag)(h:Heap)(A:List Addr):Hp:=fun b=>if b∈A then(if(K.lookup b).isNone=true then(h.get? b).bind L8 else none)else none
def Bj(H:Hp):Prop:=∀b,H b=none\/∃o u,H b=some (.yo o u)
theorem DD(vs:List Value):L8 {cls:= .type "list",data:= .seq vs.toArray}=some (.yo {cls:= .type "list",data:= .seq vs.toArray} (.lst (vs.map toV))):=by
 show(if(Value.type "list"==Value.type "list")=true then some (HO.yo {cls:= .type "list",data:= .seq vs.toArray} (.lst (vs.toArray.toList.map toV)))else some (HO.yo {cls:= .type "list",data:= .seq vs.toArray} (.tup (vs.toArray.toList.map toV))))=_
 rw[if_pos (beq_self_eq_true _)]
theorem DE(vs:List Value):L8 {cls:= .type "tuple",data:= .seq vs.toArray}=some (.yo {cls:= .type "tuple",data:= .seq vs.toArray} (.tup (vs.map toV))):=by
 show(if(Value.type "tuple"==Value.type "list")=true then some (HO.yo {cls:= .type "tuple",data:= .seq vs.toArray} (.lst (vs.toArray.toList.map toV)))else some (HO.yo {cls:= .type "tuple",data:= .seq vs.toArray} (.tup (vs.toArray.toList.map toV))))=_
 rw[if_neg (by decide)]
section
variable{P:Program}{w:World}{K:PySem.W.Frag}{h:Heap}{A:List Addr}
theorem x6{b:Addr}{o:Obj}(hb:b∈A)(hk:K.lookup b=none)(e:h.get? b=some o):oR K h A b=L8 o:=by
 unfold oR
 rw[if_pos hb,hk,if_pos (show(none:Option Obj).isNone=true from rfl),e]<;>rfl
theorem L9{b:Addr}{u:HO}(q:oR K h A b=some u):b∈A/\K.lookup b=none:=by
 unfold oR at q
 by_cases hb:b∈A
 . rw[if_pos hb]at q
   cases hk:K.lookup b with
   |none=>exact⟨hb,rfl⟩
   |some o=>
    rw[hk,if_neg (by simp)]at q
    cases q
 rw[if_neg hb]at q
 cases q
theorem x8(ar:∀a∈A,p9 h A a){b:Addr}{u:HO}(q:oR K h A b=some u):K.lookup b=none/\∃vs:List Value,vs.length<=sizeLine/\(∀u∈vs,HY A u)/\
 ((h.get? b=some {cls:= .type "list",data:= .seq vs.toArray}/\u= .yo {cls:= .type "list",data:= .seq vs.toArray} (.lst (vs.map toV)))\/
  (h.get? b=some {cls:= .type "tuple",data:= .seq vs.toArray}/\u= .yo {cls:= .type "tuple",data:= .seq vs.toArray} (.tup (vs.map toV)))):=by
 obtain⟨hb,hk⟩:=L9 q
 obtain⟨vs,h1,h2,h3⟩:=ar b hb
 refine⟨hk,vs,h1,h2, ?_⟩
 rcases h3 with e|e
 . rw[x6 hb hk e,DD]at q
   exact .inl ⟨e,(Option.some.inj q).symm⟩
 rw[x6 hb hk e,DE]at q
 exact .inr ⟨e,(Option.some.inj q).symm⟩
theorem HZ(ar:∀a∈A,p9 h A a):Bj (oR K h A):=fun b=>by
 cases q:oR K h A b with
 |none=>exact .inl rfl
 |some u=>
  obtain⟨_,vs,_,_,⟨_,e⟩|⟨_,e⟩⟩:=x8 ar q
  . exact .inr ⟨_,_,by rw[e]⟩
  exact .inr ⟨_,_,by rw[e]⟩
theorem Ma(ar:∀a∈A,p9 h A a):uf P w (oR K h A) h:=fun b u q=>by
 obtain⟨_,vs,h1,h2,⟨e,rfl⟩|⟨e,rfl⟩⟩:=x8 ar q
 . exact⟨e,by rw[abI];exact h1,vs,_,og h2,e⟩
 exact⟨e,by rw[abI];exact h1,vs,og h2,_,e,U,_,U⟩
theorem x9{c c':Value}{vs us:List Value}(e:(some {cls:=c,data:= .seq vs.toArray}:Option Obj)=some {cls:=c',data:= .seq us.toArray}):c=c'/\vs=us:=by
 have e1:=Option.some.inj e
 have e2:c=c':=congrArg Obj.cls e1
 have e3:Data.seq vs.toArray=Data.seq us.toArray:=congrArg Obj.data e1
 injection e3 with e4
 refine⟨e2, ?_⟩
 have e5:=congrArg Array.toList e4
 simpa using e5
theorem VM(KX:K.In h)(ar:∀a∈A,p9 h A a){a:Addr}{vs:List Value}(ha:a∈A)(e:h.get? a=some {cls:= .type "list",data:= .seq vs.toArray}):(∀u∈vs,HY A u)/\aW K (oR K h A) a (vs.map toV):=by
 obtain⟨us,h1,h2,h3⟩:=ar a ha
 have hu:us=vs:=by
  rcases h3 with q|q
  . rw[e]at q
    exact(x9 q).2.symm
  rw[e]at q
  exact absurd (Value.type.inj (x9 q).1) (by decide)
 subst hu
 refine⟨h2, ?_⟩
 cases hk:K.lookup a with
 |none=>exact .inl (.inr ⟨_,by rw[x6 ha hk e,DD]⟩)
 |some o=>
  have e2:=KX a o hk
  rw[e]at e2
  obtain rfl:=Option.some.inj e2
  exact .inr ⟨_,us.toArray,_,hk,rfl,rfl,rfl,by rw[abZ];exact h1,by simpa using og h2⟩
theorem VN(KX:K.In h)(ar:∀a∈A,p9 h A a){a:Addr}{vs:List Value}(ha:a∈A)(e:h.get? a=some {cls:= .type "tuple",data:= .seq vs.toArray}):(∀u∈vs,HY A u)/\xq K (oR K h A) a (vs.map toV):=by
 obtain⟨us,h1,h2,h3⟩:=ar a ha
 have hu:us=vs:=by
  rcases h3 with q|q
  . rw[e]at q
    exact absurd (Value.type.inj (x9 q).1) (by decide)
  rw[e]at q
  exact(x9 q).2.symm
 subst hu
 refine⟨h2, ?_⟩
 cases hk:K.lookup a with
 |none=>exact .inl (.inr ⟨_,by rw[x6 ha hk e,DE]⟩)
 |some o=>
  have e2:=KX a o hk
  rw[e]at e2
  obtain rfl:=Option.some.inj e2
  exact .inr ⟨_,us.toArray,_,hk,rfl,rfl,by rw[abZ];exact h1,by simpa using og h2⟩
mutual
theorem OB{Pm:Params}(KX:K.In h)(ar:∀a∈A,p9 h A a):∀(d:WData)(v:Value),Well Pm h v d->GU d=true->HY A v->Dw K (oR K h A) (toV v) d
 | .none,_,x,_,_=>by
  cases x
  exact .dR
 | .bool b,_,x,_,_=>by
  cases x
  exact .bl b
 | .int i,_,x,_,_=>by
  cases x
  exact .int i
 | .str s,_,x,_,_=>by
  cases x
  exact .str s
 | .bytes b,_,x,_,_=>by
  cases x
  have z:=Dw.EW (K:=K) (H:=oR K h A) b.toArray
  exact z
 | .list ds,_,x,p,hu=>by
  obtain⟨a,vs,rfl,ho,tE⟩:=Bh x
  obtain⟨h2,hs⟩:=VM KX ar hu ho
  exact .lst hs (B8 KX ar ds _ tE p h2)
 | .tuple ds,_,x,p,hu=>by
  obtain⟨a,vs,rfl,ho,tE⟩:=yG x
  obtain⟨h2,hs⟩:=VN KX ar hu ho
  exact .tup hs (B8 KX ar ds _ tE p h2)
 | .float _,_,_,p,_=>Bool.noConfusion (show false=true from p)
 | .dict _,_,_,p,_=>Bool.noConfusion (show false=true from p)
 | .bytearray _,_,_,p,_=>Bool.noConfusion (show false=true from p)
 | .set _,_,_,p,_=>Bool.noConfusion (show false=true from p)
 | .frozenset _,_,_,p,_=>Bool.noConfusion (show false=true from p)
 | .obj _ _,_,_,p,_=>Bool.noConfusion (show false=true from p)
theorem B8{Pm:Params}(KX:K.In h)(ar:∀a∈A,p9 h A a):∀(ds:List WData)(vs:List Value),WellAll Pm h vs ds->xt ds=true->(∀u∈vs,HY A u)->p8 K (oR K h A) (vs.map toV) ds
 |[],_,x,_,_=>by
  cases x
  exact .nil
 |d::ds,_,x,p,hu=>by
  obtain⟨v,vs,rfl,x1,x2⟩:=Bi x
  have q:GU d=true/\xt ds=true:=Bool.and_eq_true_iff.mp p
  exact .cons (OB KX ar d v x1 q.1 (hu _ (abm ..))) (B8 KX ar ds vs x2 q.2 fun u m=>hu u (abn _ m))
end
end
theorem Ia{P:Program}{w:World}{K:PySem.W.Frag}{mg mb:Str->Option Value}{CX:HP}{k:Nat}{fa:Addr}{fd:FuncData}{ps:List Str}{sp:Sp}{bZ:Shared}{vals:List Value}{ds:List WData}{R:PySem.W.WRecords}{cl:Str->Option Addr}{d0:WData}
 (KX:K.In bZ.heap) (RJ:bZ.heap.Ns mainGlobals mg) (hb:bZ.heap.Ns builtinsNs mb) (QF:∀x:Str,x≠"__name__"->mb x=bootBuiltins x) (Ox:bZ.heap.NoLimit) (hg:bZ.gens= #[])
 (Mb:WellAll w.params bZ.heap vals ds) (qJ:xt ds=true) (Zf:∀d∈ds,d.weight<=1048576) (hr:gg k callerA)
 (F:∀base:Heap,K.In base->base.Ns mainGlobals mg->bq P w K mg base CX k fa fd ps sp) (DB:∀(s:Shared)(us:List Value),us.length=ps.length->BindsTo s fd ⟨us,[]⟩ (ps.zip us)) (hlen:ds.length=ps.length)
 (EX:∀(H:Hp)(xs:List V),Bj H->p8 K H xs ds->sp xs H (fun v H'=>Dw K H' v d0) fun _ _ _=>False)
 (Oy:∀H e s',CX [] H bZ (fun _ _ _=>False) e s'->False):
 codeAny (model P w) callerA (.call (.ref fa) ⟨vals,[]⟩) (fun r s'=>∃u as,r= .ok (.ret u)/\ReadsW R cl s'.heap u d0 as/\OldK bZ.heap s'.heap/\s'.os=bZ.os/\AllBare s'.gens) bZ:=by
 obtain⟨A,ho,ar⟩:=ur ds vals Mb qJ Zf
 have hO:Bj (oR K bZ.heap A):=HZ ar
 have dD:uf P w (oR K bZ.heap A) bZ.heap:=Ma ar
 have hS:=B8 KX ar ds vals Mb qJ ho
 have hV:=og ho
 have hK:∀b u,oR K bZ.heap A b=some u->K.lookup b=none:=fun b u q=>(x8 ar q).1
 have Nv:∀{b:Addr}{o:Obj}{es:Array DictEntry}{ep:Nat},bZ.heap.get? b=some o->o.data= .dict es ep->oR K bZ.heap A b=none:=fun{b o es ep}e d=>by
  cases q:oR K bZ.heap A b with
  |none=>rfl
  |some u=>
   obtain⟨_,vs,_,_,⟨e2,_⟩|⟨e2,_⟩⟩:=x8 ar q
   . rw[e2]at e
     cases e
     have d':Data.seq vs.toArray _=Data.dict es ep:=d
     cases d'
   rw[e2]at e
   cases e
   have d':Data.seq vs.toArray _=Data.dict es ep:=d
   cases d'
 generalize oR K bZ.heap A=H at hO dD hS hK Nv
 have uq:∀{b:Addr}{o:Obj},bZ.heap.get? b=some o->H b=none->(ui bZ.heap H).get? b=some o:=fun e n=>De e n
 have L6:∀{b:Addr}{m:Str->Option Value},bZ.heap.Ns b m->(ui bZ.heap H).Ns b m:=fun{b m}⟨o,es,ep,e,d,r⟩=>⟨o,es,ep,uq e (Nv e d),d,r⟩
 have nK:∀b o,K.lookup b=some o->H b=none:=fun b o e=>by
  cases q:H b with
  |none=>rfl
  |some u=>
   rw[hK b u q]at e
   cases e
 have RK:K.In (ui bZ.heap H):=fun b o e=>uq (KX b o e) (nK b o e)
 have hM:Mod K mg (ui bZ.heap H):=⟨RK,L6 RJ,⟨mb,L6 hb,QF⟩,let⟨mc,h1,h2⟩:=Ox;⟨mc,L6 h1,h2⟩⟩
 have e0:Dm P w K mg (ui bZ.heap H) callerA [] bZ H:=⟨rfl,hM,fun b o e=>Gw e,abK (AQ _ _),trivial,fun b hb=>absurd (show b∈([]:List Addr)from hb) (by simp),dD, .of_eq hg⟩
 have hl:vals.length=ps.length:=by rw[mQ Mb];exact hlen
 refine codeAny_mono ((F _ RK (L6 RJ)).run callerA [] bZ H ⟨vals,[]⟩ vals (vals.map toV) _ _ hr e0 (DB bZ vals hl) hV (EX H _ hO hS)) fun r s' x=> ?_
 cases r with
 |error e=>exact(Oy H e s' x).elim
 |ok fl=>
  cases fl with
  |next=>exact False.elim x
  |brk=>exact False.elim x
  |cont=>exact False.elim x
  |ret u=>
   obtain⟨v,H',os,bare,un,L7,r',q⟩:=x
   have kept:∀b o,bZ.heap.get? b=some o->s'.heap.get? b=some o:=fun b o e=>by
    cases q2:H b with
    |none=>exact un.keep b o e q2 (by intro z;exact absurd (show b∈([]:List Addr)from z) (by simp)) (by simp)
    |some u2=>
     rcases hO b with z|⟨ob,u3,z⟩
     . rw[q2]at z
       cases z
     have z2:=un.yp b ob _ z
     obtain⟨e1,_⟩:=dD b _ z
     obtain⟨e2,_⟩:=L7 b _ z2
     rw[e]at e1
     cases e1
     exact e2
   have Zg:K.In s'.heap:=fun b o e=>kept b o (KX b o e)
   obtain⟨as,nX⟩:=Dw.reads (R:=R) (cl:=cl) L7 Zg d0 v u q r'
   exact⟨u,as,U,nX,OldK.of_keep kept,os,bare⟩
theorem yH{ds:List WData}(h:WData.layableAll ds=true):∀d∈ds,d.weight<=1048576:=fun d hd=>
 (PySem.W.layableW_iff.mp (ab9.mp h d hd)).2.2
theorem yI:∀(cs:List Codec)(a:Codec.denoteAll cs),(Codec.encAll cs a).length=cs.length
 |[],_=>rfl
 |c::cs,a=>by
  show(Codec.encAll cs a.2).length+1=cs.length+1
  rw[yI cs a.2]
theorem Ib{r:OpenSpec}{k:Nat}{q:Program}{loose:List Str}{XP:(Str->Option Value)->Heap->Prop}{YP:World->Heap->Prop}{d:DefRec}{K:Params->PySem.W.Frag}{CX:World->HP}{ps:List Str}{sp:World->Sp}
 (Ka:r.wellSaid=true) (Uj:d.params.defaults=[]) (hlen:r.args.length=ps.length) (hr:gg k callerA)
 (hY:∀(w:World)(h:Heap),YP w h->(K w.params).In h)
 (F:∀(w:World)(mg:Str->Option Value)(fa:Addr)(h:Heap),YP w h->(K w.params).In h->h.Ns mainGlobals mg->mg d.name=some (.ref fa)->
  ∃fd:FuncData,(∀(s:Shared)(us:List Value),us.length=ps.length->BindsTo s fd ⟨us,[]⟩ (ps.zip us))/\
   ∀base:Heap,(K w.params).In base->base.Ns mainGlobals mg->bq r.prog w (K w.params) mg base (CX w) k fa fd ps (sp w))
 (EX:∀(w:World)(H:Hp)(xs:List V)(a:Codec.denoteAll r.args),Bj H->Codec.withinAll r.args a=true->Codec.app r.args r.asked a=true->p8 (K w.params) H xs (Codec.encAll r.args a)->
  sp w xs H (fun v H'=>Dw (K w.params) H' v (r.ret.enc (Codec.app r.args r.f a))) fun _ _ _=>False)
 (Oy:∀(w:World)(H:Hp)(s:Shared)(e:Value)(s':Shared),CX w [] H s (fun _ _ _=>False) e s'->False):
 PySem.W.WalkOS q loose XP YP r d [] (fun f vs=>PySem.call f vs):=by
 intro w AR bZ mg mb G Y fa o pm cd doc dV kV ho hd Ls hD Uk hg args vals as VO VP nX Mb hlo
 obtain⟨a,e1,e2⟩:=PySem.W.os_pre_some VO
 obtain⟨e3,VQ⟩:=Codec.encAll_of_decAll r.args args a e1
 subst e3
 have KX:=hY w _ Y
 obtain⟨fd,hb,hF⟩:=F w mg fa _ Y KX G.T.g Uk
 refine PySem.W.enter_call (codeAny_mono (Ia (R:=[]) (cl:=classAt AR.heap) (d0:=r.ret.enc (Codec.app r.args r.f a)) KX G.T.g G.T.b G.T.builtins G.T.nolimit hg Mb (Bg _ _) (yH VP) hr hF hb (by rw[yI];exact hlen)
  (fun H xs hO hS=>EX w H xs a hO VQ e2 hS) fun H e s'=>Oy w H bZ e s') fun r' s' hq=> ?_)
 obtain⟨u,Zh,rfl,h1,h2,h3,h4⟩:=hq
 exact⟨.inl ⟨u,_,Zh,U,fun _=>rfl,h1,(OpenSpec.post_iff Ka VQ _ _).mpr rfl,fun z=>Bool.noConfusion (show false=true from z)⟩,h2,h3,h4⟩
theorem Fp{r:OpenSpec}{k:Nat}{q:Program}{loose:List Str}{XP:(Str->Option Value)->Heap->Prop}{YP:World->Heap->Prop}{d:DefRec}{K:Params->PySem.W.Frag}{CX:HP}{ps:List Str}{sp:PySem.W.Frag->Sp}
 (Ka:r.wellSaid=true) (Uj:d.params.defaults=[]) (hlen:r.args.length=ps.length) (hr:gg k callerA)
 (hY:∀(w:World)(h:Heap),YP w h->(K w.params).In h)
 (F:∀(w:World)(mg:Str->Option Value)(fa:Addr)(h:Heap),YP w h->(K w.params).In h->h.Ns mainGlobals mg->mg d.name=some (.ref fa)->
  ∃fd:FuncData,(∀(s:Shared)(us:List Value),us.length=ps.length->BindsTo s fd ⟨us,[]⟩ (ps.zip us))/\
   ∀base:Heap,(K w.params).In base->base.Ns mainGlobals mg->bq r.prog w (K w.params) mg base CX k fa fd ps (sp (K w.params)))
 (EX:∀(K:PySem.W.Frag)(H:Hp)(xs:List V)(a:Codec.denoteAll r.args),Bj H->Codec.withinAll r.args a=true->Codec.app r.args r.asked a=true->p8 K H xs (Codec.encAll r.args a)->
  sp K xs H (fun v H'=>Dw K H' v (r.ret.enc (Codec.app r.args r.f a))) fun _ _ _=>False)
 (Oy:∀(H:Hp)(s:Shared)(e:Value)(s':Shared),CX [] H s (fun _ _ _=>False) e s'->False):
 PySem.W.WalkOS q loose XP YP r d [] (fun f vs=>PySem.call f vs):=
 Ib (K:=K) (CX:=fun _=>CX) (sp:=fun w=>sp (K w.params)) Ka Uj hlen hr hY F (fun w H xs a h1 h2 h3 h4=>EX (K w.params) H xs a h1 h2 h3 h4) fun _ H s e s'=>Oy H s e s'
end L2
end
namespace Td
open Sg45
noncomputable def br:Int:=1000000
structure C3 where
 st:Nat
 co:Int
 gs:Int
structure Run where
 n:Nat
 k:Int
 cs:List C3
noncomputable def B9(p:Trip)(day:Nat)(k:Int)(i:Nat):C3:=⟨p.stopAt i,p.comes day k i,p.goes day k i⟩
def bY(p:Trip)(day:Nat)(k:Int):List C3:=(List.range p.calls.length).map (B9 p day k)
def runOf(day:Nat)(z:Nat×Int×Trip):Run:=⟨z.1,z.2.1,bY z.2.2 day z.2.1⟩
def aZ(T:Table)(day:Nat):List Run:=(instances T day).map (runOf day)
def Off(B:Nat->Int->Prop)(cs:List C3)(s:Nat)(t:Int):Prop:=
 ∃(i j:Nat)(ci cj:C3),i<j/\cs[i]?=some ci/\cs[j]?=some cj/\B ci.st ci.gs/\cj.st=s/\cj.co<=t
def jK(B:Nat->Int->Prop)(s:Nat)(t:Int):Prop->List C3->Prop
 |_,[]=>False
 |ab,c::cs=>(ab/\c.st=s/\c.co<=t)\/jK B s t (ab\/B c.st c.gs) cs
theorem DF{B:Nat->Int->Prop}{s:Nat}{t:Int}:∀{cs:List C3}{ab:Prop},jK B s t ab cs↔∃(j:Nat)(cj:C3),cs[j]?=some cj/\cj.st=s/\cj.co<=t/\(ab\/∃(i:Nat)(ci:C3),i<j/\cs[i]?=some ci/\B ci.st ci.gs)
 |[],ab=>by simp[jK]
 |c::cs,ab=>by
  rw[jK,DF (cs:=cs)]
  constructor
  . rintro(⟨h1,h2,h3⟩|⟨j,cj,e,h1,h2,h3⟩)
    . exact⟨0,c,U,h2,h3, .inl h1⟩
    refine⟨j+1,cj,by simpa using e,h1,h2, ?_⟩
    rcases h3 with(h3|h3)|⟨i,ci,hi,ei,hb⟩
    . exact .inl h3
    . exact .inr ⟨0,c,by lia,rfl,h3⟩
    exact .inr ⟨i+1,ci,by lia,by simpa using ei,hb⟩
  rintro⟨j,cj,e,h1,h2,h3⟩
  cases j with
  |zero=>
   simp at e
   subst e
   rcases h3 with h3|⟨i,ci,hi,_⟩
   . exact .inl ⟨h3,h1,h2⟩
   lia
  |succ j=>
   refine .inr ⟨j,cj,by simpa using e,h1,h2, ?_⟩
   rcases h3 with h3|⟨i,ci,hi,ei,hb⟩
   . exact .inl (.inl h3)
   cases i with
   |zero=>
    simp at ei
    subst ei
    exact .inl (.inr hb)
   |succ i=>exact .inr ⟨i,ci,by lia,by simpa using ei,hb⟩
theorem DG{B:Nat->Int->Prop}{s:Nat}{t:Int}{cs:List C3}:jK B s t False cs↔Off B cs s t:=by
 rw[DF]
 constructor
 . rintro⟨j,cj,e,h1,h2,h3|⟨i,ci,hi,ei,hb⟩⟩
   . exact h3.elim
   exact⟨i,j,ci,cj,hi,ei,e,hb,h1,h2⟩
 rintro⟨i,j,ci,cj,hi,ei,e,hb,h1,h2⟩
 exact⟨j,cj,e,h1,h2, .inr ⟨i,ci,hi,ei,hb⟩⟩
theorem jK.congr {B B':Nat->Int->Prop} {s:Nat} {t:Int}:∀{cs:List C3}{ab ab':Prop},(ab↔ab')->(∀c∈cs,B c.st c.gs↔B' c.st c.gs)->(jK B s t ab cs↔jK B' s t ab' cs)
 |[],_,_,_,_=>Iff.rfl
 |c::cs,ab,ab',h,hb=>by
  rw[jK,jK,jK.congr (ab:=ab\/B c.st c.gs) (ab':=ab'\/B' c.st c.gs) (or_congr h (hb c (by simp))) (fun d hd=>hb d (by simp[hd])),h]
noncomputable def gS(ready:List Int)(s:Bool×List Int)(c:C3):Bool×List Int:=
 (s.1||decide (ready.getD c.st 0<=c.gs),if s.1=true then s.2.set c.st (min (s.2.getD c.st 0) c.co)else s.2)
def qQ(ready:List Int)(m:List Int)(r:Run):List Int:=(r.cs.foldl (gS ready) (false,m)).2
def dd(runs:List Run)(ready:List Int):List Int:=runs.foldl (qQ ready) (ready.map fun _=>br)
theorem mR{ready:List Int}:∀{cs:List C3}{s:Bool×List Int},(cs.foldl (gS ready) s).2.length=s.2.length
 |[],s=>rfl
 |c::cs,s=>by
  rw[acb,mR (cs:=cs)]
  unfold gS
  dsimp only
  split<;>simp
theorem oh{α:Type}{l:List α}{i j:Nat}{a d:α}:(l.set i a).getD j d=if i=j/\j<l.length then a else l.getD j d:=by
 rw[acd,acd,ace]
 by_cases h:i=j
 . subst h
   by_cases h2:i<l.length<;>simp[h2]
 simp[h]
theorem yJ{ready:List Int}{s:Nat}{t:Int}:∀{cs:List C3}{b:Bool}{m:List Int},s<m.length->((cs.foldl (gS ready) (b,m)).2.getD s 0<=t↔m.getD s 0<=t\/jK (fun st g=>ready.getD st 0<=g) s t (b=true) cs)
 |[],b,m,h=>by simp[jK]
 |c::cs,b,m,h=>by
  rw[acb,jK]
  rw[show gS ready (b,m) c=(b||decide (ready.getD c.st 0<=c.gs),if b=true then m.set c.st (min (m.getD c.st 0) c.co)else m)from rfl]
  rw[yJ (cs:=cs) (by split<;>simp[h])]
  have e:jK (fun st g=>ready.getD st 0<=g) s t ((b||decide (ready.getD c.st 0<=c.gs))=true) cs↔jK (fun st g=>ready.getD st 0<=g) s t (b=true\/ready.getD c.st 0<=c.gs) cs:=jK.congr (by simp) (fun _ _=>Iff.rfl)
  rw[e]
  cases b with
  |false=>simp
  |true=>
   simp only[if_true,true_and]
   rw[oh]
   by_cases hs:c.st=s
   . subst hs
     rw[if_pos ⟨rfl,h⟩]
     constructor
     . rintro(h1|h1)
       . by_cases h2:m.getD c.st 0<=t
         . exact .inl h2
         exact .inr (.inl ⟨rfl,by lia⟩)
       exact .inr (.inr h1)
     rintro(h1|⟨_,h1⟩|h1)
     . exact .inl (by lia)
     . exact .inl (by lia)
     exact .inr h1
   rw[if_neg (fun q=>hs q.1)]
   simp[hs]
theorem qR{ready:List Int}{s:Nat}{t:Int}:∀{runs:List Run}{m:List Int},s<m.length->((runs.foldl (qQ ready) m).getD s 0<=t↔m.getD s 0<=t\/∃r∈runs,Off (fun st g=>ready.getD st 0<=g) r.cs s t)
 |[],m,h=>by simp
 |r::runs,m,h=>by
  rw[acb,qR (runs:=runs) (by unfold qQ;rw[mR];exact h)]
  unfold qQ
  rw[yJ h]
  have e:jK (fun st g=>ready.getD st 0<=g) s t (false=true) r.cs↔Off (fun st g=>ready.getD st 0<=g) r.cs s t:=by
   rw[<-DG]
   exact jK.congr (by simp) (fun _ _=>Iff.rfl)
  rw[e]
  constructor
  . rintro((h1|h1)|⟨r',hr,h1⟩)
    . exact .inl h1
    . exact .inr ⟨r,by simp,h1⟩
    exact .inr ⟨r',by simp[hr],h1⟩
  rintro(h1|⟨r',hr,h1⟩)
  . exact .inl (.inl h1)
  rcases abo.mp hr with rfl|hr
  . exact .inl (.inr h1)
  exact .inr ⟨r',hr,h1⟩
theorem l6{ready:List Int}:∀{runs:List Run}{m:List Int},(runs.foldl (qQ ready) m).length=m.length
 |[],m=>rfl
 |r::runs,m=>by
  rw[acb,l6 (runs:=runs)]
  unfold qQ
  rw[mR]
theorem sh{α:Type}{l:List α}{c d:Int}{s:Nat}(h:s<l.length):(l.map fun _=>c).getD s d=c:=by
 rw[acd,abV,acf h]
 rfl
theorem Ak{runs:List Run}{ready:List Int}{s:Nat}{t:Int}(h:s<ready.length)(ht:t<br):(dd runs ready).getD s 0<=t↔∃r∈runs,Off (fun st g=>ready.getD st 0<=g) r.cs s t:=by
 unfold dd
 rw[qR (by simpa using h),sh h]
 constructor
 . rintro(h1|h1)
   . lia
   exact h1
 exact .inr
def mN(o:Option Int)(t:Int):Prop:=∃y,o=some y/\y<=t
theorem kv{t:Int}:¬mN none t:=by rintro⟨y,h,_⟩;cases h
theorem l7{y t:Int}:mN (some y) t↔y<=t:=⟨fun⟨z,h,h2⟩=>by cases h;exact h2,fun h=>⟨y,rfl,h⟩⟩
theorem yK{a b:Option Int}{t:Int}:mN (less a b) t↔mN a t\/mN b t:=by
 cases a with
 |none=>cases b<;>simp[less,kv]
 |some x=>
  cases b with
  |none=>simp[less,kv]
  |some y=>
   simp only[less,l7]
   exact Std.min_le
theorem Mc{o:Option Int}{g:Int}:(o.any fun y=>decide (y<=g))=true↔mN o g:=by
 cases o<;>simp[kv,l7]
theorem Kb{o:Option Int}{c g:Int}:(o.any fun y=>decide (y+c<=g))=true↔mN o (g-c):=by
 cases o with
 |none=>simp[kv]
 |some x=>
  simp only[l7,acg,decide_eq_true_eq]
  lia
theorem DH{o:Option Int}{t u:Int}(h:mN o t)(k:t<=u):mN o u:=by
 obtain⟨y,e,h⟩:=h
 exact⟨y,e,by lia⟩
theorem iw{r:Row}{s:Nat}{x:Int}:(put r s x).length=r.length:=by simp[put]
theorem Ca{r:Row}{s s0:Nat}{x t:Int}(h:s<r.length):mN ((put r s0 x).getD s none) t↔mN (r.getD s none) t\/(s0=s/\x<=t):=by
 unfold put
 rw[oh]
 by_cases e:s0=s
 . subst e
   rw[if_pos ⟨rfl,h⟩,yK,l7]
   simp
 rw[if_neg (fun q=>e q.1)]
 simp[e]
noncomputable def kx(T:Table)(q:Round)(s:Bool×Row)(c:C3):Bool×Row:=
 (s.1||((q.foot.getD c.st none).any fun y=>decide (y<=c.gs))||((q.train.getD c.st none).any fun y=>decide (y+(((T.stops.getD c.st 0):Nat):Int)<=c.gs)),
  if s.1=true then put s.2 c.st c.co else s.2)
def tF(q:Round)(s:Nat)(t:Int):Prop:=mN (q.train.getD s none) t
def yb(q:Round)(s:Nat)(t:Int):Prop:=mN (q.foot.getD s none) t
noncomputable def chg(T:Table)(s:Nat):Int:=((T.stops.getD s 0:Nat):Int)
def Fq(T:Table)(q:Round)(s:Nat)(g:Int):Prop:=yb q s g\/tF q s (g-chg T s)
theorem oS{T:Table}{q:Round}:∀{cs:List C3}{s:Bool×Row},(cs.foldl (kx T q) s).2.length=s.2.length
 |[],s=>rfl
 |c::cs,s=>by
  rw[acb,oS (cs:=cs)]
  unfold kx
  dsimp only
  split<;>simp[iw]
theorem wC{T:Table}{q:Round}{s:Nat}{t:Int}:∀{cs:List C3}{b:Bool}{m:Row},s<m.length->(mN ((cs.foldl (kx T q) (b,m)).2.getD s none) t↔mN (m.getD s none) t\/jK (Fq T q) s t (b=true) cs)
 |[],b,m,h=>by simp[jK]
 |c::cs,b,m,h=>by
  rw[acb,jK]
  rw[show kx T q (b,m) c=(b||((q.foot.getD c.st none).any fun y=>decide (y<=c.gs))||((q.train.getD c.st none).any fun y=>decide (y+(((T.stops.getD c.st 0):Nat):Int)<=c.gs)),if b=true then put m c.st c.co else m)from rfl]
  rw[wC (cs:=cs) (by split<;>simp[h,iw])]
  have e:jK (Fq T q) s t ((b||((q.foot.getD c.st none).any fun y=>decide (y<=c.gs))||((q.train.getD c.st none).any fun y=>decide (y+(((T.stops.getD c.st 0):Nat):Int)<=c.gs)))=true) cs↔jK (Fq T q) s t (b=true\/Fq T q c.st c.gs) cs:=jK.congr (by
   rw[aca,aca,Mc,Kb]
   unfold Fq yb tF chg
   exact or_assoc) (fun _ _=>Iff.rfl)
  rw[e]
  cases b with
  |false=>simp
  |true=>
   simp only[if_true,true_and]
   rw[Ca h]
   exact or_assoc
theorem Bk{T:Table}{day:Nat}{q:Round}{inst:List (Nat×Int×Trip)}{r:Row}:
 inst.foldl (fun(r:Row)(x:Nat×Int×Trip)=>
 let p:=x.2.2
 (List.range p.calls.length).foldl (fun(s:Bool×Row)(i:Nat)=>
  let at_:=p.stopAt i
  let r1:=if s.1=true then put s.2 at_ (p.comes day x.2.1 i)else s.2
  let g:=p.goes day x.2.1 i
  let on:=s.1||((q.foot.getD at_ none).any fun y=>decide (y<=g))||((q.train.getD at_ none).any fun y=>decide (y+(((T.stops.getD at_ 0):Nat):Int)<=g))
  (on,r1)) (false,r)|>.2) r=(inst.map (runOf day)).foldl (fun r z=>(z.cs.foldl (kx T q) (false,r)).2) r:=by
 rw[List.foldl_map]
 congr 1
 funext r x
 show _=((bY x.2.2 day x.2.1).foldl (kx T q) (false,r)).2
 unfold bY
 rw[List.foldl_map]
 rfl
theorem uu{T:Table}{q:Round}:∀{runs:List Run}{m:Row},(runs.foldl (fun r z=>(z.cs.foldl (kx T q) (false,r)).2) m).length=m.length
 |[],m=>rfl
 |r::runs,m=>by
  rw[acb,uu (runs:=runs),oS]
theorem wD{T:Table}{q:Round}{s:Nat}{t:Int}:∀{runs:List Run}{m:Row},s<m.length->(mN ((runs.foldl (fun r z=>(z.cs.foldl (kx T q) (false,r)).2) m).getD s none) t↔mN (m.getD s none) t\/∃r∈runs,Off (Fq T q) r.cs s t)
 |[],m,h=>by simp
 |r::runs,m,h=>by
  rw[acb,wD (runs:=runs) (by rw[oS];exact h),wC h]
  have e:jK (Fq T q) s t (false=true) r.cs↔Off (Fq T q) r.cs s t:=by
   rw[<-DG]
   exact jK.congr (by simp) (fun _ _=>Iff.rfl)
  rw[e]
  constructor
  . rintro((h1|h1)|⟨r',hr,h1⟩)
    . exact .inl h1
    . exact .inr ⟨r,by simp,h1⟩
    exact .inr ⟨r',by simp[hr],h1⟩
  rintro(h1|⟨r',hr,h1⟩)
  . exact .inl (.inl h1)
  rcases abo.mp hr with rfl|hr
  . exact .inl (.inr h1)
  exact .inr ⟨r',hr,h1⟩
theorem yL{f:Row}:∀{ws:List Walk}{foot:Row},(ws.foldl (fun(r:Row)(w:Walk)=>match f.getD w.from_ none with
 |some x=>put r w.to (x+(w.minutes:Int))
 |none=>r) foot).length=foot.length
 |[],foot=>rfl
 |w::ws,foot=>by
  rw[acb,yL (ws:=ws)]
  split<;>simp[iw]
theorem tG{T:Table}{f foot:Row}:(walked T f foot).length=foot.length:=yL
theorem yM{f:Row}{s:Nat}{t:Int}:∀{ws:List Walk}{foot:Row},s<foot.length->(mN ((ws.foldl (fun(r:Row)(w:Walk)=>match f.getD w.from_ none with
 |some x=>put r w.to (x+(w.minutes:Int))
 |none=>r) foot).getD s none) t↔mN (foot.getD s none) t\/∃w∈ws,w.to=s/\mN (f.getD w.from_ none) (t-(w.minutes:Int)))
 |[],foot,h=>by simp
 |w::ws,foot,h=>by
  rw[acb,yM (ws:=ws) (by split<;>simp[iw,h])]
  have e:mN ((match f.getD w.from_ none with
   |some x=>put foot w.to (x+(w.minutes:Int))
   |none=>foot).getD s none) t↔mN (foot.getD s none) t\/(w.to=s/\mN (f.getD w.from_ none) (t-(w.minutes:Int))):=by
   cases f.getD w.from_ none with
   |none=>simp[kv]
   |some x=>
    dsimp only
    rw[Ca h,l7]
    have:x+(w.minutes:Int)<=t↔x<=t-(w.minutes:Int):=by lia
    rw[this]
  rw[e]
  simp only[abo,or_assoc,exists_eq_or_imp]
theorem eI{T:Table}{f foot:Row}{s:Nat}{t:Int}(h:s<foot.length):mN ((walked T f foot).getD s none) t↔mN (foot.getD s none) t\/∃w∈T.walks,w.to=s/\mN (f.getD w.from_ none) (t-(w.minutes:Int)):=yM h
theorem none_le{T:Table}{s:Nat}{t:Int}:¬mN ((T.stops.map fun _=>(none:Option Int)).getD s none) t:=by
 have e:(T.stops.map fun _=>(none:Option Int)).getD s none=none:=by
  rw[acd,abV]
  cases T.stops[s]?<;>rfl
 rw[e]
 exact kv
theorem yN{T:Table}{day:Nat}{q:Round}{s:Nat}{t:Int}(h:s<T.stops.length):tF (next_ T day (instances T day) q) s t↔∃r∈aZ T day,Off (Fq T q) r.cs s t:=by
 unfold tF next_
 dsimp only
 rw[Bk,wD (by simpa using h)]
 constructor
 . rintro(h1|h1)
   . exact(none_le h1).elim
   exact h1
 exact .inr
theorem vF{T:Table}{day:Nat}{q:Round}{s:Nat}{t:Int}(h:s<T.stops.length):yb (next_ T day (instances T day) q) s t↔∃w∈T.walks,w.to=s/\tF (next_ T day (instances T day) q) w.from_ (t-(w.minutes:Int)):=by
 unfold yb tF next_
 dsimp only
 rw[eI (by simpa using h)]
 constructor
 . rintro(h1|h1)
   . exact(none_le h1).elim
   exact h1
 exact .inr
theorem Ic{T:Table}{day:Nat}{q:Round}:(next_ T day (instances T day) q).train.length=T.stops.length/\(next_ T day (instances T day) q).foot.length=T.stops.length:=by
 unfold next_
 dsimp only
 rw[Bk,uu,tG]
 simp
end Td
namespace Td
open Sg45
noncomputable def qN(T:Table)(day:Nat)(x:Place):Nat->Round
 |0=>Sw83.begun T x
 |n+1=>next_ T day (instances T day) (qN T day x n)
def aQ(q:Round)(s:Nat)(t:Int):Prop:=tF q s t\/yb q s t
def cB(T:Table)(day:Nat)(x:Place)(n s:Nat)(g:Int):Prop:=∃m,m<=n/\Fq T (qN T day x m) s g
def cA(T:Table)(day:Nat)(x:Place)(n s:Nat)(t:Int):Prop:=∃m,m<=n/\aQ (qN T day x m) s t
theorem tF.mono {q:Round} {s:Nat} {t u:Int} (h:tF q s t) (k:t<=u):tF q s u:=DH h k
theorem yb.mono {q:Round} {s:Nat} {t u:Int} (h:yb q s t) (k:t<=u):yb q s u:=DH h k
theorem Off.imp {B B':Nat->Int->Prop} {cs:List C3} {s:Nat} {t:Int} (h:Off B cs s t) (k:∀c∈cs,B c.st c.gs->B' c.st c.gs):Off B' cs s t:=by
 obtain⟨i,j,ci,cj,hi,ei,ej,hb,h1,h2⟩:=h
 exact⟨i,j,ci,cj,hi,ei,ej,k ci (abW ei) hb,h1,h2⟩
theorem Fs{T:Table}{day:Nat}{x:Place}{n:Nat}{cs:List C3}{s:Nat}{t:Int}:Off (cB T day x n) cs s t↔∃m,m<=n/\Off (Fq T (qN T day x m)) cs s t:=by
 constructor
 . rintro⟨i,j,ci,cj,hi,ei,ej,⟨m,hm,hb⟩,h1,h2⟩
   exact⟨m,hm,i,j,ci,cj,hi,ei,ej,hb,h1,h2⟩
 rintro⟨m,hm,i,j,ci,cj,hi,ei,ej,hb,h1,h2⟩
 exact⟨i,j,ci,cj,hi,ei,ej,⟨m,hm,hb⟩,h1,h2⟩
theorem bP{T:Table}{s h:Nat}{x t:Int}(hs:s<T.stops.length):mN ((put (T.stops.map fun _=>(none:Option Int)) h x).getD s none) t↔h=s/\x<=t:=by
 rw[Ca (by simpa using hs)]
 constructor
 . rintro(h1|h1)
   . exact(none_le h1).elim
   exact h1
 exact .inr
structure oK(T:Table)(day:Nat):Prop where
 wk:∀w∈T.walks,w.from_<T.stops.length/\w.to<T.stops.length/\w.minutes<=240
 rn:∀r∈aZ T day,∀c∈r.cs,c.st<T.stops.length/\c.gs<10000/\ -1440<=c.co/\c.co<10000
 ord:∀r∈aZ T day,∀(i j:Nat)(ci cj:C3),i<j->r.cs[i]?=some ci->r.cs[j]?=some cj->ci.gs<=cj.co
 ch:∀s:Nat,chg T s<=120
theorem oT(T:Table)(s:Nat):0<=chg T s:=by unfold chg;lia
theorem Md{T:Table}{day:Nat}{x:Place}(ok:oK T day){w:Walk}(hw:w∈T.walks){t:Int}:∀{n:Nat},tF (qN T day x n) w.from_ t->yb (qN T day x n) w.to (t+(w.minutes:Int))
 |0,h=>by
  have VR:=(ok.wk w hw).2.1
  have Dx:=(ok.wk w hw).1
  unfold qN Sw83.begun tF at h
  unfold qN Sw83.begun yb
  dsimp only at h⊢
  split at h
  . unfold Sg45.start at h
    exact(none_le h).elim
  rename_i h0
  rw[if_neg h0]
  split at h
  . rename_i h1
    rw[if_pos h1]
    rw[eI (by simpa using VR)]
    refine .inr ⟨w,hw,rfl, ?_⟩
    rw[Int.add_sub_cancel]
    exact h
  exact(none_le h).elim
 |n+1,h=>by
  have VR:=(ok.wk w hw).2.1
  show yb (next_ T day (instances T day) (qN T day x n)) w.to _
  rw[vF VR]
  refine⟨w,hw,U, ?_⟩
  rw[Int.add_sub_cancel]
  exact h
theorem lC{T:Table}{day:Nat}{x:Place}{n s:Nat}{t:Int}(hs:s<T.stops.length):yb (qN T day x (n+1)) s t↔∃w∈T.walks,w.to=s/\tF (qN T day x (n+1)) w.from_ (t-(w.minutes:Int)):=vF hs
theorem ky{T:Table}{day:Nat}{x:Place}{n s:Nat}{t:Int}(hs:s<T.stops.length):tF (qN T day x (n+1)) s t↔∃r∈aZ T day,Off (Fq T (qN T day x n)) r.cs s t:=yN hs
abbrev Arr:=List Int×List Int
noncomputable def gx(a:Arr)(s:Nat)(mi rd:Int):Arr:=(a.1.set s (min (a.1.getD s 0) mi),a.2.set s (min (a.2.getD s 0) rd))
def ie(m:List Int)(a:Arr)(w:Walk):Arr:=gx a w.to (m.getD w.from_ 0+(w.minutes:Int)) (m.getD w.from_ 0+(w.minutes:Int))
def dA(ws:List Walk)(m:List Int)(a:Arr):Arr:=ws.foldl (ie m) a
def fv(T:Table)(m:List Int)(a:Arr)(n:Nat):Arr:=(List.range n).foldl (fun a i=>gx a i (m.getD i 0) (m.getD i 0+chg T i)) a
def eR(T:Table)(runs:List Run)(a:Arr):Arr:=dA T.walks (dd runs a.2) (fv T (dd runs a.2) a T.stops.length)
def bf(T:Table):List Int:=T.stops.map fun _=>br
def aG(T:Table)(x:Place):Int:=if x.way=1 then x.time+chg T x.halt_ else x.time
def iF(T:Table)(x:Place):Arr:=
 gx (if x.way=2 then(bf T,bf T)else dA T.walks ((bf T).set x.halt_ x.time) (bf T,bf T)) x.halt_ x.time (aG T x)
def aH(T:Table)(day:Nat)(x:Place):Nat->Arr
 |0=>iF T x
 |n+1=>eR T (aZ T day) (aH T day x n)
theorem gy{l:List Int}{s s0:Nat}{y t:Int}(h:s<l.length):(l.set s0 (min (l.getD s0 0) y)).getD s 0<=t↔l.getD s 0<=t\/(s0=s/\y<=t):=by
 rw[oh]
 by_cases e:s0=s
 . subst e
   rw[if_pos ⟨rfl,h⟩,Std.min_le]
   simp only[true_and]
 rw[if_neg (fun q=>e q.1)]
 simp[e]
theorem fU{m:List Int}:∀{ws:List Walk}{a:Arr},(dA ws m a).1.length=a.1.length/\(dA ws m a).2.length=a.2.length
 |[],a=>⟨rfl,rfl⟩
 |w::ws,a=>by
  have:=fU (m:=m) (ws:=ws) (a:=ie m a w)
  unfold dA at this⊢
  rw[acb,this.1,this.2]
  simp[ie,gx]
theorem om{m:List Int}{s:Nat}{t:Int}:∀{ws:List Walk}{a:Arr},s<a.1.length->((dA ws m a).1.getD s 0<=t↔a.1.getD s 0<=t\/∃w∈ws,w.to=s/\m.getD w.from_ 0<=t-(w.minutes:Int))
 |[],a,h=>by simp[dA]
 |w::ws,a,h=>by
  have:=om (m:=m) (s:=s) (t:=t) (ws:=ws) (a:=ie m a w) (by simp[ie,gx,h])
  unfold dA at this⊢
  rw[acb,this]
  unfold ie gx
  dsimp only
  rw[gy h]
  have e:m.getD w.from_ 0+(w.minutes:Int)<=t↔m.getD w.from_ 0<=t-(w.minutes:Int):=by lia
  rw[e]
  simp only[abo,or_assoc,exists_eq_or_imp]
theorem qS{m:List Int}{s:Nat}{t:Int}:∀{ws:List Walk}{a:Arr},s<a.2.length->((dA ws m a).2.getD s 0<=t↔a.2.getD s 0<=t\/∃w∈ws,w.to=s/\m.getD w.from_ 0<=t-(w.minutes:Int))
 |[],a,h=>by simp[dA]
 |w::ws,a,h=>by
  have:=qS (m:=m) (s:=s) (t:=t) (ws:=ws) (a:=ie m a w) (by simp[ie,gx,h])
  unfold dA at this⊢
  rw[acb,this]
  unfold ie gx
  dsimp only
  rw[gy h]
  have e:m.getD w.from_ 0+(w.minutes:Int)<=t↔m.getD w.from_ 0<=t-(w.minutes:Int):=by lia
  rw[e]
  simp only[abo,or_assoc,exists_eq_or_imp]
theorem cy{T:Table}{m:List Int}{a:Arr}:∀{n:Nat},(fv T m a n).1.length=a.1.length/\(fv T m a n).2.length=a.2.length
 |0=>⟨rfl,rfl⟩
 |n+1=>by
  have:=cy (T:=T) (m:=m) (a:=a) (n:=n)
  unfold fv at this⊢
  rw[ach,aci]
  simpa[gx]using this
theorem ny{T:Table}{m:List Int}{a:Arr}{n:Nat}:fv T m a (n+1)=gx (fv T m a n) n (m.getD n 0) (m.getD n 0+chg T n):=by
 unfold fv
 rw[ach,aci]
 rfl
theorem lD{T:Table}{m:List Int}{a:Arr}{s:Nat}{t:Int}(h:s<a.1.length):∀{n:Nat},(fv T m a n).1.getD s 0<=t↔a.1.getD s 0<=t\/(s<n/\m.getD s 0<=t)
 |0=>by simp[fv]
 |n+1=>by
  rw[ny]
  unfold gx
  dsimp only
  rw[gy (by rw[cy.1];exact h),lD h (n:=n)]
  constructor
  . rintro((h1|h1)|⟨rfl,h1⟩)
    . exact .inl h1
    . exact .inr ⟨by lia,h1.2⟩
    exact .inr ⟨by lia,h1⟩
  rintro(h1|⟨h1,h2⟩)
  . exact .inl (.inl h1)
  by_cases e:n=s
  . exact .inr ⟨e,by rw[e];exact h2⟩
  exact .inl (.inr ⟨by lia,h2⟩)
theorem oU{T:Table}{m:List Int}{a:Arr}{s:Nat}{t:Int}(h:s<a.2.length):∀{n:Nat},(fv T m a n).2.getD s 0<=t↔a.2.getD s 0<=t\/(s<n/\m.getD s 0<=t-chg T s)
 |0=>by simp[fv]
 |n+1=>by
  rw[ny]
  unfold gx
  dsimp only
  rw[gy (by rw[cy.2];exact h),oU h (n:=n)]
  constructor
  . rintro((h1|h1)|⟨rfl,h1⟩)
    . exact .inl h1
    . exact .inr ⟨by lia,h1.2⟩
    exact .inr ⟨by lia,by lia⟩
  rintro(h1|⟨h1,h2⟩)
  . exact .inl (.inl h1)
  by_cases e:n=s
  . exact .inr ⟨e,by rw[e];lia⟩
  exact .inl (.inr ⟨by lia,h2⟩)
theorem uv{T:Table}{runs:List Run}{a:Arr}:(eR T runs a).1.length=a.1.length/\(eR T runs a).2.length=a.2.length:=by
 unfold eR
 exact⟨fU.1.trans cy.1,fU.2.trans cy.2⟩
theorem yO{T:Table}{x:Place}:(iF T x).1.length=T.stops.length/\(iF T x).2.length=T.stops.length:=by
 unfold iF gx
 dsimp only
 rw[ab0,ab0]
 split
 . simp[bf]
 rw[fU.1,fU.2]
 simp[bf]
theorem jL{T:Table}{day:Nat}{x:Place}:∀{n:Nat},(aH T day x n).1.length=T.stops.length/\(aH T day x n).2.length=T.stops.length
 |0=>yO
 |n+1=>by
  have:=jL (T:=T) (day:=day) (x:=x) (n:=n)
  exact⟨uv.1.trans this.1,uv.2.trans this.2⟩
theorem oV{T:Table}{s:Nat}(h:s<T.stops.length):(bf T).getD s 0=br:=sh h
theorem wF{T:Table}{s h:Nat}{x t:Int}(hs:s<T.stops.length)(ht:t<br):((bf T).set h x).getD s 0<=t↔h=s/\x<=t:=by
 rw[oh]
 by_cases e:h=s
 . subst e
   rw[if_pos ⟨rfl,by simpa[bf]using hs⟩]
   simp
 rw[if_neg (fun q=>e q.1),oV hs]
 constructor
 . intro h1
   lia
 rintro⟨h1,_⟩
 exact(e h1).elim
theorem Cb{T:Table}{day:Nat}{x:Place}(ok:oK T day)(hw:x.way<=2){s:Nat}{t:Int}(hs:s<T.stops.length)(ht:t<br):(iF T x).1.getD s 0<=t↔aQ (qN T day x 0) s t:=by
 have hn:¬(bf T).getD s 0<=t:=by rw[oV hs];lia
 unfold iF gx aQ tF yb qN Sw83.begun
 dsimp only
 have Me:∀w∈T.walks,(((bf T).set x.halt_ x.time).getD w.from_ 0<=t-(w.minutes:Int)↔x.halt_=w.from_/\x.time<=t-(w.minutes:Int)):=fun w h=>wF (ok.wk w h).1 (by lia)
 rw[gy (by split;simpa[bf]using hs;rw[fU.1];simpa[bf]using hs)]
 by_cases h2:x.way=2
 . rw[if_pos h2,if_neg (by lia),if_neg (by lia)]
   dsimp only
   rw[bP hs]
   constructor
   . rintro(h|h)
     . exact(hn h).elim
     exact .inr h
   rintro(h|h)
   . exact(none_le h).elim
   exact .inr h
 rw[if_neg h2,om (by simpa[bf]using hs)]
 by_cases h0:x.way=0
 . rw[if_pos h0]
   unfold Sg45.start
   dsimp only
   rw[eI (by simpa[iw]using hs),bP hs]
   constructor
   . rintro((h|⟨w,hw,e,h⟩)|h)
     . exact(hn h).elim
     . exact .inr (.inr ⟨w,hw,e,(bP (ok.wk w hw).1).mpr ((Me w hw).mp h)⟩)
     exact .inr (.inl h)
   rintro(h|h|⟨w,hw,e,h⟩)
   . exact(none_le h).elim
   . exact .inr h
   exact .inl (.inr ⟨w,hw,e,(Me w hw).mpr ((bP (ok.wk w hw).1).mp h)⟩)
 rw[if_neg h0,if_pos (by lia)]
 dsimp only
 rw[eI (by simpa using hs),bP hs]
 constructor
 . rintro((h|⟨w,hw,e,h⟩)|h)
   . exact(hn h).elim
   . exact .inr (.inr ⟨w,hw,e,(bP (ok.wk w hw).1).mpr ((Me w hw).mp h)⟩)
   exact .inl h
 rintro(h|h|⟨w,hw,e,h⟩)
 . exact .inr h
 . exact(none_le h).elim
 exact .inl (.inr ⟨w,hw,e,(Me w hw).mpr ((bP (ok.wk w hw).1).mp h)⟩)
theorem Cc{T:Table}{day:Nat}{x:Place}(ok:oK T day)(hw:x.way<=2){s:Nat}{t:Int}(hs:s<T.stops.length)(ht:t<br):(iF T x).2.getD s 0<=t↔Fq T (qN T day x 0) s t:=by
 have hn:¬(bf T).getD s 0<=t:=by rw[oV hs];lia
 unfold iF gx Fq tF yb qN Sw83.begun
 dsimp only
 have Me:∀w∈T.walks,(((bf T).set x.halt_ x.time).getD w.from_ 0<=t-(w.minutes:Int)↔x.halt_=w.from_/\x.time<=t-(w.minutes:Int)):=fun w h=>wF (ok.wk w h).1 (by lia)
 rw[gy (by split;simpa[bf]using hs;rw[fU.2];simpa[bf]using hs)]
 unfold aG
 by_cases h2:x.way=2
 . rw[if_pos h2,if_neg (by lia),if_neg (by lia),if_neg (by lia)]
   dsimp only
   rw[bP hs]
   constructor
   . rintro(h|h)
     . exact(hn h).elim
     exact .inl h
   rintro(h|h)
   . exact .inr h
   exact(none_le h).elim
 rw[if_neg h2,qS (by simpa[bf]using hs)]
 by_cases h0:x.way=0
 . rw[if_pos h0,if_neg (by lia)]
   unfold Sg45.start
   dsimp only
   rw[eI (by simpa[iw]using hs),bP hs]
   constructor
   . rintro((h|⟨w,hw,e,h⟩)|h)
     . exact(hn h).elim
     . exact .inl (.inr ⟨w,hw,e,(bP (ok.wk w hw).1).mpr ((Me w hw).mp h)⟩)
     exact .inl (.inl h)
   rintro((h|⟨w,hw,e,h⟩)|h)
   . exact .inr h
   . exact .inl (.inr ⟨w,hw,e,(Me w hw).mpr ((bP (ok.wk w hw).1).mp h)⟩)
   exact(none_le h).elim
 have h1:x.way=1:=by lia
 rw[if_neg h0,if_pos h1,if_pos h1]
 dsimp only
 rw[eI (by simpa using hs),bP hs]
 constructor
 . rintro((h|⟨w,hw,e,h⟩)|⟨h,h'⟩)
   . exact(hn h).elim
   . exact .inl (.inr ⟨w,hw,e,(bP (ok.wk w hw).1).mpr ((Me w hw).mp h)⟩)
   exact .inr ⟨h,by rw[h]at h';lia⟩
 rintro((h|⟨w,hw,e,h⟩)|⟨h,h'⟩)
 . exact(none_le h).elim
 . exact .inl (.inr ⟨w,hw,e,(Me w hw).mpr ((bP (ok.wk w hw).1).mp h)⟩)
 exact .inr ⟨h,by rw[h];lia⟩
theorem eS{T:Table}{day:Nat}{x:Place}(ok:oK T day)(hw:x.way<=2):∀(n:Nat),(∀(s:Nat)(t:Int),s<T.stops.length->t<br->((aH T day x n).1.getD s 0<=t↔cA T day x n s t))/\(∀(s:Nat)(t:Int),s<T.stops.length->t<br->((aH T day x n).2.getD s 0<=t↔cB T day x n s t))
 |0=>by
  refine⟨fun s t hs ht=> ?_,fun s t hs ht=> ?_⟩
  . show(iF T x).1.getD s 0<=t↔_
    rw[Cb (day:=day) ok hw hs ht]
    exact⟨fun h=>⟨0,by lia,h⟩,fun⟨m,hm,h⟩=>(by have e:m=0:=(by lia);subst e;exact h)⟩
  show(iF T x).2.getD s 0<=t↔_
  rw[Cc (day:=day) ok hw hs ht]
  exact⟨fun h=>⟨0,by lia,h⟩,fun⟨m,hm,h⟩=>(by have e:m=0:=(by lia);subst e;exact h)⟩
 |n+1=>by
  obtain⟨Zi,VS⟩:=eS ok hw n
  have len:=jL (T:=T) (day:=day) (x:=x) (n:=n)
  have Mf:∀(s:Nat)(t:Int),s<T.stops.length->t<br->((dd (aZ T day) (aH T day x n).2).getD s 0<=t↔∃m,m<=n/\tF (qN T day x (m+1)) s t):=fun s t hs ht=>by
   rw[Ak (by rw[len.2];exact hs) ht]
   constructor
   . rintro⟨r,hr,h⟩
     have h:=h.imp (B':=cB T day x n) fun c hc q=>(VS c.st c.gs (ok.rn r hr c hc).1 (by have:=(ok.rn r hr c hc).2.1;unfold br;lia)).mp q
     obtain⟨m,hm,h⟩:=Fs.mp h
     exact⟨m,hm,(ky hs).mpr ⟨r,hr,h⟩⟩
   rintro⟨m,hm,h⟩
   obtain⟨r,hr,h⟩:=(ky hs).mp h
   refine⟨r,hr, ?_⟩
   have h:=Fs.mpr ⟨m,hm,h⟩
   exact h.imp fun c hc q=>(VS c.st c.gs (ok.rn r hr c hc).1 (by have:=(ok.rn r hr c hc).2.1;unfold br;lia)).mpr q
  have Nz:∀(s:Nat)(t:Int),s<T.stops.length->t<br->((∃w∈T.walks,w.to=s/\(dd (aZ T day) (aH T day x n).2).getD w.from_ 0<=t-(w.minutes:Int))↔∃m,m<=n/\yb (qN T day x (m+1)) s t):=fun s t hs ht=>by
   constructor
   . rintro⟨w,hw,e,h⟩
     obtain⟨m,hm,h⟩:=(Mf w.from_ _ (ok.wk w hw).1 (by lia)).mp h
     exact⟨m,hm,(lC hs).mpr ⟨w,hw,e,h⟩⟩
   rintro⟨m,hm,h⟩
   obtain⟨w,hw,e,h⟩:=(lC hs).mp h
   exact⟨w,hw,e,(Mf w.from_ _ (ok.wk w hw).1 (by lia)).mpr ⟨m,hm,h⟩⟩
  refine⟨fun s t hs ht=> ?_,fun s t hs ht=> ?_⟩
  . show(eR T (aZ T day) (aH T day x n)).1.getD s 0<=t↔_
    unfold eR
    rw[om (by rw[cy.1,len.1];exact hs),lD (by rw[len.1];exact hs),Zi s t hs ht,Nz s t hs ht,Mf s t hs ht]
    constructor
    . rintro((⟨m,hm,h⟩|⟨_,m,hm,h⟩)|⟨m,hm,h⟩)
      . exact⟨m,by lia,h⟩
      . exact⟨m+1,by lia, .inl h⟩
      exact⟨m+1,by lia, .inr h⟩
    rintro⟨m,hm,h⟩
    by_cases e:m<=n
    . exact .inl (.inl ⟨m,e,h⟩)
    obtain rfl:m=n+1:=by lia
    rcases h with h|h
    . exact .inl (.inr ⟨hs,n,by lia,h⟩)
    exact .inr ⟨n,by lia,h⟩
  show(eR T (aZ T day) (aH T day x n)).2.getD s 0<=t↔_
  have hc:=oT T s
  unfold eR
  rw[qS (by rw[cy.2,len.2];exact hs),oU (by rw[len.2];exact hs),VS s t hs ht,Nz s t hs ht,Mf s _ hs (by lia)]
  constructor
  . rintro((⟨m,hm,h⟩|⟨_,m,hm,h⟩)|⟨m,hm,h⟩)
    . exact⟨m,by lia,h⟩
    . exact⟨m+1,by lia, .inr h⟩
    exact⟨m+1,by lia, .inl h⟩
  rintro⟨m,hm,h⟩
  by_cases e:m<=n
  . exact .inl (.inl ⟨m,e,h⟩)
  obtain rfl:m=n+1:=by lia
  rcases h with h|h
  . exact .inr ⟨n,by lia,h⟩
  exact .inl (.inr ⟨hs,n,by lia,h⟩)
end Td
namespace Td
open Sg45
def GB(T:Table)(day:Nat)(x:Place)(n:Nat)(r:Run)(i:Nat):Prop:=∃(j:Nat)(c:C3),j<i/\r.cs[j]?=some c/\cB T day x n c.st c.gs
theorem Kc{T:Table}{day:Nat}{x:Place}{n:Nat}{r:Run}{s:Nat}{t:Int}:Off (cB T day x n) r.cs s t↔∃(i:Nat)(c:C3),r.cs[i]?=some c/\c.st=s/\c.co<=t/\GB T day x n r i:=by
 constructor
 . rintro⟨i,j,ci,cj,hi,ei,ej,hb,h1,h2⟩
   exact⟨j,cj,ej,h1,h2,i,ci,hi,ei,hb⟩
 rintro⟨j,cj,ej,h1,h2,i,ci,hi,ei,hb⟩
 exact⟨i,j,ci,cj,hi,ei,ej,hb,h1,h2⟩
theorem yc{T:Table}{day:Nat}{x:Place}{n m s:Nat}{g:Int}(h:cB T day x n s g)(k:n<=m):cB T day x m s g:=by
 obtain⟨i,hi,h⟩:=h
 exact⟨i,by lia,h⟩
theorem Mg{T:Table}{day:Nat}{x:Place}{n m s:Nat}{g:Int}(h:cA T day x n s g)(k:n<=m):cA T day x m s g:=by
 obtain⟨i,hi,h⟩:=h
 exact⟨i,by lia,h⟩
theorem Mh{T:Table}{day:Nat}{x:Place}{n m:Nat}{r:Run}{i:Nat}(h:GB T day x n r i)(k:n<=m):GB T day x m r i:=by
 obtain⟨j,c,h1,h2,h3⟩:=h
 exact⟨j,c,h1,h2,yc h3 k⟩
noncomputable def xu(runs:List Run):List (Run×Nat):=runs.flatMap fun r=>(List.range r.cs.length).map fun i=>(r,i)
theorem yP:∀(runs:List Run),(xu runs).length=(runs.map fun r=>r.cs.length).sum
 |[]=>rfl
 |r::runs=>by
  have:=yP runs
  unfold xu at this⊢
  rw[acj,abX,this]
  simp
theorem Kd{runs:List Run}{r:Run}{i:Nat}:(r,i)∈xu runs↔r∈runs/\i<r.cs.length:=by
 unfold xu
 simp only[ack,ab8,abi]
 constructor
 . rintro⟨r',h1,i',h2,e⟩
   cases e
   exact⟨h1,h2⟩
 rintro⟨h1,h2⟩
 exact⟨r,h1,i,h2,U⟩
theorem GW{T:Table}{day:Nat}:many T day=(xu (aZ T day)).length+1:=by
 unfold many
 rw[yP]
 unfold aZ
 rw[acm]
 congr 2
 apply acn
 intro z _
 simp[runOf,bY]
theorem uw{α:Type}{p q:α->Bool}:∀{l:List α},(∀a∈l,p a=true->q a=true)->(∃a∈l,q a=true/\p a=false)->l.countP p<l.countP q
 |[],_,h=>by simp at h
 |a::l,h,hh=>by
  obtain⟨b,hb,hq,hp⟩:=hh
  have hle:l.countP p<=l.countP q:=List.countP_mono_left (fun x hx=>h x (by simp[hx]))
  rw[aco,aco]
  rcases abo.mp hb with rfl|hb
  . rw[hq,hp]
    simp
    lia
  have ih:=uw (l:=l) (fun x hx=>h x (by simp[hx])) ⟨b,hb,hq,hp⟩
  have:=h a (by simp)
  cases sH:p a with
  |false=>
   simp
   split<;>lia
  |true=>
   rw[this sH]
   simp
   lia
open Classical in
theorem GX(T:Table)(day:Nat)(x:Place):∃n,n<many T day/\∀r∈aZ T day,∀i,i<r.cs.length->GB T day x (n+1) r i->GB T day x n r i:=by
 rw[GW]
 apply acp
 intro no
 have hg:∀n,n<(xu (aZ T day)).length+1->(xu (aZ T day)).countP (fun z=>decide (GB T day x n z.1 z.2))<(xu (aZ T day)).countP (fun z=>decide (GB T day x (n+1) z.1 z.2)):=by
  intro n hn
  apply uw
  . intro z _ h
    simp only[decide_eq_true_eq]at h⊢
    exact Mh h (by lia)
  apply acp
  intro VT
  apply no
  refine⟨n,hn,fun r hr i hi h=> ?_⟩
  apply acp
  intro h2
  exact VT ⟨(r,i),Kd.mpr ⟨hr,hi⟩,by simpa using h,by simpa using h2⟩
 have QE:∀n,n<=(xu (aZ T day)).length+1->n<=(xu (aZ T day)).countP (fun z=>decide (GB T day x n z.1 z.2)):=by
  intro n
  induction n with
  |zero=>intro _;exact abE _
  |succ n ih=>
   intro h
   have h1:=ih (by lia)
   have h2:=hg n (by lia)
   lia
 have h1:=QE _ (abB _)
 have h2:=acq (p:=fun z:Run×Nat=>decide (GB T day x ((xu (aZ T day)).length+1) z.1 z.2)) (l:=xu (aZ T day))
 lia
theorem Ft{T:Table}{day:Nat}{x:Place}(ok:oK T day){n:Nat}(hn:∀r∈aZ T day,∀i,i<r.cs.length->GB T day x (n+1) r i->GB T day x n r i):∀(k:Nat),(∀(s:Nat)(t:Int),s<T.stops.length->tF (qN T day x (k+1)) s t->∃m,m<=n/\tF (qN T day x (m+1)) s t)/\(∀(s:Nat)(g:Int),s<T.stops.length->cB T day x (k+1) s g->cB T day x (n+1) s g):=by
 intro k
 induction k with
 |zero=>
  refine⟨fun s t hs h=>⟨0,by lia,h⟩,fun s g hs h=>yc h (by lia)⟩
 |succ k ih=>
  have key:∀(s:Nat)(t:Int),s<T.stops.length->tF (qN T day x (k+1+1)) s t->∃m,m<=n/\tF (qN T day x (m+1)) s t:=fun s t hs h=>by
   obtain⟨r,hr,h⟩:=(ky hs).mp h
   have h:Off (cB T day x (n+1)) r.cs s t:=h.imp fun c hc q=>ih.2 c.st c.gs (ok.rn r hr c hc).1 ⟨k+1,by lia,q⟩
   obtain⟨i,c,e,h1,h2,h3⟩:=Kc.mp h
   have h3:=hn r hr i (abt.mp e).1 h3
   have h:Off (cB T day x n) r.cs s t:=Kc.mpr ⟨i,c,e,h1,h2,h3⟩
   obtain⟨m,hm,h⟩:=Fs.mp h
   exact⟨m,hm,(ky hs).mpr ⟨r,hr,h⟩⟩
  refine⟨key,fun s g hs h=> ?_⟩
  obtain⟨m,hm,h⟩:=h
  by_cases e:m<=k+1
  . exact ih.2 s g hs ⟨m,e,h⟩
  have e:m=k+1+1:=by lia
  subst e
  rcases h with h|h
  . obtain⟨w,hw,e,h⟩:=(lC hs).mp h
    obtain⟨m,hm,h⟩:=key _ _ (ok.wk w hw).1 h
    exact⟨m+1,by lia, .inl ((lC hs).mpr ⟨w,hw,e,h⟩)⟩
  obtain⟨m,hm,h⟩:=key _ _ hs h
  exact⟨m+1,by lia, .inr h⟩
theorem DI{T:Table}{day:Nat}{x:Place}(ok:oK T day){n:Nat}(hn:∀r∈aZ T day,∀i,i<r.cs.length->GB T day x (n+1) r i->GB T day x n r i){k s:Nat}{t:Int}(hs:s<T.stops.length)(h:aQ (qN T day x k) s t):cA T day x (n+1) s t:=by
 cases k with
 |zero=>exact⟨0,by lia,h⟩
 |succ k=>
  rcases h with h|h
  . obtain⟨m,hm,h⟩:=(Ft ok hn k).1 s t hs h
    exact⟨m+1,by lia, .inl h⟩
  obtain⟨w,hw,e,h⟩:=(lC hs).mp h
  obtain⟨m,hm,h⟩:=(Ft ok hn k).1 _ _ (ok.wk w hw).1 h
  exact⟨m+1,by lia, .inr ((lC hs).mpr ⟨w,hw,e,h⟩)⟩
theorem qT{T:Table}{day:Nat}{x:Place}(ok:oK T day){k s:Nat}{t:Int}(hs:s<T.stops.length)(h:aQ (qN T day x k) s t):cA T day x (many T day) s t:=by
 obtain⟨n,hn,h1⟩:=GX T day x
 exact Mg (DI ok h1 hs h) (by lia)
theorem cM{T:Table}{day:Nat}{n:Nat}{k:Int}{p:Trip}:(n,k,p)∈instances T day↔T.trips[n]?=some p/\within k (-1) 1=true/\p.runs day k=true:=by
 unfold instances
 simp only[ack,ab8,abh]
 constructor
 . rintro⟨⟨p',n'⟩,h1,k',⟨h2,h3⟩,e⟩
   cases e
   refine⟨by simpa[List.mk_mem_zipIdx_iff_getElem?]using h1, ?_,h3⟩
   simp at h2
   rcases h2 with rfl|rfl|rfl<;>decide
 rintro⟨h1,h2,h3⟩
 refine⟨(p,n),by simpa[List.mk_mem_zipIdx_iff_getElem?]using h1,k,⟨?_,h3⟩,U⟩
 unfold within at h2
 simp at h2⊢
 lia
theorem bR{p:Trip}{day:Nat}{k:Int}{i:Nat}(h:i<p.calls.length):(bY p day k)[i]?=some (B9 p day k i):=by
 unfold bY
 rw[abV,acr h]
 rfl
theorem i6{p:Trip}{day:Nat}{k:Int}:(bY p day k).length=p.calls.length:=by simp[bY]
theorem cu{p:Trip}{day:Nat}{k:Int}{i:Nat}{c:C3}(h:(bY p day k)[i]?=some c):i<p.calls.length/\c=B9 p day k i:=by
 have h1:i<p.calls.length:=by
  have:=(abt.mp h).1
  rwa[i6]at this
 rw[bR h1]at h
 exact⟨h1,(Option.some.inj h).symm⟩
theorem yd{T:Table}{day:Nat}{n:Nat}{k:Int}{p:Trip}(h:(n,k,p)∈instances T day):(⟨n,k,bY p day k⟩:Run)∈aZ T day:=ab8.mpr ⟨_,h,rfl⟩
theorem qU{T:Table}{day:Nat}{r:Run}(h:r∈aZ T day):∃p,(r.n,r.k,p)∈instances T day/\r.cs=bY p day r.k:=by
 obtain⟨⟨n,k,p⟩,h1,e⟩:=ab8.mp h
 subst e
 exact⟨p,h1,U⟩
noncomputable def i7:Leg->Nat
 | .ride _ _ _ _=>1
 | .walk _=>0
theorem gz{a:Leg}{l:List Leg}:rides (a::l)=i7 a+rides l:=by
 unfold rides
 cases a<;>simp[i7]<;>lia
theorem oW:∀{l m:List Leg},rides (l++m)=rides l+rides m
 |[],m=>by simp[rides]
 |a::l,m=>by
  rw[acs,gz,gz,oW (l:=l)]
  lia
theorem jM{T:Table}{day:Nat}{x y:Place}{a:Leg}(h:go T day x a=some y):follow T day x [a]=some y:=by
 show(match go T day x a with
  |some y=>follow T day y []
  |none=>none)=some y
 rw[h]
 rfl
theorem ig{T:Table}{day:Nat}:∀{l m:List Leg}{x:Place},follow T day x (l++m)=(follow T day x l).bind fun y=>follow T day y m
 |[],m,x=>rfl
 |a::l,m,x=>by
  rw[acs,follow,follow]
  cases go T day x a with
  |none=>rfl
  |some y=>exact ig
theorem fh{T:Table}{day:Nat}{x y:Place}{w:Nat}:go T day x (.walk w)=some y↔∃z,T.walks[w]?=some z/\z.from_=x.halt_/\x.way≠2/\y=⟨z.to,x.time+(z.minutes:Int),2⟩:=by
 show(match T.walks[w]?with
  |some y=>if y.from_=x.halt_/\x.way≠2 then some (⟨y.to,x.time+(y.minutes:Int),2⟩:Place)else none
  |none=>none)=some y↔_
 generalize T.walks[w]?=o
 cases o with
 |none=>
  constructor
  . intro h;cases h
  rintro⟨z,h,_⟩;cases h
 |some z=>
  dsimp only
  by_cases h:z.from_=x.halt_/\x.way≠2
  . rw[if_pos h]
    constructor
    . intro e
      exact⟨z,U,h.1,h.2,(Option.some.inj e).symm⟩
    rintro⟨z',e,h1,h2,h3⟩
    cases e
    rw[h3]
  rw[if_neg h]
  constructor
  . intro e
    cases e
  rintro⟨z',e,h1,h2,h3⟩
  cases e
  exact(h ⟨h1,h2⟩).elim
theorem gp{T:Table}{day:Nat}{x y:Place}{n i j:Nat}{k:Int}:go T day x (.ride n k i j)=some y↔∃p,(n,k,p)∈instances T day/\i<j/\j<p.calls.length/\p.stopAt i=x.halt_/\aG T x<=p.goes day k i/\y=⟨p.stopAt j,p.comes day k j,1⟩:=by
 unfold go
 have er:x.time+(if x.way=1 then(((T.stops.getD x.halt_ 0):Nat):Int)else 0)=aG T x:=by
  unfold aG chg
  split<;>lia
 cases hp:T.trips[n]?with
 |none=>
  simp only[cM,hp]
  simp
 |some p=>
  dsimp only
  rw[er]
  simp only[cM,hp]
  constructor
  . intro e
    split at e
    . rename_i h
      simp only[ab6,decide_eq_true_eq]at h
      exact⟨p,⟨U,h.1.1,h.1.2.1⟩,h.1.2.2.1,h.1.2.2.2.1,h.1.2.2.2.2,h.2,(Option.some.inj e).symm⟩
    cases e
  rintro⟨p',⟨e,h1,h2⟩,h3,h4,h5,h6,h7⟩
  cases e
  rw[if_pos,h7]
  simp only[ab6,decide_eq_true_eq]
  exact⟨⟨h1,h2,h3,h4,h5⟩,h6⟩
def NA(T:Table)(day:Nat)(x:Place)(n:Nat)(z:Place):Prop:=
 z.halt_<T.stops.length/\((z.way=1/\tF (qN T day x n) z.halt_ z.time)\/(z.way=2/\yb (qN T day x n) z.halt_ z.time)\/(z.way=0/\z=x/\n=0/\yb (qN T day x n) z.halt_ z.time))
theorem Ie{T:Table}{day:Nat}{x:Place}(hw:x.way<=2)(hx:x.halt_<T.stops.length):NA T day x 0 x:=by
 refine⟨hx, ?_⟩
 unfold qN Sw83.begun tF yb
 by_cases h0:x.way=0
 . right;right
   refine⟨h0,U,U, ?_⟩
   rw[if_pos h0]
   unfold Sg45.start
   dsimp only
   rw[eI (by simpa[iw]using hx),bP hx]
   exact .inl ⟨rfl,by lia⟩
 by_cases h1:x.way=1
 . left
   refine⟨h1, ?_⟩
   rw[if_neg h0,if_pos h1]
   dsimp only
   rw[bP hx]
   exact⟨U,by lia⟩
 right;left
 refine⟨by lia, ?_⟩
 rw[if_neg h0,if_neg h1]
 dsimp only
 rw[bP hx]
 exact⟨U,by lia⟩
theorem Ig{T:Table}{day:Nat}{x:Place}{n:Nat}{z:Place}{g:Int}(hz:NA T day x n z)(h:aG T z<=g):Fq T (qN T day x n) z.halt_ g:=by
 unfold aG at h
 rcases hz.2 with⟨h1,h2⟩|⟨h1,h2⟩|⟨h1,_,_,h2⟩
 . rw[if_pos h1]at h
   exact .inr (h2.mono (by lia))
 . rw[if_neg (by lia)]at h
   exact .inl (h2.mono h)
 rw[if_neg (by lia)]at h
 exact .inl (h2.mono h)
theorem OC{T:Table}{day:Nat}{x:Place}(ok:oK T day){n:Nat}{z y:Place}{a:Leg}(hz:NA T day x n z)(h:go T day z a=some y):NA T day x (n+i7 a) y:=by
 cases a with
 |walk w=>
  obtain⟨hs,hz⟩:=hz
  obtain⟨v,hv,hf,OD,rfl⟩:=fh.mp h
  have hm:v∈T.walks:=abW hv
  refine⟨(ok.wk v hm).2.1, .inr (.inl ⟨U, ?_⟩)⟩
  show yb (qN T day x (n+0)) v.to (z.time+(v.minutes:Int))
  rcases hz with⟨h1,h2⟩|⟨h1,h2⟩|⟨h0,rfl,rfl,h2⟩
  . rw[<-hf]at h2
    exact Md ok hm h2
  . exact(OD h1).elim
  unfold qN Sw83.begun yb
  rw[if_pos h0]
  unfold Sg45.start
  dsimp only
  rw[eI (by simpa[iw]using(ok.wk v hm).2.1)]
  refine .inr ⟨v,hm,rfl, ?_⟩
  rw[bP (ok.wk v hm).1]
  exact⟨hf.symm,by lia⟩
 |ride n' k i j=>
  obtain⟨p,hp,kN,hj,lA,nX,rfl⟩:=gp.mp h
  have hr:=yd hp
  have ei:=bR (p:=p) (day:=day) (k:=k) (i:=i) (by lia)
  have ej:=bR (p:=p) (day:=day) (k:=k) (i:=j) hj
  have hb:=Ig hz nX
  rw[<-lA]at hb
  have XT:=(ok.rn _ hr _ (abW ej)).1
  refine⟨XT, .inl ⟨U,(ky XT).mpr ⟨_,hr,i,j,_,_,kN,ei,ej,hb,U,acu _⟩⟩⟩
theorem yQ{T:Table}{day:Nat}{x:Place}(ok:oK T day):∀{m:List Leg}{n:Nat}{z y:Place},NA T day x n z->follow T day z m=some y->NA T day x (n+rides m) y
 |[],n,z,y,hz,h=>by
  cases h
  exact hz
 |a::m,n,z,y,hz,h=>by
  rw[follow]at h
  cases e:go T day z a with
  |none=>rw[e]at h;cases h
  |some u=>
   rw[e]at h
   have:=yQ ok (OC ok hz e) h
   rw[gz,<-Nat.add_assoc]
   exact this
theorem NA.a {T:Table} {day:Nat} {x:Place} {n:Nat} {z:Place} (h:NA T day x n z):aQ (qN T day x n) z.halt_ z.time:=by
 rcases h.2 with⟨_,h⟩|⟨_,h⟩|⟨_,_,_,h⟩
 . exact .inl h
 . exact .inr h
 exact .inr h
theorem sound{T:Table}{day:Nat}{x:Place}(ok:oK T day)(hw:x.way<=2):∀(n:Nat),(∀(s:Nat)(t:Int),s<T.stops.length->tF (qN T day x n) s t->∃m y,follow T day x m=some y/\y.halt_=s/\y.way=1/\y.time<=t/\rides m=n)/\(∀(s:Nat)(t:Int),s<T.stops.length->yb (qN T day x n) s t->∃m y,follow T day x m=some y/\y.halt_=s/\y.way≠1/\y.time<=t/\rides m=n):=by
 intro n
 induction n with
 |zero=>
  refine⟨fun s t hs h=> ?_,fun s t hs h=> ?_⟩
  . unfold qN Sw83.begun tF at h
    dsimp only at h
    split at h
    . exact(none_le h).elim
    split at h
    . dsimp only at h
      rw[bP hs]at h
      exact⟨[],x,U,h.1,by assumption,h.2,U⟩
    exact(none_le h).elim
  have Ih:x.way≠2->(∃w∈T.walks,w.to=s/\mN ((put (T.stops.map fun _=>none) x.halt_ x.time).getD w.from_ none) (t-(w.minutes:Int)))->∃m y,follow T day x m=some y/\y.halt_=s/\y.way≠1/\y.time<=t/\rides m=0:=by
   rintro h2 ⟨w,hm,e,h⟩
   rw[bP (ok.wk w hm).1]at h
   obtain⟨i,hi⟩:=acv.mp hm
   have hg:go T day x (.walk i)=some ⟨w.to,x.time+(w.minutes:Int),2⟩:=fh.mpr ⟨w,hi,h.1.symm,h2,rfl⟩
   exact⟨[.walk i],_,jM hg,e,(by show(2:Nat)≠1;decide),by show x.time+_<=t;lia,U⟩
  unfold qN Sw83.begun yb at h
  dsimp only at h
  split at h
  . rename_i h0
    unfold Sg45.start at h
    dsimp only at h
    rw[eI (by simpa[iw]using hs),bP hs]at h
    rcases h with h|h
    . exact⟨[],x,U,h.1,by lia,h.2,U⟩
    exact Ih (by lia) h
  split at h
  . dsimp only at h
    rw[eI (by simpa using hs)]at h
    rcases h with h|h
    . exact(none_le h).elim
    exact Ih (by lia) h
  dsimp only at h
  rw[bP hs]at h
  exact⟨[],x,U,h.1,by assumption,h.2,U⟩
 |succ n ih=>
  have tr:∀(s:Nat)(t:Int),s<T.stops.length->tF (qN T day x (n+1)) s t->∃m y,follow T day x m=some y/\y.halt_=s/\y.way=1/\y.time<=t/\rides m=n+1:=fun s t hs h=>by
   obtain⟨r,hr,i,j,ci,cj,kN,ei,ej,hb,h1,h2⟩:=(ky hs).mp h
   obtain⟨p,hp,ec⟩:=qU hr
   have XU:=(ok.rn r hr ci (abW ei)).1
   rw[ec]at ei ej
   obtain⟨hi,rfl⟩:=cu ei
   obtain⟨hj,rfl⟩:=cu ej
   obtain⟨m,y,hf,hy,nX,qy⟩:∃m y,follow T day x m=some y/\y.halt_=p.stopAt i/\aG T y<=p.goes day r.k i/\rides m=n:=by
    rcases hb with hb|hb
    . obtain⟨m,y,hf,hy,DJ,ht,qy⟩:=ih.2 _ _ XU hb
      refine⟨m,y,hf,hy, ?_,qy⟩
      unfold aG
      rw[if_neg DJ]
      exact ht
    obtain⟨m,y,hf,hy,DJ,ht,qy⟩:=ih.1 _ _ XU hb
    refine⟨m,y,hf,hy, ?_,qy⟩
    unfold aG
    rw[if_pos DJ,hy]
    have ht:y.time<=p.goes day r.k i-chg T (p.stopAt i):=ht
    show y.time+chg T (p.stopAt i)<=_
    lia
   have hg:go T day y (.ride r.n r.k i j)=some ⟨p.stopAt j,p.comes day r.k j,1⟩:=gp.mpr ⟨p,hp,kN,hj,hy.symm,nX,rfl⟩
   refine⟨m++[.ride r.n r.k i j],_,by rw[ig,hf,acw,jM hg],h1,U,h2,by rw[oW,qy];rfl⟩
  refine⟨tr,fun s t hs h=> ?_⟩
  obtain⟨w,hm,e,h⟩:=(lC hs).mp h
  obtain⟨m,y,hf,hy,DJ,ht,qy⟩:=tr _ _ (ok.wk w hm).1 h
  obtain⟨i,hi⟩:=acv.mp hm
  have hg:go T day y (.walk i)=some ⟨w.to,y.time+(w.minutes:Int),2⟩:=fh.mpr ⟨w,hi,hy.symm,by lia,rfl⟩
  exact⟨m++[.walk i],_,by rw[ig,hf,acw,jM hg],e,(by show(2:Nat)≠1;decide),by show y.time+_<=t;lia,by rw[oW,qy];rfl⟩
structure jN(T:Table)(day:Nat)(x:Place)(goal:Nat)(a:Int)(r:Nat):Prop where
 at_:aQ (qN T day x r) goal a
 least:∀(n:Nat)(t:Int),aQ (qN T day x n) goal t->a<=t
 OE:∀n,n<r->¬aQ (qN T day x n) goal a
theorem jN.o1 {T:Table} {day:Nat} {x:Place} {goal:Nat} {a:Int} {r:Nat} (B:jN T day x goal a r) (ok:oK T day) (hw:x.way<=2) (hx:x.halt_<T.stops.length) {m:List Leg} {y:Place} (h:follow T day x m=some y) (hy:y.halt_=goal):a<=y.time/\(y.time<=a->r<=rides m):=by
 have:=(yQ ok (Ie hw hx) h).a
 rw[Nat.zero_add,hy]at this
 refine⟨B.least _ _ this,fun e=> ?_⟩
 have e:y.time=a:=by have:=B.least _ _ this;lia
 rw[e]at this
 apply acp
 intro q
 exact B.OE _ (by lia) this
theorem jN.o2 {T:Table} {day:Nat} {x:Place} {goal:Nat} {a:Int} {r:Nat} (B:jN T day x goal a r) (ok:oK T day) (hw:x.way<=2) (hx:x.halt_<T.stops.length) (hg:goal<T.stops.length):∃m y,follow T day x m=some y/\y.halt_=goal/\y.time=a/\rides m=r:=by
 rcases B.at_ with h|h
 . obtain⟨m,y,hf,hy,_,ht,hr⟩:=(sound ok hw r).1 _ _ hg h
   exact⟨m,y,hf,hy,by have:=(B.o1 ok hw hx hf hy).1;lia,hr⟩
 obtain⟨m,y,hf,hy,_,ht,hr⟩:=(sound ok hw r).2 _ _ hg h
 exact⟨m,y,hf,hy,by have:=(B.o1 ok hw hx hf hy).1;lia,hr⟩
end Td
namespace Td
open Sg45
noncomputable def k6(T:Table)(day:Nat):Nat->Round->Round
 |0,q=>q
 |n+1,q=>k6 T day n (next_ T day (instances T day) q)
theorem yR{T:Table}{day:Nat}:∀{n:Nat}{q:Round},k6 T day (n+1) q=next_ T day (instances T day) (k6 T day n q)
 |0,q=>rfl
 |n+1,q=>yR (n:=n) (q:=next_ T day (instances T day) q)
theorem ux{T:Table}{day:Nat}{x:Place}:∀{n:Nat},k6 T day n (Sw83.begun T x)=qN T day x n
 |0=>rfl
 |n+1=>by
  rw[yR,ux (n:=n)]
  rfl
noncomputable def bare(q:Round):Bool:=(q.train++q.foot).all (fun x=>x.isNone)
theorem Ke{q:Round}(h:bare q=true)(s:Nat)(t:Int):¬aQ q s t:=by
 unfold bare at h
 rw[List.all_append,ab6,ab9,ab9]at h
 rintro(⟨y,e,_⟩|⟨y,e,_⟩)
 . rw[acd]at e
   cases e1:q.train[s]?with
   |none=>rw[e1]at e;cases e
   |some o=>
    rw[e1]at e
    have:=h.1 o (abW e1)
    cases o with
    |none=>cases e
    |some _=>cases this
 rw[acd]at e
 cases e1:q.foot[s]?with
 |none=>rw[e1]at e;cases e
 |some o=>
  rw[e1]at e
  have:=h.2 o (abW e1)
  cases o with
  |none=>cases e
  |some _=>cases this
theorem Ii{T:Table}{day:Nat}(ok:oK T day){q:Round}(h:∀s t,s<T.stops.length->¬aQ q s t)(s:Nat)(t:Int)(hs:s<T.stops.length):¬aQ (next_ T day (instances T day) q) s t:=by
 have tr:∀s t,s<T.stops.length->¬tF (next_ T day (instances T day) q) s t:=fun s t hs hq=>by
  obtain⟨r,hr,i,j,ci,cj,kN,ei,ej,hb,h1,h2⟩:=(yN hs).mp hq
  have hc:=(ok.rn r hr ci (abW ei)).1
  rcases hb with hb|hb
  . exact h _ _ hc (.inr hb)
  exact h _ _ hc (.inl hb)
 rintro(hq|hq)
 . exact tr _ _ hs hq
 obtain⟨w,hw,_,hq⟩:=(vF hs).mp hq
 exact tr _ _ (ok.wk w hw).1 hq
theorem tH{T:Table}{day:Nat}:∀(n:Nat)(q:Round)(k:Nat),(rounds T day (instances T day) n q)[k]?=if k<=n/\(∀j,j<k->bare (k6 T day j q)=false)then some (k6 T day k q)else none
 |0,q,k=>by
  rw[rounds]
  cases k with
  |zero=>simp[k6]
  |succ k=>simp
 |n+1,q,k=>by
  rw[rounds]
  by_cases hb:(q.train++q.foot).all (fun x=>x.isNone)=true
  . rw[if_pos hb]
    cases k with
    |zero=>simp[k6]
    |succ k=>
     rw[if_neg]
     . simp
     rintro⟨_,h⟩
     have:=h 0 (by lia)
     unfold k6 bare at this
     rw[hb]at this
     cases this
  rw[if_neg hb]
  cases k with
  |zero=>simp[k6]
  |succ k=>
   rw[List.getElem?_cons_succ,tH n _ k]
   have EY:bare (k6 T day 0 q)=false:=by
    unfold k6 bare
    simpa using hb
   have e:(k<=n/\∀j,j<k->bare (k6 T day j (next_ T day (instances T day) q))=false)↔(k+1<=n+1/\∀j,j<k+1->bare (k6 T day j q)=false):=by
    constructor
    . rintro⟨h1,h2⟩
      refine⟨by lia,fun j hj=> ?_⟩
      cases j with
      |zero=>exact EY
      |succ j=>exact h2 j (by lia)
    rintro⟨h1,h2⟩
    exact⟨by lia,fun j hj=>h2 (j+1) (by lia)⟩
   by_cases c:k<=n/\∀j,j<k->bare (k6 T day j (next_ T day (instances T day) q))=false
   . rw[if_pos c,if_pos (e.mp c)]
     rfl
   rw[if_neg c,if_neg (fun z=>c (e.mpr z))]
theorem Bl{T:Table}{day:Nat}{x:Place}(ok:oK T day){n k s:Nat}{t:Int}(hk:k<=n)(hs:s<T.stops.length)(h:aQ (qN T day x k) s t):(rounds T day (instances T day) n (Sw83.begun T x))[k]?=some (qN T day x k):=by
 rw[tH,if_pos,ux]
 refine⟨hk,fun j hj=> ?_⟩
 cases e:bare (k6 T day j (Sw83.begun T x))with
 |false=>rfl
 |true=>
  exfalso
  rw[ux]at e
  have:∀d s t,s<T.stops.length->¬aQ (qN T day x (j+d)) s t:=by
   intro d
   induction d with
   |zero=>exact fun s t _=>Ke e s t
   |succ d ih=>exact fun s t hs=>Ii ok ih s t hs
  obtain⟨d,rfl⟩:∃d,k=j+d:=⟨k-j,by lia⟩
  exact this d s t hs h
noncomputable def rowOf(q:Round):Row:=(q.train.zip q.foot).map fun y=>less y.1 y.2
theorem DK:∀{a b:Row}{s:Nat}{t:Int},a.length=b.length->(mN (((a.zip b).map fun y=>less y.1 y.2).getD s none) t↔mN (a.getD s none) t\/mN (b.getD s none) t)
 |[],[],s,t,_=>by simp[kv]
 |a::as,b::bs,0,t,h=>by
  show mN (less a b) t↔mN a t\/mN b t
  exact yK
 |a::as,b::bs,s+1,t,h=>by
  have:=DK (a:=as) (b:=bs) (s:=s) (t:=t) (by simpa using h)
  simpa using this
theorem GY{T:Table}{day:Nat}{x:Place}:∀{n:Nat},(qN T day x n).train.length=T.stops.length/\(qN T day x n).foot.length=T.stops.length
 |0=>by
  unfold qN Sw83.begun
  dsimp only
  split
  . unfold Sg45.start
    simp[tG,iw]
  split<;>simp[tG,iw]
 |n+1=>Ic
theorem Cd{T:Table}{day:Nat}{x:Place}{n s:Nat}{t:Int}:mN ((rowOf (qN T day x n)).getD s none) t↔aQ (qN T day x n) s t:=by
 unfold rowOf aQ tF yb
 exact DK (by rw[GY.1,GY.2])
theorem GZ:∀{l:List Row}{s:Nat}{t:Int}{m:Option Int},mN (l.foldl (fun m r=>less m (r.getD s none)) m) t↔mN m t\/∃r∈l,mN (r.getD s none) t
 |[],s,t,m=>by simp
 |r::l,s,t,m=>by
  rw[acb,GZ (l:=l),yK]
  simp only[abo,exists_eq_or_imp,or_assoc]
theorem wG{T:Table}{day:Nat}{x:Place}:Sw83.arrivals T day x=(rounds T day (instances T day) (many T day) (Sw83.begun T x)).map rowOf:=rfl
theorem wH{T:Table}{day:Nat}{x:Place}{n k:Nat}{q:Round}(h:(rounds T day (instances T day) n (Sw83.begun T x))[k]?=some q):k<=n/\q=qN T day x k:=by
 rw[tH]at h
 split at h
 . rename_i c
   rw[ux]at h
   exact⟨c.1,(Option.some.inj h).symm⟩
 cases h
theorem yS{T:Table}{day:Nat}{x:Place}(ok:oK T day){s:Nat}{t:Int}(hs:s<T.stops.length):mN (best (Sw83.arrivals T day x) s) t↔∃n,aQ (qN T day x n) s t:=by
 unfold best
 rw[wG,GZ]
 constructor
 . rintro(h|⟨r,hr,h⟩)
   . exact(kv h).elim
   obtain⟨q,hq,rfl⟩:=ab8.mp hr
   obtain⟨k,hk⟩:=acv.mp hq
   obtain⟨_,rfl⟩:=wH hk
   exact⟨k,Cd.mp h⟩
 rintro⟨n,h⟩
 obtain⟨m,hm,h⟩:=qT ok hs h
 exact .inr ⟨_,ab8.mpr ⟨_,abW (Bl ok hm hs h),rfl⟩,Cd.mpr h⟩
theorem G0{o:Option Int}{a:Int}(h1:mN o a)(h2:∀t,mN o t->a<=t):o=some a:=by
 obtain⟨y,e,h⟩:=h1
 have:=h2 y ⟨y,e,acu _⟩
 rw[e]
 congr 1
 lia
theorem Bm{T:Table}{day:Nat}{x:Place}(ok:oK T day){goal:Nat}(hg:goal<T.stops.length){a:Int}{r:Nat}(B:jN T day x goal a r):
 best (Sw83.arrivals T day x) goal=some a/\fewest (Sw83.arrivals T day x) goal (fun y=>y==a)=some r:=by
 have h1:best (Sw83.arrivals T day x) goal=some a:=G0 ((yS ok hg).mpr ⟨r,B.at_⟩) fun t h=>by
  obtain⟨n,h⟩:=(yS ok hg).mp h
  exact B.least n t h
 refine⟨h1, ?_⟩
 have hr:r<=many T day:=by
  obtain⟨m,hm,h⟩:=qT ok hg B.at_
  apply acp
  intro q
  exact B.OE m (by lia) h
 have RM:=Bl (n:=many T day) ok hr hg B.at_
 have RN:∀k,((rowOf (qN T day x k)).getD goal none).any (fun y=>y==a)=true↔aQ (qN T day x k) goal a:=by
  intro k
  rw[<-Cd]
  constructor
  . intro h
    cases e:(rowOf (qN T day x k)).getD goal none with
    |none=>rw[e]at h;cases h
    |some y=>
     rw[e]at h
     simp at h
     rw[h,l7]
     lia
  intro h
  have:(rowOf (qN T day x k)).getD goal none=some a:=G0 h fun t ht=>B.least k t (Cd.mp ht)
  rw[this]
  simp
 unfold fewest
 rw[wG,List.findIdx?_map]
 have hlen:=(abt.mp RM).1
 rw[List.findIdx?_eq_some_iff_getElem]
 refine⟨hlen, ?_, ?_⟩
 . rw[(abt.mp RM).2]
   exact(RN r).mpr B.at_
 intro j hj
 have Zj:j<(rounds T day (instances T day) (many T day) (Sw83.begun T x)).length:=by lia
 obtain⟨_,e⟩:=wH (acf Zj)
 rw[e]
 intro h
 exact B.OE j hj ((RN j).mp h)
theorem Ij{T:Table}{day:Nat}{x:Place}(ok:oK T day){goal:Nat}(hg:goal<T.stops.length)(h:∀n t,¬aQ (qN T day x n) goal t):best (Sw83.arrivals T day x) goal=none:=by
 cases e:best (Sw83.arrivals T day x) goal with
 |none=>rfl
 |some a=>
  obtain⟨n,hn⟩:=(yS ok hg).mp (show mN (best (Sw83.arrivals T day x) goal) a by rw[e,l7];lia)
  exact(h n a hn).elim
theorem G1{T:Table}{day:Nat}{x:Place}(ok:oK T day)(hx:x.time<=10000){n s:Nat}{t:Int}(hs:s<T.stops.length)(h:tF (qN T day x n) s t):tF (qN T day x n) s 10000:=by
 cases n with
 |zero=>
  unfold qN Sw83.begun tF at h⊢
  dsimp only at h⊢
  split at h
  . exact(none_le h).elim
  split at h
  . rename_i h0 h1
    rw[if_neg h0,if_pos h1]
    dsimp only at h⊢
    rw[bP hs]at h⊢
    exact⟨h.1,hx⟩
  exact(none_le h).elim
 |succ n=>
  obtain⟨r,hr,i,j,ci,cj,kN,ei,ej,hb,h1,h2⟩:=(ky hs).mp h
  have:=(ok.rn r hr cj (abW ej)).2.2.2
  exact(ky hs).mpr ⟨r,hr,i,j,ci,cj,kN,ei,ej,hb,h1,by lia⟩
theorem Mi{T:Table}{day:Nat}{x:Place}(ok:oK T day)(hx:x.time<=10000){n s:Nat}{t:Int}(hs:s<T.stops.length)(h:aQ (qN T day x n) s t):aQ (qN T day x n) s 20000:=by
 rcases h with h|h
 . exact .inl ((G1 ok hx hs h).mono (by lia))
 right
 cases n with
 |zero=>
  have Ih:∀w∈T.walks,mN ((put (T.stops.map fun _=>none) x.halt_ x.time).getD w.from_ none) (t-(w.minutes:Int))->mN ((put (T.stops.map fun _=>none) x.halt_ x.time).getD w.from_ none) (20000-(w.minutes:Int)):=fun w hm h=>by
   have:=(ok.wk w hm).2.2
   rw[bP (ok.wk w hm).1]at h⊢
   exact⟨h.1,by lia⟩
  unfold qN Sw83.begun yb at h⊢
  dsimp only at h⊢
  split at h
  . rename_i h0
    rw[if_pos h0]
    unfold Sg45.start at h⊢
    dsimp only at h⊢
    rw[eI (by simpa[iw]using hs),bP hs]at h⊢
    rcases h with h|⟨w,hm,e,h⟩
    . exact .inl ⟨h.1,by lia⟩
    exact .inr ⟨w,hm,e,Ih w hm h⟩
  rename_i h0
  rw[if_neg h0]
  split at h
  . rename_i h1
    rw[if_pos h1]
    dsimp only at h⊢
    rw[eI (by simpa using hs)]at h⊢
    rcases h with h|⟨w,hm,e,h⟩
    . exact(none_le h).elim
    exact .inr ⟨w,hm,e,Ih w hm h⟩
  rename_i h1
  rw[if_neg h1]
  dsimp only at h⊢
  rw[bP hs]at h⊢
  exact⟨h.1,by lia⟩
 |succ n=>
  obtain⟨w,hm,e,h⟩:=(lC hs).mp h
  have:=(ok.wk w hm).2.2
  exact(lC hs).mpr ⟨w,hm,e,(G1 ok hx (ok.wk w hm).1 h).mono (by lia)⟩
theorem lE{T:Table}{day:Nat}{x:Place}:∀(n:Nat)(s:Nat),s<T.stops.length->(aH T day x n).1.getD s 0<=br/\(aH T day x n).2.getD s 0<=br
 |0,s,hs=>by
  show(iF T x).1.getD s 0<=br/\(iF T x).2.getD s 0<=br
  have h0:=oV hs
  have hl:s<(bf T).length:=by simpa[bf]using hs
  unfold iF gx
  dsimp only
  rw[gy (by split;exact hl;rw[fU.1];exact hl),gy (by split;exact hl;rw[fU.2];exact hl)]
  split
  . exact⟨.inl (by dsimp only;lia), .inl (by dsimp only;lia)⟩
  rw[om hl,qS hl]
  exact⟨.inl (.inl (by dsimp only;lia)), .inl (.inl (by dsimp only;lia))⟩
 |n+1,s,hs=>by
  obtain⟨h1,h2⟩:=lE (T:=T) (day:=day) (x:=x) n s hs
  have len:=jL (T:=T) (day:=day) (x:=x) (n:=n)
  show(eR T (aZ T day) (aH T day x n)).1.getD s 0<=br/\(eR T (aZ T day) (aH T day x n)).2.getD s 0<=br
  unfold eR
  rw[om (by rw[cy.1,len.1];exact hs),qS (by rw[cy.2,len.2];exact hs),lD (by rw[len.1];exact hs),oU (by rw[len.2];exact hs)]
  exact⟨.inl (.inl h1), .inl (.inl h2)⟩
theorem Kf{n:Nat}{a b:List Int}(ha:a.length=n)(hb:b.length=n)(h:∀s,s<n->a.getD s 0=b.getD s 0):a=b:=by
 apply List.ext_getElem (by lia)
 intro i h1 h2
 have:=h i (by lia)
 rw[acd,acd,acf h1,acf h2]at this
 exact this
theorem Ik{T:Table}{day:Nat}{x:Place}(ok:oK T day)(hw:x.way<=2){n:Nat}(h:(aH T day x n).2≠(aH T day x (n+1)).2):n<=many T day:=by
 obtain⟨k,hk,hr⟩:=GX T day x
 apply acp
 intro q
 apply h
 have len:=fun n=>(jL (T:=T) (day:=day) (x:=x) (n:=n)).2
 refine Kf (len n) (len (n+1)) fun s hs=> ?_
 have e1:=(eS ok hw n).2 s
 have e2:=(eS ok hw (n+1)).2 s
 have b1:=(lE (T:=T) (day:=day) (x:=x) n s hs).2
 have b2:=(lE (T:=T) (day:=day) (x:=x) (n+1) s hs).2
 have key:∀t,t<br->((aH T day x n).2.getD s 0<=t↔(aH T day x (n+1)).2.getD s 0<=t):=fun t ht=>by
  rw[e1 t hs ht,e2 t hs ht]
  constructor
  . exact fun h=>yc h (by lia)
  exact fun h=>yc ((Ft ok hr n).2 s t hs h) (by lia)
 by_cases c:(aH T day x n).2.getD s 0<br
 . have:=(key _ c).mp (acu _)
   by_cases c2:(aH T day x (n+1)).2.getD s 0<br
   . have:=(key _ c2).mpr (acu _)
     lia
   lia
 by_cases c2:(aH T day x (n+1)).2.getD s 0<br
 . have:=(key _ c2).mpr (acu _)
   lia
 lia
theorem DM{T:Table}{day:Nat}{x:Place}(ok:oK T day)(hw:x.way<=2){n:Nat}(h:(aH T day x n).2=(aH T day x (n+1)).2){k s:Nat}{t:Int}(hs:s<T.stops.length)(hq:aQ (qN T day x k) s t):cA T day x (n+1) s t:=by
 refine DI ok (n:=n) ?_ hs hq
 rintro r hr i hi ⟨j,c,hj,e,hb⟩
 refine⟨j,c,hj,e, ?_⟩
 have hc:=ok.rn r hr c (abW e)
 have hn:c.gs<br:=by unfold br;lia
 rw[<-(eS ok hw (n+1)).2 c.st c.gs hc.1 hn,<-h,(eS ok hw n).2 c.st c.gs hc.1 hn]at hb
 exact hb
theorem Il{T:Table}{day:Nat}{x:Place}(ok:oK T day)(hw:x.way<=2)(hx:x.time<=10000){goal:Nat}(hg:goal<T.stops.length){n f:Nat}(h:(aH T day x n).2=(aH T day x (n+1)).2)
 (hf:f<=n+1) (h1:(aH T day x f).1.getD goal 0=(aH T day x (n+1)).1.getD goal 0) (h2:∀m,m<f->(aH T day x (n+1)).1.getD goal 0<(aH T day x m).1.getD goal 0) (ir:(aH T day x (n+1)).1.getD goal 0≠br):jN T day x goal ((aH T day x (n+1)).1.getD goal 0) f:=by
 have di:(aH T day x (n+1)).1.getD goal 0<br:=by
  have:=(lE (T:=T) (day:=day) (x:=x) (n+1) goal hg).1
  lia
 have hle:∀(k:Nat)(t:Int),aQ (qN T day x k) goal t->(aH T day x (n+1)).1.getD goal 0<=t:=fun k t hq=>by
  by_cases ht:t<br
  . exact((eS ok hw (n+1)).1 goal t hg ht).mpr (DM ok hw h hg hq)
  lia
 have Zk:=((eS ok hw f).1 goal ((aH T day x (n+1)).1.getD goal 0) hg di).mp (by lia)
 have ug:∀m,m<f->¬aQ (qN T day x m) goal ((aH T day x (n+1)).1.getD goal 0):=fun m hm hq=>by
  have:=h2 m hm
  have:=((eS ok hw m).1 goal _ hg di).mpr ⟨m,abB _,hq⟩
  lia
 obtain⟨m,hm,hq⟩:=Zk
 have e:m=f:=by
  apply acp
  intro q
  exact ug m (by lia) hq
 subst e
 exact⟨hq,hle,ug⟩
theorem Im{T:Table}{day:Nat}{x:Place}(ok:oK T day)(hw:x.way<=2)(hx:x.time<=10000){goal:Nat}(hg:goal<T.stops.length){n:Nat}(h:(aH T day x n).2=(aH T day x (n+1)).2)(he:(aH T day x (n+1)).1.getD goal 0=br):∀k t,¬aQ (qN T day x k) goal t:=fun k t hq=>by
 have:=DM ok hw h hg (Mi ok hx hg hq)
 have:=((eS ok hw (n+1)).1 goal 20000 hg (by unfold br;lia)).mpr this
 unfold br at he
 lia
end Td
namespace Td
open Sg45
def On(C:Nat->Int->Prop)(cs:List C3)(s:Nat)(t:Int):Prop:=
 ∃(i j:Nat)(ci cj:C3),i<j/\cs[i]?=some ci/\cs[j]?=some cj/\ci.st=s/\t<=ci.gs/\C cj.st cj.co
def Io(C:Nat->Int->Prop)(s:Nat)(t:Int):Prop->List C3->Prop
 |_,[]=>False
 |ab,c::cs=>(ab/\c.st=s/\t<=c.gs)\/Io C s t (ab\/C c.st c.co) cs
theorem G2{C:Nat->Int->Prop}{s:Nat}{t:Int}:∀{cs:List C3}{ab:Prop},Io C s t ab cs↔∃(j:Nat)(cj:C3),cs[j]?=some cj/\cj.st=s/\t<=cj.gs/\(ab\/∃(i:Nat)(ci:C3),i<j/\cs[i]?=some ci/\C ci.st ci.co)
 |[],ab=>by simp[Io]
 |c::cs,ab=>by
  rw[Io,G2 (cs:=cs)]
  constructor
  . rintro(⟨h1,h2,h3⟩|⟨j,cj,e,h1,h2,h3⟩)
    . exact⟨0,c,U,h2,h3, .inl h1⟩
    refine⟨j+1,cj,by simpa using e,h1,h2, ?_⟩
    rcases h3 with(h3|h3)|⟨i,ci,hi,ei,hb⟩
    . exact .inl h3
    . exact .inr ⟨0,c,by lia,rfl,h3⟩
    exact .inr ⟨i+1,ci,by lia,by simpa using ei,hb⟩
  rintro⟨j,cj,e,h1,h2,h3⟩
  cases j with
  |zero=>
   simp at e
   subst e
   rcases h3 with h3|⟨i,ci,hi,_⟩
   . exact .inl ⟨h3,h1,h2⟩
   lia
  |succ j=>
   refine .inr ⟨j,cj,by simpa using e,h1,h2, ?_⟩
   rcases h3 with h3|⟨i,ci,hi,ei,hb⟩
   . exact .inl (.inl h3)
   cases i with
   |zero=>
    simp at ei
    subst ei
    exact .inl (.inr hb)
   |succ i=>exact .inr ⟨i,ci,by lia,by simpa using ei,hb⟩
theorem Io.congr {C:Nat->Int->Prop} {s:Nat} {t:Int} {cs:List C3} {ab ab':Prop} (h:ab↔ab'):Io C s t ab cs↔Io C s t ab' cs:=by rw[h]
theorem si{α:Type}{l:List α}{i:Nat}{a:α}:l.reverse[i]?=some a↔i<l.length/\l[l.length-1-i]?=some a:=by
 by_cases h:i<l.length
 . rw[List.getElem?_reverse h]
   simp[h]
 rw[ab7 (by simpa using h)]
 simp[h]
theorem OF{C:Nat->Int->Prop}{s:Nat}{t:Int}{cs:List C3}:Io C s t False cs.reverse↔On C cs s t:=by
 rw[G2]
 constructor
 . rintro⟨j,cj,e,h1,h2,h3|⟨i,ci,hi,ei,hb⟩⟩
   . exact h3.elim
   obtain⟨l1,e⟩:=si.mp e
   obtain⟨l2,ei⟩:=si.mp ei
   exact⟨_,_,cj,ci,Nat.sub_lt_sub_left (abe hi (Nat.le_sub_one_of_lt l1)) hi,e,ei,h1,h2,hb⟩
 rintro⟨i,j,ci,cj,hi,ei,ej,h1,h2,hb⟩
 have li:=(abt.mp ei).1
 have lj:=(abt.mp ej).1
 refine⟨cs.length-1-i,ci,si.mpr ⟨Nat.sub_one_sub_lt_of_lt li, ?_⟩,h1,h2, .inr ⟨cs.length-1-j,cj,Nat.sub_lt_sub_left (abe hi (Nat.le_sub_one_of_lt lj)) hi,si.mpr ⟨Nat.sub_one_sub_lt_of_lt lj, ?_⟩,hb⟩⟩
 . rw[Nat.sub_sub_self (Nat.le_sub_one_of_lt li)]
   exact ei
 rw[Nat.sub_sub_self (Nat.le_sub_one_of_lt lj)]
 exact ej
noncomputable def jO(off:List Int)(s:Bool×List Int)(c:C3):Bool×List Int:=
 (s.1||decide (c.co<=off.getD c.st 0),if s.1=true then s.2.set c.st (max (s.2.getD c.st 0) c.gs)else s.2)
def wI(off m:List Int)(r:Run):List Int:=(r.cs.reverse.foldl (jO off) (false,m)).2
def eU(runs:List Run)(off:List Int):List Int:=runs.foldl (wI off) (off.map fun _=> -br)
theorem oX{l:List Int}{s s0:Nat}{y t:Int}(h:s<l.length):t<=(l.set s0 (max (l.getD s0 0) y)).getD s 0↔t<=l.getD s 0\/(s0=s/\t<=y):=by
 rw[oh]
 by_cases e:s0=s
 . subst e
   rw[if_pos ⟨rfl,h⟩,Std.le_max]
   simp only[true_and]
 rw[if_neg (fun q=>e q.1)]
 simp[e]
theorem oY{off:List Int}:∀{cs:List C3}{s:Bool×List Int},(cs.foldl (jO off) s).2.length=s.2.length
 |[],s=>rfl
 |c::cs,s=>by
  rw[acb,oY (cs:=cs)]
  unfold jO
  dsimp only
  split<;>simp
theorem Bn{off:List Int}{s:Nat}{t:Int}:∀{cs:List C3}{b:Bool}{m:List Int},s<m.length->(t<=(cs.foldl (jO off) (b,m)).2.getD s 0↔t<=m.getD s 0\/Io (fun st c=>c<=off.getD st 0) s t (b=true) cs)
 |[],b,m,h=>by simp[Io]
 |c::cs,b,m,h=>by
  rw[acb,Io]
  rw[show jO off (b,m) c=(b||decide (c.co<=off.getD c.st 0),if b=true then m.set c.st (max (m.getD c.st 0) c.gs)else m)from rfl]
  rw[Bn (cs:=cs) (by split<;>simp[h])]
  rw[Io.congr (C:=fun st c=>c<=off.getD st 0) (s:=s) (t:=t) (cs:=cs) (show(b||decide (c.co<=off.getD c.st 0))=true↔(b=true\/c.co<=off.getD c.st 0) by simp)]
  cases b with
  |false=>simp
  |true=>
   simp only[if_true,true_and]
   rw[oX h]
   exact or_assoc
theorem tI{off:List Int}:∀{runs:List Run}{m:List Int},(runs.foldl (wI off) m).length=m.length
 |[],m=>rfl
 |r::runs,m=>by
  rw[acb,tI (runs:=runs)]
  unfold wI
  rw[oY]
theorem Bo{off:List Int}{s:Nat}{t:Int}:∀{runs:List Run}{m:List Int},s<m.length->(t<=(runs.foldl (wI off) m).getD s 0↔t<=m.getD s 0\/∃r∈runs,On (fun st c=>c<=off.getD st 0) r.cs s t)
 |[],m,h=>by simp
 |r::runs,m,h=>by
  rw[acb,Bo (runs:=runs) (by unfold wI;rw[oY];exact h)]
  unfold wI
  rw[Bn h,Io.congr (show(false=true)↔False by simp),OF]
  simp only[abo,or_assoc,exists_eq_or_imp]
theorem Ip{runs:List Run}{off:List Int}{s:Nat}{t:Int}(h:s<off.length)(ht: -br<t):t<=(eU runs off).getD s 0↔∃r∈runs,On (fun st c=>c<=off.getD st 0) r.cs s t:=by
 unfold eU
 rw[Bo (by simpa using h),sh h]
 constructor
 . rintro(h1|h1)
   . lia
   exact h1
 exact .inr
theorem Fu{runs:List Run}{off:List Int}:(eU runs off).length=off.length:=by
 unfold eU
 rw[tI]
 simp
noncomputable def dP(bo:List Int)(goal:Nat)(minute:Int):List Int:=bo.set goal (max (bo.getD goal 0) minute)
def xw(T:Table)(bo:List Int):List Int:=(List.range T.stops.length).map fun i=>bo.getD i 0-chg T i
def sA(T:Table)(bo:List Int)(goal:Nat)(minute:Int):List Int:=(xw T bo).set goal (max ((xw T bo).getD goal 0) minute)
noncomputable def lF(xx:List Int)(o:List Int)(w:Walk):List Int:=o.set w.from_ (max (o.getD w.from_ 0) (xx.getD w.to 0-(w.minutes:Int)))
def cU(T:Table)(bo:List Int)(goal:Nat)(minute:Int):List Int×List Int:=
 (T.walks.foldl (lF (dP bo goal minute)) (sA T bo goal minute),dP bo goal minute)
def tJ(T:Table)(day goal:Nat)(minute:Int):Nat->List Int
 |0=>T.stops.map fun _=> -br
 |k+1=>eU (aZ T day) (cU T (tJ T day goal minute k) goal minute).1
def cf(T:Table)(day goal:Nat)(minute:Int)(k:Nat):List Int×List Int:=cU T (tJ T day goal minute k) goal minute
theorem qV{xx:List Int}:∀{ws:List Walk}{o:List Int},(ws.foldl (lF xx) o).length=o.length
 |[],o=>rfl
 |w::ws,o=>by
  rw[acb,qV (ws:=ws)]
  simp[lF]
theorem yT{xx:List Int}{s:Nat}{t:Int}:∀{ws:List Walk}{o:List Int},s<o.length->(t<=(ws.foldl (lF xx) o).getD s 0↔t<=o.getD s 0\/∃w∈ws,w.from_=s/\t+(w.minutes:Int)<=xx.getD w.to 0)
 |[],o,h=>by simp
 |w::ws,o,h=>by
  rw[acb,yT (ws:=ws) (by simpa[lF]using h)]
  unfold lF
  rw[oX h]
  have e:t<=xx.getD w.to 0-(w.minutes:Int)↔t+(w.minutes:Int)<=xx.getD w.to 0:=by lia
  rw[e]
  simp only[abo,or_assoc,exists_eq_or_imp]
theorem uy{T:Table}{bo:List Int}:(xw T bo).length=T.stops.length:=by simp[xw]
theorem Kg{T:Table}{bo:List Int}{s:Nat}(h:s<T.stops.length):(xw T bo).getD s 0=bo.getD s 0-chg T s:=by
 unfold xw
 rw[acd,abV,acr h]
 rfl
theorem sj{T:Table}{bo:List Int}{goal:Nat}{minute:Int}:(cU T bo goal minute).1.length=T.stops.length/\(cU T bo goal minute).2.length=bo.length:=by
 unfold cU
 dsimp only
 rw[qV]
 simp[sA,xw,dP]
theorem uz{T:Table}{day goal:Nat}{minute:Int}:∀{k:Nat},(tJ T day goal minute k).length=T.stops.length
 |0=>by simp[tJ]
 |k+1=>by
  unfold tJ
  rw[Fu]
  exact sj.1
theorem Ce{T:Table}{bo:List Int}{goal:Nat}{minute:Int}{s:Nat}{t:Int}(hb:bo.length=T.stops.length)(hs:s<T.stops.length):t<=(cU T bo goal minute).2.getD s 0↔t<=bo.getD s 0\/(goal=s/\t<=minute):=by
 unfold cU dP
 dsimp only
 exact oX (by lia)
theorem Iq{T:Table}{bo:List Int}{goal:Nat}{minute:Int}{s:Nat}{t:Int}(hs:s<T.stops.length):t<=(cU T bo goal minute).1.getD s 0↔(t+chg T s<=bo.getD s 0\/(goal=s/\t<=minute))\/∃w∈T.walks,w.from_=s/\t+(w.minutes:Int)<=(cU T bo goal minute).2.getD w.to 0:=by
 unfold cU
 dsimp only
 rw[yT (by simpa[sA,xw]using hs)]
 unfold sA
 rw[oX (by simpa[xw]using hs),Kg hs]
 have e:t<=bo.getD s 0-chg T s↔t+chg T s<=bo.getD s 0:=by lia
 rw[e]
def Jn(T:Table)(day goal:Nat)(a:Int)(k:Nat)(z:Place):Prop:=∃m y,follow T day z m=some y/\y.halt_=goal/\y.time<=a/\rides m<=k
theorem G3{T:Table}{day goal:Nat}{a:Int}{k:Nat}{z:Place}:Jn T day goal a k z↔(z.halt_=goal/\z.time<=a)\/∃l y,go T day z l=some y/\i7 l<=k/\Jn T day goal a (k-i7 l) y:=by
 constructor
 . rintro⟨m,y,hf,h1,h2,h3⟩
   cases m with
   |nil=>
    cases hf
    exact .inl ⟨h1,h2⟩
   |cons l m=>
    rw[follow]at hf
    rw[gz]at h3
    cases e:go T day z l with
    |none=>rw[e]at hf;cases hf
    |some u=>
     rw[e]at hf
     exact .inr ⟨l,u,e,by lia,m,y,hf,h1,h2,by lia⟩
 rintro(⟨h1,h2⟩|⟨l,u,e,hk,m,y,hf,h1,h2,h3⟩)
 . exact⟨[],z,U,h1,h2,abE _⟩
 refine⟨l::m,y, ?_,h1,h2, ?_⟩
 . rw[follow,e]
   exact hf
 rw[gz]
 lia
def uA(T:Table)(day goal:Nat)(a:Int)(k s:Nat)(t:Int):Prop:=∃r∈aZ T day,On (fun st c=>Jn T day goal a k ⟨st,c,1⟩) r.cs s t
theorem uB{T:Table}{day goal:Nat}{a:Int}{k:Nat}{z:Place}:(∃n d i j y,go T day z (.ride n d i j)=some y/\Jn T day goal a k y)↔uA T day goal a k z.halt_ (aG T z):=by
 constructor
 . rintro⟨n,d,i,j,y,h,hc⟩
   obtain⟨p,hp,kN,hj,lA,nX,rfl⟩:=gp.mp h
   exact⟨_,yd hp,i,j,_,_,kN,bR (by lia),bR hj,lA,nX,hc⟩
 rintro⟨r,hr,i,j,ci,cj,kN,ei,ej,h1,h2,hc⟩
 obtain⟨p,hp,ec⟩:=qU hr
 rw[ec]at ei ej
 obtain⟨hi,rfl⟩:=cu ei
 obtain⟨hj,rfl⟩:=cu ej
 exact⟨r.n,r.k,i,j,_,gp.mpr ⟨p,hp,kN,hj,h1,h2,U⟩,hc⟩
theorem vG{T:Table}{day goal:Nat}{a:Int}(ok:oK T day)(hg:goal<T.stops.length):∀(k:Nat),(∀(s:Nat)(t:Int),s<T.stops.length-> -br<t->(t<=(tJ T day goal a k).getD s 0↔0<k/\uA T day goal a (k-1) s t))/\
 (∀(s:Nat)(t:Int),s<T.stops.length-> -br<t->(t<=(cf T day goal a k).2.getD s 0↔Jn T day goal a k ⟨s,t,2⟩))/\(∀(s:Nat)(t:Int),s<T.stops.length-> -br<t->(t<=(cf T day goal a k).1.getD s 0↔Jn T day goal a k ⟨s,t,1⟩)):=by
 have main:∀(k:Nat),(∀(s:Nat)(t:Int),s<T.stops.length-> -br<t->(t<=(tJ T day goal a k).getD s 0↔0<k/\uA T day goal a (k-1) s t))->
  (∀(s:Nat)(t:Int),s<T.stops.length-> -br<t->(t<=(cf T day goal a k).2.getD s 0↔Jn T day goal a k ⟨s,t,2⟩))/\(∀(s:Nat)(t:Int),s<T.stops.length-> -br<t->(t<=(cf T day goal a k).1.getD s 0↔Jn T day goal a k ⟨s,t,1⟩)):=by
  intro k QG
  have OG:∀(s:Nat)(t:Int),s<T.stops.length-> -br<t->(t<=(cf T day goal a k).2.getD s 0↔Jn T day goal a k ⟨s,t,2⟩):=fun s t hs ht=>by
   unfold cf
   rw[Ce uz hs,QG s t hs ht,G3]
   constructor
   . rintro(⟨hk,h⟩|⟨h1,h2⟩)
     . obtain⟨n,d,i,j,y,h,hc⟩:=(uB (z:=⟨s,t,2⟩)).mpr h
       exact .inr ⟨_,y,h,hk,hc⟩
     exact .inl ⟨h1.symm,h2⟩
   rintro(⟨h1,h2⟩|⟨l,y,h,hk,hc⟩)
   . exact .inr ⟨h1.symm,h2⟩
   cases l with
   |walk w=>
    obtain⟨_,_,_,h,_⟩:=fh.mp h
    exact(h rfl).elim
   |ride n d i j=>exact .inl ⟨hk,(uB (z:=⟨s,t,2⟩)).mp ⟨n,d,i,j,y,h,hc⟩⟩
  refine⟨OG,fun s t hs ht=> ?_⟩
  have hc0:=oT T s
  show t<=(cU T (tJ T day goal a k) goal a).1.getD s 0↔_
  rw[Iq hs,QG s _ hs (by lia),G3]
  constructor
  . rintro((⟨hk,h⟩|⟨h1,h2⟩)|⟨w,hw,hf,h⟩)
    . obtain⟨n,d,i,j,y,h,hc⟩:=(uB (z:=⟨s,t,1⟩)).mpr h
      exact .inr ⟨_,y,h,hk,hc⟩
    . exact .inl ⟨h1.symm,h2⟩
    obtain⟨i,hi⟩:=acv.mp hw
    exact .inr ⟨.walk i,_,fh.mpr ⟨w,hi,hf,(by show(1:Nat)≠2;decide),rfl⟩,abE _,(OG _ _ (ok.wk w hw).2.1 (by dsimp only;lia)).mp h⟩
  rintro(⟨h1,h2⟩|⟨l,y,h,hk,hc⟩)
  . exact .inl (.inr ⟨h1.symm,h2⟩)
  cases l with
  |walk i=>
   obtain⟨w,hi,hf,_,rfl⟩:=fh.mp h
   have hw:=abW hi
   exact .inr ⟨w,hw,hf,(OG _ _ (ok.wk w hw).2.1 (by lia)).mpr hc⟩
  |ride n d i j=>exact .inl (.inl ⟨hk,(uB (z:=⟨s,t,1⟩)).mp ⟨n,d,i,j,y,h,hc⟩⟩)
 intro k
 induction k with
 |zero=>
  have h0:∀(s:Nat)(t:Int),s<T.stops.length-> -br<t->(t<=(tJ T day goal a 0).getD s 0↔0<0/\uA T day goal a (0-1) s t):=fun s t hs ht=>by
   unfold tJ
   rw[sh hs]
   constructor
   . intro h
     lia
   rintro⟨h,_⟩
   lia
  exact⟨h0,main 0 h0⟩
 |succ k ih=>
  have h0:∀(s:Nat)(t:Int),s<T.stops.length-> -br<t->(t<=(tJ T day goal a (k+1)).getD s 0↔0<k+1/\uA T day goal a (k+1-1) s t):=fun s t hs ht=>by
   show t<=(eU (aZ T day) (cf T day goal a k).1).getD s 0↔_
   rw[Ip (by unfold cf;rw[sj.1];exact hs) ht]
   have hx:∀r∈aZ T day,(On (fun st c=>c<=(cf T day goal a k).1.getD st 0) r.cs s t↔On (fun st c=>Jn T day goal a k ⟨st,c,1⟩) r.cs s t):=fun r hr=>by
    constructor
    . rintro⟨i,j,ci,cj,kN,ei,ej,h1,h2,h3⟩
      have:=ok.rn r hr cj (abW ej)
      exact⟨i,j,ci,cj,kN,ei,ej,h1,h2,(ih.2.2 cj.st cj.co this.1 (by unfold br;lia)).mp h3⟩
    rintro⟨i,j,ci,cj,kN,ei,ej,h1,h2,h3⟩
    have:=ok.rn r hr cj (abW ej)
    exact⟨i,j,ci,cj,kN,ei,ej,h1,h2,(ih.2.2 cj.st cj.co this.1 (by unfold br;lia)).mpr h3⟩
   constructor
   . rintro⟨r,hr,h⟩
     exact⟨by lia,r,hr,(hx r hr).mp h⟩
   rintro⟨_,r,hr,h⟩
   exact⟨r,hr,(hx r hr).mpr h⟩
  exact⟨h0,main (k+1) h0⟩
end Td
namespace Td
open Sg45
theorem G4{T:Table}{day:Nat}(ok:oK T day){x y:Place}{l:Leg}(h:go T day x l=some y):x.time<=y.time:=by
 cases l with
 |walk w=>
  obtain⟨z,_,_,_,rfl⟩:=fh.mp h
  show x.time<=x.time+_
  lia
 |ride n k i j=>
  obtain⟨p,hp,kN,hj,lA,nX,rfl⟩:=gp.mp h
  have h1:=ok.ord _ (yd hp) i j _ _ kN (bR (by lia)) (bR hj)
  have h1:p.goes day k i<=p.comes day k j:=h1
  have h2:x.time<=aG T x:=by
   unfold aG
   have:=oT T x.halt_
   split<;>lia
  show x.time<=p.comes day k j
  lia
theorem qW{T:Table}{day:Nat}(ok:oK T day):∀{m:List Leg}{x y:Place},follow T day x m=some y->x.time<=y.time
 |[],x,y,h=>by
  cases h
  lia
 |l::m,x,y,h=>by
  rw[follow]at h
  cases e:go T day x l with
  |none=>rw[e]at h;cases h
  |some u=>
   rw[e]at h
   have h1:=G4 ok e
   have h2:=qW ok h
   lia
def Good(T:Table)(day goal:Nat)(a:Int)(k:Nat)(z:Place):Prop:=∃m y,follow T day z m=some y/\y.halt_=goal/\y.time=a/\rides m=k
def Min(T:Table)(day goal:Nat)(a:Int)(k:Nat)(z:Place):Prop:=∀m y,follow T day z m=some y->y.halt_=goal->a<=y.time/\(y.time<=a->k<=rides m)
theorem Min.go {T:Table} {day goal:Nat} {a:Int} {k:Nat} {x y:Place} {l:Leg} (M:Min T day goal a k x) (h:go T day x l=some y):Min T day goal a (k-i7 l) y:=fun m z hf hz=>by
 have:=M (l::m) z (by rw[follow,h];exact hf) hz
 rw[gz]at this
 exact⟨this.1,fun q=>by have:=this.2 q;lia⟩
theorem DN{T:Table}{day goal:Nat}{a:Int}{k:Nat}{z:Place}(M:Min T day goal a k z):Jn T day goal a k z↔Good T day goal a k z:=by
 constructor
 . rintro⟨m,y,hf,h1,h2,h3⟩
   have:=M m y hf h1
   have:=this.2 h2
   exact⟨m,y,hf,h1,by lia,by lia⟩
 rintro⟨m,y,hf,h1,h2,h3⟩
 exact⟨m,y,hf,h1,by lia,by lia⟩
noncomputable def cont(T:Table)(day goal:Nat)(a:Int)(fuel:Nat)(x:Place)(n:Nat)(l:Leg):Option (List Leg):=(go T day x l).bind fun y=>(search T day goal a (instances T day) fuel n y).map fun m=>l::m
theorem kC{T:Table}{day goal:Nat}{a:Int}{fuel left:Nat}{x:Place}:search T day goal a (instances T day) (fuel+1) left x=
 if x.halt_=goal/\x.time=a/\left=0 then some []else if a<x.time then none else
 match(List.range T.walks.length).findSome? fun w=>cont T day goal a fuel x left (.walk w)with
 |some l=>some l
 |none=>if left=0 then none else(instances T day).findSome? fun(z:Nat×Int×Trip)=>(List.range z.2.2.calls.length).findSome? fun i=>if z.2.2.stopAt i≠x.halt_ then none else
  (List.range z.2.2.calls.length).findSome? fun j=>if j<=i then none else cont T day goal a fuel x (left-1) (.ride z.1 z.2.1 i j):=rfl
theorem i8{T:Table}{day goal:Nat}{a:Int}:∀{fuel left:Nat}{x:Place}{m:List Leg},search T day goal a (instances T day) fuel left x=some m->∃y,follow T day x m=some y/\y.halt_=goal/\y.time=a/\rides m=left
 |0,left,x,m,h=>by cases h
 |fuel+1,left,x,m,h=>by
  have hc:∀n l,cont T day goal a fuel x n l=some m->∃y,follow T day x m=some y/\y.halt_=goal/\y.time=a/\rides m=n+i7 l:=by
   intro n l h
   unfold cont at h
   cases e:go T day x l with
   |none=>rw[e]at h;cases h
   |some u=>
    rw[e,acw]at h
    cases e2:search T day goal a (instances T day) fuel n u with
    |none=>rw[e2]at h;cases h
    |some m'=>
     rw[e2]at h
     have h:l::m'=m:=Option.some.inj h
     obtain⟨y,h1,h2,h3,h4⟩:=i8 e2
     subst h
     exact⟨y,by rw[follow,e];exact h1,h2,h3,by rw[gz];lia⟩
  rw[kC]at h
  split at h
  . rename_i c
    cases h
    exact⟨x,U,c.1,c.2.1,c.2.2.symm⟩
  split at h
  . cases h
  split at h
  . rename_i l e
    cases h
    obtain⟨w,_,e⟩:=acx e
    exact hc _ _ e
  split at h
  . cases h
  rename_i hl
  obtain⟨z,_,h⟩:=acx h
  obtain⟨i,_,h⟩:=acx h
  split at h
  . cases h
  obtain⟨j,_,h⟩:=acx h
  split at h
  . cases h
  obtain⟨y,h1,h2,h3,h4⟩:=hc _ _ h
  refine⟨y,h1,h2,h3, ?_⟩
  rw[h4]
  show left-1+1=left
  lia
def eV(fuel left:Nat)(x:Place):Prop:=2*left+(if x.way=2 then 1 else 2)<=fuel
theorem eV.walk {fuel left:Nat} {x y:Place} (h:eV (fuel+1) left x) (h1:x.way≠2) (h2:y.way=2):eV fuel left y:=by
 unfold eV at*
 rw[if_neg h1]at h
 rw[if_pos h2]
 lia
theorem eV.ride {fuel left:Nat} {x y:Place} (h:eV (fuel+1) left x) (h1:0<left):eV fuel (left-1) y:=by
 unfold eV at*
 split at h<;>split<;>lia
theorem iy{T:Table}{day goal:Nat}{a:Int}(ok:oK T day):∀{fuel left:Nat}{x:Place},eV fuel left x->Good T day goal a left x->(search T day goal a (instances T day) fuel left x).isSome=true
 |0,left,x,hf,_=>by
  unfold eV at hf
  split at hf<;>lia
 |fuel+1,left,x,hf,hh=>by
  obtain⟨m,y,hm,h1,h2,h3⟩:=hh
  rw[kC]
  split
  . rfl
  rename_i c
  have ht:=qW ok hm
  rw[if_neg (by lia)]
  cases m with
  |nil=>
   cases hm
   exact(c ⟨h1,h2,h3.symm⟩).elim
  |cons l m=>
   rw[follow]at hm
   rw[gz]at h3
   cases e:go T day x l with
   |none=>rw[e]at hm;cases hm
   |some u=>
    rw[e]at hm
    have hg:Good T day goal a (left-i7 l) u:=⟨m,y,hm,h1,h2,by lia⟩
    cases l with
    |walk w=>
     obtain⟨z,hz,_,OD,hu⟩:=fh.mp e
     have hs:=iy ok (hf.walk OD (by rw[hu])) hg
     have:((List.range T.walks.length).findSome? fun w=>cont T day goal a fuel x left (.walk w)).isSome=true:=by
      rw[acy]
      refine⟨w,abi.mpr (abt.mp hz).1, ?_⟩
      unfold cont
      rw[e,acw,acz]
      exact hs
     split
     . rfl
     rename_i q
     rw[q]at this
     cases this
    |ride n k i j=>
     split
     . rfl
     obtain⟨p,hp,kN,hj,lA,nX,hu⟩:=gp.mp e
     have hl:0<left:=by
      have:i7 (.ride n k i j)=1:=rfl
      lia
     rw[if_neg (by lia)]
     have hs:=iy ok (hf.ride (y:=u) hl) hg
     rw[acy]
     refine⟨(n,k,p),hp, ?_⟩
     rw[acy]
     refine⟨i,abi.mpr (by show i<p.calls.length;lia), ?_⟩
     rw[if_neg (by show¬p.stopAt i≠x.halt_;rw[lA];exact fun q=>q rfl),acy]
     refine⟨j,abi.mpr hj, ?_⟩
     rw[if_neg (by lia)]
     unfold cont
     rw[e,acw,acz]
     exact hs
theorem vH{T:Table}{day goal:Nat}{a:Int}(ok:oK T day){fuel n:Nat}{x y:Place}{l:Leg}(h:go T day x l=some y)(hf:eV fuel n y)(M:Min T day goal a n y):(cont T day goal a fuel x n l).isSome=true↔Jn T day goal a n y:=by
 unfold cont
 rw[h,acw,acz,DN M]
 constructor
 . intro h
   obtain⟨m,hm⟩:=abQ.mp h
   obtain⟨y,h1,h2,h3,h4⟩:=i8 hm
   exact⟨m,y,h1,h2,h3,h4⟩
 exact iy ok hf
theorem ij{α β γ:Type}{f:α->Option γ}{g:α->Option β}{F:β->Option γ}:∀{l:List α},(∀a∈l,f a=(g a).bind F)->(∀a∈l,∀b,g a=some b->(F b).isSome=true)->l.findSome? f=(l.findSome? g).bind F
 |[],_,_=>rfl
 |a::l,h1,h2=>by
  rw[acA,acA,h1 a (by simp)]
  cases e:g a with
  |none=>
   rw[Option.bind_none]
   exact ij (fun b hb=>h1 b (by simp[hb])) (fun b hb=>h2 b (by simp[hb]))
  |some b=>
   rw[acw]
   have:=h2 a (by simp) b e
   obtain⟨c,hc⟩:=abQ.mp this
   rw[hc]
theorem fW{α β:Type}{g:α->Option β}{l:List α}{P:β->Prop}(h:∀a∈l,∀b,g a=some b->P b){b:β}(hb:l.findSome? g=some b):P b:=by
 obtain⟨a,ha,e⟩:=acx hb
 exact h a ha b e
noncomputable def fw(T:Table)(x:Place)(xx:List Int)(w:Nat):Bool:=(T.walks[w]?).any fun v=>decide (v.from_=x.halt_)&&decide (x.time+((v.minutes:Nat):Int)<=xx.getD v.to 0)
def fX(T:Table)(x:Place)(xx:List Int):Option Nat:=(List.range T.walks.length).find? (fw T x xx)
def gA(T:Table)(day:Nat)(x:Place)(off:List Int)(z:Nat×Int×Trip)(i j:Nat):Option Leg:=
 if j<=i then none else if aG T x<=z.2.2.goes day z.2.1 i/\z.2.2.comes day z.2.1 j<=off.getD (z.2.2.stopAt j) 0 then some (.ride z.1 z.2.1 i j)else none
def iS(T:Table)(day:Nat)(x:Place)(off:List Int):Option Leg:=(instances T day).findSome? fun z=>(List.range z.2.2.calls.length).findSome? fun i=>if z.2.2.stopAt i≠x.halt_ then none else
 (List.range z.2.2.calls.length).findSome? fun j=>gA T day x off z i j
theorem find_some{α β:Type}{p:α->Bool}{g:α->β}:∀{l:List α},(l.find? p).map g=l.findSome? fun a=>if p a=true then some (g a)else none
 |[]=>rfl
 |a::l=>by
  rw[List.find?_cons,acA]
  cases e:p a with
  |true=>rfl
  |false=>exact find_some
theorem min_zero{T:Table}{day goal:Nat}{a:Int}{k:Nat}{x:Place}(ok:oK T day)(M:Min T day goal a k x)(G:Good T day goal a k x):x.time<=a/\(x.halt_=goal->x.time=a/\k=0):=by
 obtain⟨m,y,hf,h1,h2,h3⟩:=G
 have ht:=qW ok hf
 refine⟨by lia,fun q=> ?_⟩
 have:=M [] x rfl q
 have h4:=this.2 (by lia)
 have h5:rides []=0:=rfl
 lia
theorem step_done{T:Table}{day goal:Nat}{a:Int}{k fuel:Nat}{x:Place}(ok:oK T day)(M:Min T day goal a k x)(G:Good T day goal a k x)(h:x.halt_=goal):k=0/\search T day goal a (instances T day) (fuel+1) k x=some []:=by
 have:=(min_zero ok M G).2 h
 refine⟨this.2, ?_⟩
 rw[kC,if_pos ⟨h,this.1,this.2⟩]
theorem wJ{T:Table}{day goal:Nat}{a:Int}{k fuel:Nat}{x:Place}(ok:oK T day)(M:Min T day goal a k x)(G:Good T day goal a k x)(h:x.halt_≠goal):search T day goal a (instances T day) (fuel+1) k x=
 match(List.range T.walks.length).findSome? fun w=>cont T day goal a fuel x k (.walk w)with
 |some l=>some l
 |none=>if k=0 then none else(instances T day).findSome? fun(z:Nat×Int×Trip)=>(List.range z.2.2.calls.length).findSome? fun i=>if z.2.2.stopAt i≠x.halt_ then none else
  (List.range z.2.2.calls.length).findSome? fun j=>if j<=i then none else cont T day goal a fuel x (k-1) (.ride z.1 z.2.1 i j):=by
 have:=(min_zero ok M G).1
 rw[kC,if_neg (fun q=>h q.1),if_neg (by lia)]
theorem DO{T:Table}{day goal:Nat}{a:Int}{k fuel:Nat}{x:Place}(ok:oK T day)(hg:goal<T.stops.length)(M:Min T day goal a k x)(hf:eV (fuel+1) k x)(hx: -1440<=x.time)(hw:x.way≠2):
 (List.range T.walks.length).findSome? (fun w=>cont T day goal a fuel x k (.walk w))=(fX T x (cf T day goal a k).2).bind fun w=>cont T day goal a fuel x k (.walk w):=by
 have e:=find_some (p:=fw T x (cf T day goal a k).2) (g:=id) (l:=List.range T.walks.length)
 unfold fX
 rw[show(List.range T.walks.length).find? (fw T x (cf T day goal a k).2)=((List.range T.walks.length).find? (fw T x (cf T day goal a k).2)).map id by simp,e]
 have key:∀w∈List.range T.walks.length,fw T x (cf T day goal a k).2 w=true↔(cont T day goal a fuel x k (.walk w)).isSome=true:=by
  intro w RO
  have di:=abi.mp RO
  have hv:=acf di
  generalize T.walks[w]=v at hv
  have hm:=abW hv
  unfold fw
  rw[hv,acg,ab6,decide_eq_true_eq,decide_eq_true_eq]
  by_cases Dx:v.from_=x.halt_
  . have lG:go T day x (.walk w)=some ⟨v.to,x.time+(v.minutes:Int),2⟩:=fh.mpr ⟨v,hv,Dx,hw,rfl⟩
    rw[vH ok lG (hf.walk hw rfl) (M.go lG),((vG ok hg k).2.1 v.to _ (ok.wk v hm).2.1 (by unfold br;lia))]
    exact⟨fun q=>q.2,fun q=>⟨Dx,q⟩⟩
  constructor
  . exact fun q=>(Dx q.1).elim
  intro q
  exfalso
  unfold cont at q
  cases e:go T day x (.walk w)with
  |none=>rw[e]at q;cases q
  |some y=>
   obtain⟨z,hz,h1,_⟩:=fh.mp e
   rw[hv]at hz
   cases hz
   exact Dx h1
 apply ij
 . intro w RO
   have:=key w RO
   by_cases c:fw T x (cf T day goal a k).2 w=true
   . rw[if_pos c]
     rfl
   rw[if_neg c]
   cases e:cont T day goal a fuel x k (.walk w)with
   |none=>rfl
   |some y=>
    rw[e]at this
    exact(c (this.mpr rfl)).elim
 intro w RO b hb
 split at hb
 . rename_i c
   cases hb
   exact(key w RO).mp c
 cases hb
theorem Kh{T:Table}{day goal:Nat}{a:Int}{k fuel:Nat}{x:Place}(ok:oK T day)(hg:goal<T.stops.length)(M:Min T day goal a k x)(hf:eV (fuel+1) k x)(hk:0<k):
 ((instances T day).findSome? fun(z:Nat×Int×Trip)=>(List.range z.2.2.calls.length).findSome? fun i=>if z.2.2.stopAt i≠x.halt_ then none else
  (List.range z.2.2.calls.length).findSome? fun j=>if j<=i then none else cont T day goal a fuel x (k-1) (.ride z.1 z.2.1 i j))=(iS T day x (cf T day goal a (k-1)).1).bind fun l=>cont T day goal a fuel x (k-1) l:=by
 have key:∀(z:Nat×Int×Trip)(i j:Nat),z∈instances T day->z.2.2.stopAt i=x.halt_->i<j->j<z.2.2.calls.length->((aG T x<=z.2.2.goes day z.2.1 i/\z.2.2.comes day z.2.1 j<=(cf T day goal a (k-1)).1.getD (z.2.2.stopAt j) 0)↔(cont T day goal a fuel x (k-1) (.ride z.1 z.2.1 i j)).isSome=true):=by
  intro z i j hz lA kN hj
  obtain⟨n,d,p⟩:=z
  dsimp only at*
  by_cases nX:aG T x<=p.goes day d i
  . have lG:go T day x (.ride n d i j)=some ⟨p.stopAt j,p.comes day d j,1⟩:=gp.mpr ⟨p,hz,kN,hj,lA,nX,rfl⟩
    have hc:=ok.rn _ (yd hz) _ (abW (bR (p:=p) (day:=day) (k:=d) hj))
    have hc:p.stopAt j<T.stops.length/\p.goes day d j<10000/\ -1440<=p.comes day d j/\p.comes day d j<10000:=hc
    rw[vH ok lG (hf.ride hk) (M.go lG),(vG ok hg (k-1)).2.2 (p.stopAt j) _ hc.1 (by unfold br;lia)]
    exact⟨fun q=>q.2,fun q=>⟨nX,q⟩⟩
  constructor
  . exact fun q=>(nX q.1).elim
  intro q
  exfalso
  unfold cont at q
  cases e:go T day x (.ride n d i j)with
  |none=>rw[e]at q;cases q
  |some y=>
   obtain⟨p',Lw,_,_,_,h,_⟩:=gp.mp e
   have e1:=(cM.mp hz).1
   have e2:=(cM.mp Lw).1
   rw[e1]at e2
   cases e2
   exact nX h
 unfold iS
 apply ij
 . intro z hz
   apply ij
   . intro i hi
     by_cases lA:z.2.2.stopAt i≠x.halt_
     . rw[if_pos lA,if_pos lA]
       rfl
     rw[if_neg lA,if_neg lA]
     apply ij
     . intro j hj
       unfold gA
       by_cases kN:j<=i
       . rw[if_pos kN,if_pos kN]
         rfl
       rw[if_neg kN,if_neg kN]
       have:=key z i j hz (acp lA) (by lia) (abi.mp hj)
       split
       . rfl
       rename_i c
       cases e:cont T day goal a fuel x (k-1) (.ride z.1 z.2.1 i j)with
       |none=>rfl
       |some y=>
        rw[e]at this
        exact(c (this.mpr rfl)).elim
     intro j hj b hb
     unfold gA at hb
     split at hb
     . cases hb
     split at hb
     . cases hb
       exact(key z i j hz (acp lA) (by lia) (abi.mp hj)).mp (by assumption)
     cases hb
   intro i hi b hb
   split at hb
   . cases hb
   rename_i lA
   refine fW (P:=fun b=>(cont T day goal a fuel x (k-1) b).isSome=true) ?_ hb
   intro j hj b hb
   unfold gA at hb
   split at hb
   . cases hb
   split at hb
   . cases hb
     exact(key z i j hz (acp lA) (by lia) (abi.mp hj)).mp (by assumption)
   cases hb
 intro z hz b hb
 refine fW (P:=fun b=>(cont T day goal a fuel x (k-1) b).isSome=true) ?_ hb
 intro i hi b hb
 split at hb
 . cases hb
 rename_i lA
 refine fW (P:=fun b=>(cont T day goal a fuel x (k-1) b).isSome=true) ?_ hb
 intro j hj b hb
 unfold gA at hb
 split at hb
 . cases hb
 split at hb
 . cases hb
   exact(key z i j hz (acp lA) (by lia) (abi.mp hj)).mp (by assumption)
 cases hb
theorem Ir{T:Table}{day goal:Nat}{a:Int}{k fuel:Nat}{x:Place}(hw:x.way=2):(List.range T.walks.length).findSome? (fun w=>cont T day goal a fuel x k (.walk w))=none:=by
 rw[acB]
 intro w _
 unfold cont
 cases e:go T day x (.walk w)with
 |none=>rfl
 |some y=>
  obtain⟨z,_,_,h,_⟩:=fh.mp e
  exact(h hw).elim
theorem Iu{T:Table}{day goal:Nat}{a:Int}{k fuel:Nat}{x:Place}(ok:oK T day)(hg:goal<T.stops.length)(M:Min T day goal a k x)(G:Good T day goal a k x)(hf:eV (fuel+1) k x)(hx: -1440<=x.time)(h:x.halt_≠goal)(hw:x.way≠2){w:Nat}(QH:fX T x (cf T day goal a k).2=some w):
 ∃y,go T day x (.walk w)=some y/\Min T day goal a k y/\Good T day goal a k y/\eV fuel k y/\search T day goal a (instances T day) (fuel+1) k x=(search T day goal a (instances T day) fuel k y).map (fun m=> .walk w::m):=by
 have e:=DO ok hg M hf hx hw
 rw[QH,acw]at e
 unfold fX at QH
 have ht:=List.find?_some QH
 have di:=abi.mp (List.mem_of_find?_eq_some QH)
 have hv:=acf di
 generalize T.walks[w]=v at hv
 have hm:=abW hv
 unfold fw at ht
 rw[hv,acg,ab6,decide_eq_true_eq,decide_eq_true_eq]at ht
 have lG:go T day x (.walk w)=some ⟨v.to,x.time+(v.minutes:Int),2⟩:=fh.mpr ⟨v,hv,ht.1,hw,rfl⟩
 have M':=M.go lG
 have NB:=hf.walk (y:=⟨v.to,x.time+(v.minutes:Int),2⟩) hw rfl
 have hc:=((vG ok hg k).2.1 v.to _ (ok.wk v hm).2.1 (by unfold br;lia)).mp ht.2
 refine⟨_,lG,M',(DN M').mp hc,NB, ?_⟩
 have hs:=(vH ok lG NB M').mpr hc
 rw[wJ ok M G h,e]
 have ec:cont T day goal a fuel x k (.walk w)=(search T day goal a (instances T day) fuel k ⟨v.to,x.time+(v.minutes:Int),2⟩).map (fun m=> .walk w::m):=by
  unfold cont
  rw[lG]
  rfl
 rw[ec]at hs⊢
 obtain⟨m,OH⟩:=abQ.mp hs
 rw[OH]
theorem Iv{T:Table}{day goal:Nat}{a:Int}{k fuel:Nat}{x:Place}(ok:oK T day)(hg:goal<T.stops.length)(M:Min T day goal a k x)(G:Good T day goal a k x)(hf:eV (fuel+1) k x)(hx: -1440<=x.time)(h:x.halt_≠goal)(hw:x.way=2\/fX T x (cf T day goal a k).2=none):
 0<k/\∃l y,iS T day x (cf T day goal a (k-1)).1=some l/\go T day x l=some y/\i7 l=1/\Min T day goal a (k-1) y/\Good T day goal a (k-1) y/\eV fuel (k-1) y/\search T day goal a (instances T day) (fuel+1) k x=(search T day goal a (instances T day) fuel (k-1) y).map (fun m=>l::m):=by
 have e1:(List.range T.walks.length).findSome? (fun w=>cont T day goal a fuel x k (.walk w))=none:=by
  by_cases c:x.way=2
  . exact Ir c
  rw[DO ok hg M hf hx c]
  rcases hw with hw|hw
  . exact(c hw).elim
  rw[hw]
  rfl
 have hs:=iy ok hf G
 have eo:=wJ (fuel:=fuel) ok M G h
 rw[e1]at eo
 dsimp only at eo
 rw[eo]at hs
 have hk:0<k:=by
  apply acp
  intro q
  rw[if_pos (by lia)]at hs
  cases hs
 rw[if_neg (by lia),Kh ok hg M hf hk]at hs eo
 refine⟨hk, ?_⟩
 cases e2:iS T day x (cf T day goal a (k-1)).1 with
 |none=>rw[e2]at hs;cases hs
 |some l=>
  rw[e2,acw]at hs eo
  have hr:i7 l=1:=by
   unfold iS at e2
   refine fW (P:=fun b=>i7 b=1) ?_ e2
   intro z _ b hb
   refine fW (P:=fun b=>i7 b=1) ?_ hb
   intro i _ b hb
   split at hb
   . cases hb
   refine fW (P:=fun b=>i7 b=1) ?_ hb
   intro j _ b hb
   unfold gA at hb
   split at hb
   . cases hb
   split at hb
   . cases hb
     rfl
   cases hb
  unfold cont at hs
  cases e3:go T day x l with
  |none=>rw[e3]at hs;cases hs
  |some y=>
   have ec:cont T day goal a fuel x (k-1) l=(search T day goal a (instances T day) fuel (k-1) y).map (fun m=>l::m):=by
    unfold cont
    rw[e3]
    rfl
   rw[e3,acw,acz]at hs
   obtain⟨m,hm⟩:=abQ.mp hs
   obtain⟨u,h1,h2,h3,h4⟩:=i8 hm
   have M':=M.go e3
   rw[hr]at M'
   exact⟨l,y,U,e3,hr,M',⟨m,u,h1,h2,h3,h4⟩,hf.ride hk,eo.trans ec⟩
theorem jN.min {T:Table} {day:Nat} {x:Place} {goal:Nat} {a:Int} {r:Nat} (B:jN T day x goal a r) (ok:oK T day) (hw:x.way<=2) (hx:x.halt_<T.stops.length):Min T day goal a r x:=fun m y h hy=>B.o1 ok hw hx h hy
theorem jN.good {T:Table} {day:Nat} {x:Place} {goal:Nat} {a:Int} {r:Nat} (B:jN T day x goal a r) (ok:oK T day) (hw:x.way<=2) (hx:x.halt_<T.stops.length) (hg:goal<T.stops.length):Good T day goal a r x:=B.o2 ok hw hx hg
theorem Mj{T:Table}{day:Nat}{x:Place}{goal:Nat}{a:Int}{r:Nat}(B:jN T day x goal a r)(ok:oK T day)(hg:goal<T.stops.length):Sw83.plan T day goal x=(search T day goal a (instances T day) (2*r+3) r x).map fun m=>⟨a,r,m⟩:=by
 unfold Sw83.plan
 dsimp only
 rw[(Bm ok hg B).1,acw,(Bm ok hg B).2,acw]
theorem Iw{T:Table}{day:Nat}{x:Place}{goal:Nat}(ok:oK T day)(hg:goal<T.stops.length)(h:∀n t,¬aQ (qN T day x n) goal t):Sw83.plan T day goal x=none:=by
 unfold Sw83.plan
 dsimp only
 rw[Ij ok hg h]
 rfl
end Td
namespace Td
open Sw76
theorem DP{m i:Nat}(h:m.testBit i=false):m+2^i=m|||2^i:=by
 apply acC
 intro j
 rw[acD,acE,Nat.add_comm]
 by_cases h1:j<i
 . rw[Nat.testBit_two_pow_add_gt h1]
   simp
   lia
 by_cases h2:j=i
 . subst h2
   rw[Nat.testBit_two_pow_add_eq,h]
   simp
 have h3:¬i=j:=fun q=>h2 q.symm
 simp[h3]
 have e:(2^i+m)/2^(i+1)=m/2^(i+1):=by
  have hb:m/2^i%2=0:=by
   rw[acF]at h
   simp at h
   lia
  rw[Nat.pow_succ,<-acG,<-acG,Nat.add_comm,Nat.add_div_right _ (acH i)]
  lia
 obtain⟨d,rfl⟩:∃d,j=d+(i+1):=⟨j-(i+1),by lia⟩
 rw[acF,acF,Nat.pow_add,Nat.mul_comm,<-acG,<-acG,e]
noncomputable def dX(l:List Nat)(m:Nat):Nat:=l.foldl (fun m z=>m|||2^z) m
theorem sk(l:List Nat):bitsOf l=dX l 0:=by
 unfold bitsOf dX
 congr 1
 funext m i
 by_cases h:has m i=true
 . rw[if_pos h]
   apply acC
   intro j
   rw[acD,acE]
   unfold has at h
   by_cases e:i=j
   . subst e
     simp[h]
   simp[e]
 rw[if_neg h]
 exact DP (by unfold has at h;simpa using h)
theorem jP:∀{l:List Nat}{m i:Nat},(dX l m).testBit i=(m.testBit i||decide (i∈l))
 |[],m,i=>by simp[dX]
 |z::l,m,i=>by
  have:=jP (l:=l) (m:=m|||2^z) (i:=i)
  unfold dX at this⊢
  rw[acb,this,acD,acE]
  by_cases e:z=i
  . subst e
    simp
  have e2:¬i=z:=fun q=>e q.symm
  simp[e,e2]
theorem yU{l:List Nat}{i:Nat}:has (bitsOf l) i=decide (i∈l):=by
 unfold has
 rw[sk,jP]
 simp
noncomputable def bl(n:Nat):Nat:=if n=0 then 0 else n.log2+1
def mem(n:Nat):List Nat:=(List.range (bl n)).filter fun i=>n.testBit i
theorem Ki(n:Nat):n<2^bl n:=by
 unfold bl
 split
 . lia
 exact Nat.lt_log2_self
theorem fx{n k i:Nat}(h:n<2^k)(hi:k<=i):n.testBit i=false:=Nat.testBit_lt_two_pow (abe h (acI (by lia) hi))
theorem oZ{p:Nat->Bool}{a:Nat}:∀{b:Nat},(∀i,a<=i->p i=false)->a<=b->(List.range b).filter p=(List.range a).filter p
 |0,h,XW=>by
  have:a=0:=by lia
  rw[this]
 |b+1,h,XW=>by
  by_cases e:a=b+1
  . rw[e]
  rw[ach,acJ,oZ h (by lia)]
  simp[h b (by lia)]
theorem eT{n k:Nat}(h:n<2^k):mem n=members k n:=by
 unfold mem members has
 by_cases c:bl n<=k
 . exact(oZ (fun i hi=>fx (Ki n) hi) c).symm
 exact oZ (fun i hi=>fx h hi) (by lia)
theorem mem_iff{n i:Nat}:i∈mem n↔n.testBit i=true:=by
 unfold mem
 simp only[abh,abi]
 constructor
 . exact fun h=>h.2
 intro h
 refine⟨?_,h⟩
 apply acp
 intro q
 rw[fx (Ki n) (by lia)]at h
 cases h
noncomputable def hasAll(a w:Nat):Bool:=decide (a&&&w=w)
theorem jQ{a w:Nat}:hasAll a w=true↔∀i,w.testBit i=true->a.testBit i=true:=by
 unfold hasAll
 rw[decide_eq_true_eq]
 constructor
 . intro h i hi
   rw[<-h,acK]at hi
   simp at hi
   exact hi.1
 intro h
 apply acC
 intro i
 rw[acK]
 cases e:w.testBit i with
 |false=>simp
 |true=>simp[h i e]
theorem iG{n s t:Nat}(hs:s<2^n):inside n s t=hasAll t s:=by
 have:inside n s t=true↔hasAll t s=true:=by
  rw[jQ]
  unfold inside has
  rw[ab9]
  constructor
  . intro h i hi
    by_cases c:i<n
    . have:=h i (abi.mpr c)
      rw[hi]at this
      simpa using this
    rw[fx hs (by lia)]at hi
    cases hi
  intro h i _
  cases e:s.testBit i with
  |false=>rfl
  |true=>simp[h i e]
 cases e:inside n s t<;>cases e2:hasAll t s<;>simp_all
theorem pd{n k:Nat}(h:∀i,n.testBit i=true->i<k):n<2^k:=by
 apply Nat.lt_pow_two_of_testBit
 intro i hi
 cases e:n.testBit i with
 |false=>rfl
 |true=>
  have:=h i e
  lia
inductive Ml(m:Map)(s:Nat)(z:Nat):Nat->Prop
 |here:Ml m s z z
 |on {i j:Nat}:Ml m s z i->s.testBit j=true->j<m.zones->m.beside i j=true->Ml m s z j
noncomputable def Bp(m:Map)(s r:Nat):Nat:=bitsOf ((List.range m.zones).filter fun j=>has s j&&(has r j||(List.range m.zones).any fun i=>has r i&&m.beside i j))
theorem so{m:Map}{s r j:Nat}:(Bp m s r).testBit j=true↔j<m.zones/\s.testBit j=true/\(r.testBit j=true\/∃i,i<m.zones/\r.testBit i=true/\m.beside i j=true):=by
 have:=yU (l:=(List.range m.zones).filter fun j=>has s j&&(has r j||(List.range m.zones).any fun i=>has r i&&m.beside i j)) (i:=j)
 unfold has at this
 unfold Bp has
 rw[this]
 simp[abh,List.any_eq_true,and_assoc]
def ek(m:Map)(s:Nat):Nat->Nat->Nat
 |0,r=>r
 |k+1,r=>ek m s k (Bp m s r)
theorem DQ{m:Map}{s:Nat}:∀{k r:Nat},m.reach s k r=ek m s k r
 |0,r=>rfl
 |k+1,r=>DQ (k:=k) (r:=Bp m s r)
theorem kD{m:Map}{s:Nat}:∀{k r:Nat},ek m s (k+1) r=Bp m s (ek m s k r)
 |0,r=>rfl
 |k+1,r=>kD (k:=k) (r:=Bp m s r)
theorem tK{m:Map}{s z:Nat}:∀{k j:Nat},(ek m s k (2^z)).testBit j=true->Ml m s z j
 |0,j,h=>by
  unfold ek at h
  rw[acE]at h
  simp at h
  subst h
  exact .here
 |k+1,j,h=>by
  rw[kD,so]at h
  obtain⟨h1,h2,h3|⟨i,hi,h3,h4⟩⟩:=h
  . exact tK h3
  exact .on (tK h3) h2 h1 h4
theorem tL{m:Map}{s z:Nat}(hz:s.testBit z=true)(DR:z<m.zones):∀{k j:Nat},(ek m s k (2^z)).testBit j=true->j<m.zones/\s.testBit j=true
 |0,j,h=>by
  unfold ek at h
  rw[acE]at h
  simp at h
  subst h
  exact⟨DR,hz⟩
 |k+1,j,h=>by
  rw[kD,so]at h
  exact⟨h.1,h.2.1⟩
theorem qX{m:Map}{s z:Nat}(hz:s.testBit z=true)(DR:z<m.zones){k j:Nat}(h:(ek m s k (2^z)).testBit j=true):(ek m s (k+1) (2^z)).testBit j=true:=by
 rw[kD,so]
 have:=tL hz DR h
 exact⟨this.1,this.2, .inl h⟩
theorem DS{p q:Nat->Bool}:∀{l:List Nat},(∀a∈l,p a=true->q a=true)->(∃a∈l,q a=true/\p a=false)->l.countP p<l.countP q
 |[],_,h=>by simp at h
 |a::l,h,hh=>by
  obtain⟨b,hb,hq,hp⟩:=hh
  have hle:l.countP p<=l.countP q:=List.countP_mono_left (fun x hx=>h x (by simp[hx]))
  rw[aco,aco]
  rcases abo.mp hb with rfl|hb
  . rw[hq,hp]
    simp
    lia
  have ih:=DS (l:=l) (fun x hx=>h x (by simp[hx])) ⟨b,hb,hq,hp⟩
  have:=h a (by simp)
  cases sH:p a with
  |false=>
   simp
   split<;>lia
  |true=>
   rw[this sH]
   simp
   lia
theorem Fv{m:Map}{s z:Nat}(hz:s.testBit z=true)(DR:z<m.zones):∃k,k<m.zones/\∀j,(ek m s (k+1) (2^z)).testBit j=true->(ek m s k (2^z)).testBit j=true:=by
 apply acp
 intro no
 have hg:∀k,k<m.zones->(List.range m.zones).countP (fun j=>(ek m s k (2^z)).testBit j)<(List.range m.zones).countP (fun j=>(ek m s (k+1) (2^z)).testBit j):=by
  intro k hk
  apply DS
  . exact fun j _ h=>qX hz DR h
  apply acp
  intro VT
  apply no
  refine⟨k,hk,fun j h=> ?_⟩
  apply acp
  intro q
  exact VT ⟨j,abi.mpr (tL hz DR h).1,h,by simpa using q⟩
 have h0:1<=(List.range m.zones).countP (fun j=>(ek m s 0 (2^z)).testBit j):=by
  apply List.countP_pos_iff.mpr
  exact⟨z,abi.mpr DR,by unfold ek;rw[acE];simp⟩
 have QE:∀k,k<=m.zones->k+1<=(List.range m.zones).countP (fun j=>(ek m s k (2^z)).testBit j):=by
  intro k
  induction k with
  |zero=>intro _;exact h0
  |succ k ih=>
   intro h
   have h1:=ih (by lia)
   have h2:=hg k (by lia)
   lia
 have h1:=QE _ (abB _)
 have h2:=acq (p:=fun j=>(ek m s m.zones (2^z)).testBit j) (l:=List.range m.zones)
 rw[acL]at h2
 lia
theorem Iy{m:Map}{s z:Nat}(hz:s.testBit z=true)(DR:z<m.zones){j:Nat}(h:Ml m s z j):(ek m s m.zones (2^z)).testBit j=true:=by
 obtain⟨k,hk,hr⟩:=Fv hz DR
 have GQ:∀j,Ml m s z j->(ek m s k (2^z)).testBit j=true:=by
  intro j h
  induction h with
  |here=>
   have:∀k,(ek m s k (2^z)).testBit z=true:=by
    intro k
    induction k with
    |zero=>unfold ek;rw[acE];simp
    |succ k ih=>exact qX hz DR ih
   exact this k
  |on hc h1 h2 h3 ih=>
   apply hr
   rw[kD,so]
   exact⟨h2,h1, .inr ⟨_,(tL hz DR ih).1,ih,h3⟩⟩
 have Zl:∀d,(ek m s (k+d) (2^z)).testBit j=true:=by
  intro d
  induction d with
  |zero=>exact GQ j h
  |succ d ih=>exact qX hz DR ih
 have:=Zl (m.zones-k)
 rwa[show k+(m.zones-k)=m.zones by lia]at this
theorem Iz{m:Map}{s z:Nat}{rest:List Nat}(hs:s<2^m.zones)(hm:mem s=z::rest):m.whole s=true↔∀j,s.testBit j=true->Ml m s z j:=by
 have hz:s.testBit z=true:=mem_iff.mp (by rw[hm];simp)
 have DR:z<m.zones:=by
  apply acp
  intro q
  rw[fx hs (by lia)]at hz
  cases hz
 unfold Map.whole
 rw[<-eT hs,hm]
 dsimp only
 rw[iG hs,jQ,DQ]
 exact⟨fun h j hj=>tK (h j hj),fun h j hj=>Iy hz DR (h j hj)⟩
structure Seen(m:Map)(s z:Nat)(stack:List Nat)(seen:Nat):Prop where
 con:∀j,seen.testBit j=true->Ml m s z j/\s.testBit j=true
 first:seen.testBit z=true
 LD:∀j∈stack,seen.testBit j=true
 cls:∀i j,seen.testBit i=true->i∈stack\/(s.testBit j=true->m.beside i j=true->seen.testBit j=true)
theorem Seen.start {m:Map} {s z:Nat} (hz:s.testBit z=true):Seen m s z [z] (2^z):=by
 refine⟨fun j h=> ?_, ?_,fun j h=> ?_,fun i j h=> ?_⟩
 . rw[acE]at h
   simp at h
   subst h
   exact⟨.here,hz⟩
 . rw[acE];simp
 . simp at h
   subst h
   rw[acE];simp
 rw[acE]at h
 simp at h
 subst h
 exact .inl (by simp)
theorem Seen.turn {m:Map} {s z i b f:Nat} {stack:List Nat} {seen:Nat} (hs:s<2^m.zones) (S:Seen m s z (stack++[i]) seen) (hf:∀j,f.testBit j=true↔(m.beside i j=true/\s.testBit j=true/\seen.testBit j=false)):Seen m s z (stack++mem f) (seen|||f):=by
 have hi:=S.LD i (by simp)
 refine⟨fun j h=> ?_, ?_,fun j h=> ?_,fun a j h=> ?_⟩
 . rw[acD,aca]at h
   rcases h with h|h
   . exact S.con j h
   have:=(hf j).mp h
   refine⟨.on (S.con i hi).1 this.2.1 ?_ this.1,this.2.1⟩
   apply acp
   intro q
   have e:=this.2.1
   rw[fx hs (by lia)]at e
   cases e
 . rw[acD,S.first];rfl
 . rw[acD,aca]
   rcases abq.mp h with h|h
   . exact .inl (S.LD j (by simp[h]))
   exact .inr (mem_iff.mp h)
 rw[acD,aca]at h
 rcases h with h|h
 . rcases S.cls a j h with h1|h1
   . rcases abq.mp h1 with h1|h1
     . exact .inl (by simp[h1])
     simp at h1
     subst h1
     right
     intro h2 h3
     rw[acD,aca]
     cases e:seen.testBit j with
     |true=>exact .inl rfl
     |false=>exact .inr ((hf j).mpr ⟨h3,h2,e⟩)
   right
   intro h2 h3
   rw[acD,h1 h2 h3]
   rfl
 exact .inl (by simp[mem_iff.mpr h])
theorem Seen.done {m:Map} {s z seen:Nat} {rest:List Nat} (hs:s<2^m.zones) (hm:mem s=z::rest) (S:Seen m s z [] seen):decide (seen=s)=m.whole s:=by
 have key:(seen=s)↔m.whole s=true:=by
  rw[Iz hs hm]
  constructor
  . intro e j hj
    exact(S.con j (by rw[e];exact hj)).1
  intro h
  have hc:∀j,Ml m s z j->seen.testBit j=true:=by
   intro j hj
   induction hj with
   |here=>exact S.first
   |on hc h1 h2 h3 ih=>
    rcases S.cls _ _ ih with q|q
    . simp at q
    exact q h1 h3
  apply acC
  intro j
  cases e:s.testBit j with
  |true=>exact hc j (h j e)
  |false=>
   cases e2:seen.testBit j with
   |false=>rfl
   |true=>
    rw[(S.con j e2).2]at e
    cases e
 cases e:m.whole s with
 |true=>exact decide_eq_true (key.mpr e)
 |false=>
  apply decide_eq_false
  intro q
  rw[key.mp q]at e
  cases e
theorem Cf{n seen f:Nat}(hd:∀j,f.testBit j=true->seen.testBit j=false)(hf:f<2^n):(List.range n).countP (fun j=> !(seen|||f).testBit j)+(mem f).length=(List.range n).countP (fun j=> !seen.testBit j):=by
 rw[eT hf]
 unfold members has
 rw[<-List.countP_eq_length_filter]
 have:∀l:List Nat,l.countP (fun j=> !(seen|||f).testBit j)+l.countP (fun i=>f.testBit i)=l.countP (fun j=> !seen.testBit j):=by
  intro l
  induction l with
  |nil=>rfl
  |cons a l ih=>
   rw[aco,aco,aco,acD]
   have:=hd a
   cases e1:f.testBit a<;>cases e2:seen.testBit a<;>simp_all<;>lia
 exact this _
end Td
namespace Td
open Sw76
def l8(z:Nat):List Nat->Option Nat
 |[]=>none
 |t::l=>if hasAll t z=true then some (mem t).length else l8 z l
theorem wK{z:Nat}:∀{l:List Nat},l8 z l=(l.find? fun t=>hasAll t z).map fun t=>(mem t).length
 |[]=>rfl
 |t::l=>by
  rw[l8,List.find?_cons]
  cases e:hasAll t z with
  |true=>rfl
  |false=>simpa using wK
theorem pf{p:Nat->Bool}{c:Nat->Nat}:∀{l:List Nat}{t:Nat},l.Pairwise (fun a b=>c a<=c b)->l.find? p=some t->p t=true/\t∈l/\∀u∈l,p u=true->c t<=c u
 |[],t,_,h=>by cases h
 |a::l,t,hp,h=>by
  rw[List.find?_cons]at h
  rw[acM]at hp
  cases e:p a with
  |true=>
   rw[e]at h
   cases h
   refine⟨e,by simp,fun u hu _=> ?_⟩
   rcases abo.mp hu with rfl|hu
   . exact abB _
   exact hp.1 u hu
  |false=>
   rw[e]at h
   obtain⟨h1,h2,h3⟩:=pf hp.2 h
   refine⟨h1,by simp[h2],fun u hu VU=> ?_⟩
   rcases abo.mp hu with rfl|hu
   . rw[e]at VU
     cases VU
   exact h3 u hu VU
theorem uC{m:Map}{t:Nat}:t∈m.sets↔t<2^m.zones:=by
 unfold Map.sets
 simp only[ack,abh,abi]
 constructor
 . rintro⟨k,_,h,_⟩
   exact h
 intro h
 refine⟨size m.zones t, ?_,h,by simp⟩
 have:(members m.zones t).length<=(List.range m.zones).length:=acN _ _
 rw[acL]at this
 show(members m.zones t).length<_
 lia
theorem sI{f:Nat->List Nat}{c:Nat->Nat}(hc:∀k,∀t∈f k,c t=k):∀{l:List Nat},l.Pairwise (· < ·)->(l.flatMap f).Pairwise (fun a b=>c a<=c b)
 |[],_=>by simp
 |k::l,h=>by
  rw[acM]at h
  rw[acj,List.pairwise_append]
  refine⟨?_,sI hc h.2,fun a ha b hb=> ?_⟩
  . have:∀t∈f k,∀u∈f k,c t<=c u:=fun t ht u hu=>by rw[hc k t ht,hc k u hu];exact abB _
    exact List.Pairwise.imp_of_mem (fun{a b}ha hb _=>this a ha b hb) (List.pairwise_of_forall (fun _ _=>trivial):(f k).Pairwise (fun _ _=>True))
  obtain⟨k',Ou,hb⟩:=ack.mp hb
  rw[hc k a ha,hc k' b hb]
  have:=h.1 k' Ou
  lia
theorem Bq{m:Map}:m.sets.Pairwise (fun a b=>size m.zones a<=size m.zones b):=by
 unfold Map.sets
 refine sI (c:=size m.zones) ?_ List.pairwise_lt_range
 intro k t ht
 simpa using(abh.mp ht).2
theorem Mm{m:Map}{z:Nat}{joined:List Nat}(hz:z<2^m.zones)(Ul:z≠0)(hj:∀t,t∈joined↔t≠0/\t<2^m.zones/\m.whole t=true)(hs:joined.Pairwise (fun a b=>(mem a).length<=(mem b).length)):l8 z joined=(m.hull z).map fun t=>size m.zones t:=by
 rw[wK]
 unfold Map.hull
 have sz:∀t,t<2^m.zones->size m.zones t=(mem t).length:=fun t ht=>by unfold size;rw[eT ht]
 cases e1:joined.find? (fun t=>hasAll t z)with
 |none=>
  cases e2:m.sets.find? (fun t=>inside m.zones z t&&m.whole t)with
  |none=>rfl
  |some u=>
   exfalso
   obtain⟨h1,h2,_⟩:=pf Bq e2
   rw[ab6,iG hz]at h1
   have VV:u≠0:=by
    intro q
    subst q
    apply Ul
    apply acC
    intro i
    cases e:z.testBit i with
    |false=>simp
    |true=>exact(jQ.mp h1.1 i e).symm
   have:=List.find?_eq_none.mp e1 u ((hj u).mpr ⟨VV,uC.mp h2,h1.2⟩)
   exact this h1.1
 |some t=>
  obtain⟨h1,h2,h3⟩:=pf hs e1
  have ht:=(hj t).mp h2
  cases e2:m.sets.find? (fun t=>inside m.zones z t&&m.whole t)with
  |none=>
   exfalso
   have:=List.find?_eq_none.mp e2 t (uC.mpr ht.2.1)
   apply this
   rw[ab6,iG hz]
   exact⟨h1,ht.2.2⟩
  |some u=>
   obtain⟨g1,g2,g3⟩:=pf Bq e2
   rw[ab6,iG hz]at g1
   have hu:=uC.mp g2
   have VV:u≠0:=by
    intro q
    subst q
    apply Ul
    apply acC
    intro i
    cases e:z.testBit i with
    |false=>simp
    |true=>exact(jQ.mp g1.1 i e).symm
   have a1:=h3 u ((hj u).mpr ⟨VV,hu,g1.2⟩) g1.1
   have a2:=g3 t (uC.mpr ht.2.1) (by rw[ab6,iG hz];exact⟨h1,ht.2.2⟩)
   rw[sz u hu,sz t ht.2.1]at a2
   show some (mem t).length=some (size m.zones u)
   rw[sz u hu]
   congr 1
   lia
structure R3 where
 gs:Int
 co:Int
 zs:Nat
noncomputable def mM(r:R3):Journey:=⟨0,r.gs.toNat,(r.co-r.gs).toNat,r.zs⟩
structure Al(n:Nat)(r:R3):Prop where
 g0:0<=r.gs
 le:r.gs<=r.co
 zn:r.zs<2^n
 z0:r.zs≠0
noncomputable def minOf:List Int->Int
 |[]=>0
 |[a]=>a
 |a::l=>min a (minOf l)
noncomputable def maxOf:List Int->Int
 |[]=>0
 |[a]=>a
 |a::l=>max a (maxOf l)
noncomputable def Am(l:List R3):Nat:=l.foldl (fun m r=>m|||r.zs) 0
theorem Mn{a b:Nat}:((min a b:Nat):Int)=min (a:Int) b:=by
 rcases Nat.le_total a b with h|h
 . rw[adi h,Int.min_eq_left (Int.ofNat_le.mpr h)]
 rw[Nat.min_eq_right h,Int.min_eq_right (Int.ofNat_le.mpr h)]
theorem Mo{a b:Nat}:((max a b:Nat):Int)=max (a:Int) b:=by
 rcases Nat.le_total a b with h|h
 . rw[Nat.max_eq_right h,Int.max_eq_right (Int.ofNat_le.mpr h)]
 rw[Nat.max_eq_left h,Int.max_eq_left (Int.ofNat_le.mpr h)]
theorem DT{a b:Int}(h:0<=a/\a<=b):((a.toNat+(b-a).toNat:Nat):Int)=b:=by
 rw[Int.natCast_add,Int.toNat_of_nonneg h.1,Int.toNat_of_nonneg (Int.sub_nonneg_of_le h.2),Int.add_comm,Int.sub_add_cancel]
theorem Br:∀{l:List R3},(∀r∈l,0<=r.gs)->((least (l.map fun r=>(mM r).start):Nat):Int)=minOf (l.map fun r=>r.gs)/\(l≠[]->0<=minOf (l.map fun r=>r.gs))
 |[],_=>⟨rfl,fun h=>(h rfl).elim⟩
 |[r],h=>by
  have:=h r (by simp)
  refine⟨?_,fun _=>this⟩
  exact Int.toNat_of_nonneg this
 |r::r2::l,h=>by
  have h1:=h r (by simp)
  have ih:=Br (l:=r2::l) (fun q hq=>h q (by simp[hq]))
  have i2:=ih.2 (by simp)
  refine⟨?_,fun _=> ?_⟩
  . show((min r.gs.toNat (least ((r2::l).map fun r=>(mM r).start)):Nat):Int)=min r.gs (minOf ((r2::l).map fun r=>r.gs))
    rw[<-ih.1,Mn,Int.toNat_of_nonneg h1]
  exact Int.le_min.mpr ⟨h1,i2⟩
theorem yV:∀{l:List Nat}{a:Nat},l.foldl max a=max a (most l)
 |[],a=>by simp[most]
 |b::l,a=>by
  show l.foldl max (max a b)=max a (l.foldl max (max 0 b))
  rw[yV,yV (a:=max 0 b),Nat.zero_max,Nat.max_assoc]
theorem IA{b:Nat}{l:List Nat}:most (b::l)=max b (most l):=by
 show l.foldl max (max 0 b)=_
 rw[yV,Nat.zero_max]
theorem DU:∀{l:List R3},l≠[]->(∀r∈l,0<=r.gs/\r.gs<=r.co)->((most (l.map fun r=>(mM r).start+(mM r).long):Nat):Int)=maxOf (l.map fun r=>r.co)
 |[],h,_=>(h rfl).elim
 |[r],_,h=>by
  have:=h r (by simp)
  show(((max 0 (r.gs.toNat+(r.co-r.gs).toNat)):Nat):Int)=r.co
  rw[Nat.zero_max,DT this]
 |r::r2::l,_,h=>by
  have h1:=h r (by simp)
  have ih:=DU (l:=r2::l) (by simp) (fun q hq=>h q (by simp[hq]))
  show((most ((r.gs.toNat+(r.co-r.gs).toNat)::((r2::l).map fun r=>(mM r).start+(mM r).long)):Nat):Int)=max r.co (maxOf ((r2::l).map fun r=>r.co))
  rw[<-ih,IA,Mo,DT h1]
theorem ye:∀{l:List R3}{m i:Nat},(l.foldl (fun m r=>m|||r.zs) m).testBit i=(m.testBit i||l.any fun r=>r.zs.testBit i)
 |[],m,i=>by simp
 |r::l,m,i=>by
  rw[acb,ye (l:=l),acD,List.any_cons,Bool.or_assoc]
theorem IB{n:Nat}{l:List R3}(h:∀r∈l,r.zs<2^n):union n (l.map fun r=>(mM r).zones)=Am l:=by
 apply acC
 intro i
 have:=yU (l:=(List.range n).filter fun i=>(l.map fun r=>(mM r).zones).any fun s=>has s i) (i:=i)
 unfold has at this
 unfold union Am has
 rw[this,ye]
 simp only[abh,abi,List.any_map,Nat.zero_testBit,Bool.false_or]
 by_cases c:i<n
 . simp only[c,true_and]
   cases e:l.any fun r=>r.zs.testBit i with
   |true=>exact decide_eq_true e
   |false=>
    apply decide_eq_false
    intro q
    have q:l.any (fun r=>r.zs.testBit i)=true:=q
    rw[e]at q
    cases q
 simp only[c,false_and,decide_false]
 symm
 rw[List.any_eq_false]
 intro r hr
 rw[fx (h r hr) (by lia)]
 simp
theorem Kj{n:Nat}{l:List R3}(h:∀r∈l,r.zs<2^n):Am l<2^n:=by
 apply pd
 intro i hi
 unfold Am at hi
 rw[ye]at hi
 simp only[Nat.zero_testBit,Bool.false_or,List.any_eq_true]at hi
 obtain⟨r,hr,hi⟩:=hi
 apply acp
 intro q
 rw[fx (h r hr) (by lia)]at hi
 cases hi
theorem OI{l:List R3}(h0:l≠[])(h:∀r∈l,r.zs≠0):Am l≠0:=by
 cases l with
 |nil=>exact(h0 rfl).elim
 |cons r l=>
  intro q
  apply h r (by simp)
  apply acC
  intro i
  have:(Am (r::l)).testBit i=false:=by rw[q];simp
  unfold Am at this
  rw[ye]at this
  simp at this⊢
  exact this.1
def qY(p:Product)(gs co:Int)(zs:Nat)(hull:Option Nat):Bool:=
 if gs+(p.long:Int)<co\/gs%1440<(p.low:Int)\/(p.high:Int)<=gs%1440 then false else
  match p.area with
  | .any n=>hull.any fun h=>decide (h<=n)
  | .these s=>hasAll s zs
def yf(rides:List R3)(g:Nat):List R3:=(mem g).filterMap fun i=>rides[i]?
theorem yW{α β:Type}{f g:α->Option β}:∀{l:List α},(∀a∈l,f a=g a)->l.filterMap f=l.filterMap g
 |[],_=>rfl
 |a::l,h=>by
  rw[abl,abl,h a (by simp),yW (fun b hb=>h b (by simp[hb]))]
theorem of_eq:∀{rides:List R3}{g k:Nat},((rides.zipIdx k).filterMap fun x=>if has g x.2=true then some x.1 else none)=((List.range' k rides.length).filter fun i=>g.testBit i).filterMap fun i=>rides[i-k]?
 |[],g,k=>by simp
 |r::rides,g,k=>by
  have ih:=of_eq (rides:=rides) (g:=g) (k:=k+1)
  have e:(((List.range' (k+1) rides.length).filter fun i=>g.testBit i).filterMap fun i=>(r::rides)[i-k]?)=((List.range' (k+1) rides.length).filter fun i=>g.testBit i).filterMap fun i=>rides[i-(k+1)]?:=by
   apply yW
   intro i hi
   have:=(acO.mp (abh.mp hi).1).1
   rw[show i-k=(i-(k+1))+1 by lia]
   rfl
  rw[List.zipIdx_cons,abl,abG,List.range'_succ,acP]
  unfold has at*
  dsimp only
  by_cases c:g.testBit k=true
  . rw[if_pos c,if_pos c,abl,e,<-ih,show k-k=0 by lia]
    rfl
  rw[if_neg c,if_neg c,e,<-ih]
theorem OJ{d:Desk}{rides:List R3}{g:Nat}(hd:d.journeys=rides.map mM)(hg:g<2^rides.length):d.of_ g=(yf rides g).map mM:=by
 unfold Desk.of_ yf
 rw[hd]
 have e1:((rides.map mM).zipIdx.filterMap fun x=>if has g x.2=true then some x.1 else none)=(rides.zipIdx.filterMap fun x=>if has g x.2=true then some x.1 else none).map mM:=by
  rw[List.zipIdx_map,List.filterMap_map,List.map_filterMap]
  apply yW
  intro x _
  simp only[Function.comp,Prod.map]
  split<;>simp_all
 rw[e1,of_eq,eT hg]
 unfold members has
 rw[acQ]
 simp
theorem Mp{d:Desk}{rides:List R3}{g:Nat}{joined:List Nat}{p:Product}(hd:d.journeys=rides.map mM)(hg:g<2^rides.length)(OK:g≠0)(ok:∀r∈rides,Al d.map.zones r)(hj:∀t,t∈joined↔t≠0/\t<2^d.map.zones/\d.map.whole t=true)(hs:joined.Pairwise (fun a b=>(mem a).length<=(mem b).length))(hp:1<=p.persons):
 d.good p g=qY p (minOf ((yf rides g).map fun r=>r.gs)) (maxOf ((yf rides g).map fun r=>r.co)) (Am (yf rides g)) (l8 (Am (yf rides g)) joined):=by
 have dD:∀r∈yf rides g,Al d.map.zones r:=fun r hr=>by
  obtain⟨i,_,e⟩:=abj.mp hr
  exact ok r (abW e)
 have ir:yf rides g≠[]:=by
  intro q
  apply OK
  apply acC
  intro i
  cases e:g.testBit i with
  |false=>simp
  |true=>
   exfalso
   have hi:i<rides.length:=by
    apply acp
    intro q
    rw[fx hg (by lia)]at e
    cases e
   have:rides[i]∈yf rides g:=abj.mpr ⟨i,mem_iff.mpr e,acf hi⟩
   rw[q]at this
   cases this
 have e1:=Br (l:=yf rides g) (fun r hr=>(dD r hr).g0)
 have e2:=DU ir (fun r hr=>⟨(dD r hr).g0,(dD r hr).le⟩)
 have e3:=IB (n:=d.map.zones) (l:=yf rides g) (fun r hr=>(dD r hr).zn)
 have e4:=Mm (m:=d.map) (z:=Am (yf rides g)) (joined:=joined) (Kj fun r hr=>(dD r hr).zn) (OI ir fun r hr=>(dD r hr).z0) hj hs
 have e5:(((yf rides g).map fun r=>(mM r).person).eraseDups.length<=p.persons)=True:=by
  have:∀l:List R3,l≠[]->(l.map fun r=>(mM r).person).eraseDups=[0]:=by
   intro l hl
   have:(l.map fun r=>(mM r).person)=List.replicate l.length 0:=by
    apply List.eq_replicate_iff.mpr
    refine⟨by simp, ?_⟩
    intro b hb
    obtain⟨r,_,rfl⟩:=ab8.mp hb
    rfl
   rw[this]
   cases l with
   |nil=>exact(hl rfl).elim
   |cons r l=>
    rw[abG,List.replicate_succ,List.eraseDups_cons]
    have:(List.replicate l.length 0).filter (fun b=> !b==0)=[]:=by
     rw[List.filter_eq_nil_iff]
     intro b hb
     rw[(List.mem_replicate.mp hb).2]
     simp
    rw[this]
    rfl
  rw[this _ ir]
  simp
  exact hp
 unfold Desk.good
 dsimp only
 rw[OJ hd hg,acm,acm,acm,acm]
 have c1:((fun j=>j.start)∘mM)=fun r=>(mM r).start:=rfl
 have c2:((fun j=>j.zones)∘mM)=fun r=>(mM r).zones:=rfl
 have c3:((fun j=>j.person)∘mM)=fun r=>(mM r).person:=rfl
 have c4:((fun j=>j.start+j.long)∘mM)=fun r=>(mM r).start+(mM r).long:=rfl
 rw[c1,c2,c3,c4,e3]
 have VW:((yf rides g).map mM).isEmpty=false:=by
  cases h:yf rides g with
  |nil=>exact(ir h).elim
  |cons _ _=>rfl
 rw[VW]
 simp only[e5,decide_true,Bool.not_false,acR]
 unfold qY
 rw[<-e1.1,<-e2,e4]
 have hn:∀h:Option Nat,(match d.map.hull (Am (yf rides g))with|some t=>decide (size d.map.zones t<=0)|none=>false)=(match d.map.hull (Am (yf rides g))with|some t=>decide (size d.map.zones t<=0)|none=>false):=fun _=>rfl
 generalize most ((yf rides g).map fun r=>(mM r).start+(mM r).long)=M
 generalize least ((yf rides g).map fun r=>(mM r).start)=L
 have a1:decide (M<=L+p.long)= !decide ((L:Int)+(p.long:Int)<(M:Int)):=by
  by_cases c:M<=L+p.long
  . rw[decide_eq_true c,decide_eq_false (by lia)];rfl
  rw[decide_eq_false c,decide_eq_true (by lia)];rfl
 have a2:decide (p.low<=L%DAY)= !decide ((L:Int)%1440<(p.low:Int)):=by
  unfold DAY
  by_cases c:p.low<=L%1440
  . rw[decide_eq_true c,decide_eq_false (by lia)];rfl
  rw[decide_eq_false c,decide_eq_true (by lia)];rfl
 have a3:decide (L%DAY<p.high)= !decide ((p.high:Int)<=(L:Int)%1440):=by
  unfold DAY
  by_cases c:L%1440<p.high
  . rw[decide_eq_true c,decide_eq_false (by lia)];rfl
  rw[decide_eq_false c,decide_eq_true (by lia)];rfl
 rw[a1,a2,a3]
 by_cases b1:(L:Int)+(p.long:Int)<(M:Int)
 . rw[if_pos (.inl b1),decide_eq_true b1]
   rfl
 by_cases b2:(L:Int)%1440<(p.low:Int)
 . rw[if_pos (.inr (.inl b2)),decide_eq_true b2]
   simp
 by_cases b3:(p.high:Int)<=(L:Int)%1440
 . rw[if_pos (.inr (.inr b3)),decide_eq_true b3]
   simp
 rw[if_neg (by lia),decide_eq_false b1,decide_eq_false b2,decide_eq_false b3]
 simp only[Bool.not_false,acR]
 cases p.area with
 |any n=>
  dsimp only
  cases d.map.hull (Am (yf rides g))<;>rfl
 |these s=>
  dsimp only
  exact iG (Kj fun r hr=>(dD r hr).zn)
end Td
namespace Td
open Sw76
theorem dB(a:Option Best):cheaper a none=a:=by cases a<;>rfl
theorem dC(a:Option Best):cheaper none a=a:=by cases a<;>rfl
theorem bt(x y:Best):cheaper (some x) (some y)=if y.price<x.price then some y else if x.price<y.price then some x else some ⟨x.price,x.many+y.many,x.tickets⟩:=rfl
theorem An(a b c:Option Best):cheaper (cheaper a b) c=cheaper a (cheaper b c):=by
 cases a with
 |none=>rw[dC,dC]
 |some x=>
  cases b with
  |none=>rw[dB,dC]
  |some y=>
   cases c with
   |none=>rw[dB,dB]
   |some z=>
    rw[bt x y,bt y z]
    by_cases h1:y.price<x.price
    . rw[if_pos h1,bt]
      by_cases h2:z.price<y.price
      . rw[if_pos h2,bt,if_pos (show z.price<x.price by lia)]
      rw[if_neg h2]
      by_cases h3:y.price<z.price
      . rw[if_pos h3,bt,if_pos h1]
      rw[if_neg h3,bt,if_pos h1]
    rw[if_neg h1]
    by_cases h2:x.price<y.price
    . rw[if_pos h2,bt]
      by_cases h3:z.price<y.price
      . rw[if_pos h3,bt]
      rw[if_neg h3]
      by_cases h4:y.price<z.price
      . rw[if_pos h4,if_neg (by lia),if_pos (by lia),bt,if_neg (by lia),if_pos h2]
      rw[if_neg h4,if_neg (by lia),if_pos (by lia),bt]
      dsimp only
      rw[if_neg (by lia),if_pos h2]
    rw[if_neg h2,bt]
    dsimp only
    by_cases h3:z.price<x.price
    . rw[if_pos h3,if_pos (by lia),bt,if_pos h3]
    rw[if_neg h3]
    by_cases h4:x.price<z.price
    . rw[if_pos h4,if_neg (by lia),if_pos (by lia),bt,if_neg h1,if_neg h2]
    rw[if_neg h4,if_neg (by lia),if_neg (by lia),bt]
    dsimp only
    rw[if_neg h1,if_neg h2,Nat.add_assoc]
theorem ph:∀{l:List (Option Best)}{a:Option Best},l.foldl cheaper a=cheaper a (l.foldl cheaper none)
 |[],a=>(dB a).symm
 |b::l,a=>by
  rw[acb,acb,ph (a:=cheaper a b),ph (a:=cheaper none b),dC,An]
structure Off3 where
 price:Nat
 yX:Nat
 product:Nat
noncomputable def eu(good:Product->Bool)(o:Option Off3)(x:Product×Nat):Option Off3:=
 if good x.1=false then o else match o with
  |none=>some ⟨x.1.price,1,x.2⟩
  |some y=>if x.1.price<y.price then some ⟨x.1.price,1,x.2⟩else if x.1.price=y.price then some ⟨y.price,y.yX+1,y.product⟩else o
def gq(good:Product->Bool)(ps:List Product):Option Off3:=ps.zipIdx.foldl (eu good) none
noncomputable def Cg(g:Nat)(b:Best)(o:Off3):Best:=⟨o.price+b.price,o.yX*b.many,⟨o.product,g⟩::b.tickets⟩
theorem Bs{good:Product->Bool}{g:Nat}{b:Best}:∀{ps:List (Product×Nat)}{o:Option Off3},(ps.foldl (eu good) o).map (Cg g b)=((ps.filter fun x=>good x.1).map fun x=>some (⟨x.1.price+b.price,b.many,⟨x.2,g⟩::b.tickets⟩:Best)).foldl cheaper (o.map (Cg g b))
 |[],o=>rfl
 |x::ps,o=>by
  rw[acb,Bs (ps:=ps),acP]
  by_cases c:good x.1=true
  . rw[if_pos c,abH,acb]
    congr 1
    unfold eu
    rw[if_neg (by rw[c];simp)]
    cases o with
    |none=>
     show some (Cg g b ⟨x.1.price,1,x.2⟩)=cheaper none _
     rw[dC]
     unfold Cg
     simp
    |some y=>
     dsimp only
     rw[Option.map_some,bt]
     unfold Cg
     dsimp only
     by_cases h1:x.1.price<y.price
     . rw[if_pos h1,if_pos (show x.1.price+b.price<y.price+b.price by lia)]
       simp
     rw[if_neg h1,if_neg (show¬x.1.price+b.price<y.price+b.price by lia)]
     by_cases h2:x.1.price=y.price
     . rw[if_pos h2,if_neg (show¬y.price+b.price<x.1.price+b.price by lia)]
       simp[Nat.add_mul]
     rw[if_neg h2,if_pos (show y.price+b.price<x.1.price+b.price by lia)]
     simp
  rw[if_neg c]
  congr 1
  unfold eu
  rw[if_pos (by simpa using c)]
noncomputable def yg(d:Desk)(g:Nat):List Nat:=(List.range d.products.length).filter fun p=>(d.products[p]?).any fun x=>d.good x g
theorem Bt{good:Product->Bool}{h:Product->Nat->Option Best}:∀{ps qs:List Product}{k:Nat},k=qs.length->(((List.range' k ps.length).filter fun p=>((qs++ps)[p]?).any good).map fun p=>(((qs++ps)[p]?).map fun x=>h x p).getD none)=(((ps.zipIdx k).filter fun x=>good x.1).map fun x=>h x.1 x.2)
 |[],qs,k,_=>by simp
 |x::ps,qs,k,hk=>by
  have ih:=Bt (good:=good) (h:=h) (ps:=ps) (qs:=qs++[x]) (k:=k+1) (by simp[hk])
  have ex:(qs++x::ps)[k]?=some x:=by rw[hk];simp
  rw[List.append_assoc,List.singleton_append]at ih
  rw[abG,List.range'_succ,acP,List.zipIdx_cons,acP,ex,acg]
  dsimp only
  by_cases c:good x=true
  . rw[if_pos c,if_pos c,abH,abH,ih,ex]
    rfl
  rw[if_neg c,if_neg c,ih]
def pj(d:Desk)(Fw:Nat->Option Best)(n m first:Nat)(best:Option Best)(g:Nat):Option Best:=
 if(g.testBit first&&hasAll m g)=false then best else match gq (fun p=>d.good p g) d.products,Fw (m-g)with
  |some o,some b=>cheaper best (some (Cg g b o))
  |_,_=>best
theorem Mq{d:Desk}{Kk:Array (List Nat)}{Fw:Array (Option Best)}{n m first:Nat}{rest:List Nat}(hn:d.journeys.length=n)(hm:m<2^n)(hf:mem m=first::rest)(hg:∀g,g<=m->Kk.getD g []=yg d g):
 d.cell Kk Fw m=(List.range (m+1)).foldl (pj d (fun i=>Fw.getD i none) n m first) none:=by
 have QI:m≠0:=by
  intro q
  subst q
  cases hf
 have Fx:least (members n m)=first:=by
  rw[<-eT hm,hf]
  have hp:(mem m).Pairwise (· < ·):=by
   unfold mem
   exact List.Pairwise.filter _ List.pairwise_lt_range
  rw[hf,acM]at hp
  have:∀(l:List Nat)(a:Nat),(∀b∈l,a<b)->l.Pairwise (· < ·)->least (a::l)=a:=by
   intro l
   induction l with
   |nil=>intro a _ _;rfl
   |cons b l ih=>
    intro a h hp
    rw[acM]at hp
    show min a (least (b::l))=a
    rw[ih b hp.1 hp.2]
    have:=h b (by simp)
    lia
  exact this rest first hp.1 hp.2
 unfold Desk.cell
 rw[if_neg QI]
 dsimp only
 rw[hn,Fx,List.foldl_flatMap]
 have key:∀(l:List Nat)(a:Option Best),(∀g∈l,g<=m)->l.foldl (fun a g=>(if(has g first&&inside n g m)=false then []else(Kk.getD g []).map fun p=>((Fw.getD (m-g) none).map fun b=>(⟨((d.products[p]?).map fun x=>x.price).getD 0+b.price,b.many,⟨p,g⟩::b.tickets⟩:Best))).foldl cheaper a) a=l.foldl (pj d (fun i=>Fw.getD i none) n m first) a:=by
  intro l
  induction l with
  |nil=>intro a _;rfl
  |cons g l ih=>
   intro a hl
   rw[acb,acb,ih _ (fun g hg=>hl g (by simp[hg]))]
   congr 1
   have Zm:=hl g (by simp)
   unfold pj
   rw[iG (show g<2^n by lia)]
   unfold has
   by_cases c:(g.testBit first&&hasAll m g)=false
   . rw[if_pos c,if_pos c]
     rfl
   rw[if_neg c,if_neg c,hg g Zm]
   cases hb:Fw.getD (m-g) none with
   |none=>
    have:∀(l:List Nat)(a:Option Best),(l.map fun p=>(none:Option Best).map fun b=>(⟨((d.products[p]?).map fun x=>x.price).getD 0+b.price,b.many,⟨p,g⟩::b.tickets⟩:Best)).foldl cheaper a=a:=by
     intro l
     induction l with
     |nil=>intro a;rfl
     |cons p l ih=>
      intro a
      rw[abH,acb]
      show List.foldl cheaper (cheaper a none) _=a
      rw[dB]
      exact ih a
    rw[this]
    show a=match gq (fun p=>d.good p g) d.products,Fw.getD (m-g) none with
     |some o,some b=>cheaper a (some (Cg g b o))
     |_,_=>a
    rw[hb]
    cases gq (fun p=>d.good p g) d.products<;>rfl
   |some b=>
    have e1:=Bs (good:=fun p=>d.good p g) (g:=g) (b:=b) (ps:=d.products.zipIdx) (o:=none)
    have e2:=Bt (good:=fun p=>d.good p g) (h:=fun x p=>some (⟨x.price+b.price,b.many,⟨p,g⟩::b.tickets⟩:Best)) (ps:=d.products) (qs:=[]) (k:=0) rfl
    rw[List.nil_append,<-acQ]at e2
    have e3:((yg d g).map fun p=>(some b).map fun b=>(⟨((d.products[p]?).map fun x=>x.price).getD 0+b.price,b.many,⟨p,g⟩::b.tickets⟩:Best))=(((d.products.zipIdx).filter fun x=>d.good x.1 g).map fun x=>some (⟨x.1.price+b.price,b.many,⟨x.2,g⟩::b.tickets⟩:Best)):=by
     rw[<-e2]
     unfold yg
     apply acn
     intro p hp
     have di:=abi.mp (abh.mp hp).1
     rw[acf di]
     rfl
    rw[e3,ph]
    have e1:(gq (fun p=>d.good p g) d.products).map (Cg g b)=(((d.products.zipIdx).filter fun x=>d.good x.1 g).map fun x=>some (⟨x.1.price+b.price,b.many,⟨x.2,g⟩::b.tickets⟩:Best)).foldl cheaper none:=e1
    rw[<-e1]
    show _=match gq (fun p=>d.good p g) d.products,Fw.getD (m-g) none with
     |some o,some b=>cheaper a (some (Cg g b o))
     |_,_=>a
    rw[hb]
    cases gq (fun p=>d.good p g) d.products with
    |none=>exact dB a
    |some o=>rfl
 exact key _ none (fun g hg=>by have:=abi.mp hg;lia)
def dJ(d:Desk)(n:Nat):Nat->List (Option Best)
 |0=>[]
 |k+1=>dJ d n k++[if k=0 then some ⟨0,1,[]⟩else(List.range (k+1)).foldl (pj d (fun i=>(dJ d n k).getD i none) n k ((mem k).headD 0)) none]
theorem pk{d:Desk}{n:Nat}:∀{k:Nat},(dJ d n k).length=k
 |0=>rfl
 |k+1=>by simp[dJ,pk (k:=k)]
noncomputable def yY(d:Desk)(n:Nat):Array (List Nat):=((List.range (2^n)).map fun g=>(List.range d.products.length).filter fun p=>(d.products[p]?).any fun x=>d.good x g).toArray
theorem Ci{k:Nat}(h:k≠0):∃f rest,mem k=f::rest:=by
 cases e:mem k with
 |nil=>
  exfalso
  apply h
  apply acC
  intro i
  cases e2:k.testBit i with
  |false=>simp
  |true=>
   have:=mem_iff.mpr e2
   rw[e]at this
   cases this
 |cons f rest=>exact⟨f,rest,rfl⟩
theorem DV{d:Desk}{n:Nat}(hn:d.journeys.length=n):∀{k:Nat},k<=2^n->(List.range k).foldl (fun(Fw:Array (Option Best))m=>Fw.push (d.cell (yY d n) Fw m)) #[]=(dJ d n k).toArray
 |0,_=>rfl
 |k+1,hk=>by
  rw[ach,aci,DV hn (by lia)]
  show(dJ d n k).toArray.push _=_
  rw[List.push_toArray,dJ]
  congr 3
  by_cases c:k=0
  . rw[if_pos c]
    unfold Desk.cell
    rw[if_pos c]
  rw[if_neg c]
  obtain⟨f,rest,hf⟩:=Ci c
  rw[Mq hn (by lia) hf,hf]
  . congr 1
    simp[acS]
  intro g hg
  unfold yY yg
  rw[acS,List.getElem?_toArray,abV,acr (by lia)]
  rfl
theorem G5{d:Desk}{n:Nat}(hn:d.journeys.length=n):d.best=(dJ d n (2^n)).getD (2^n-1) none:=by
 unfold Desk.best Desk.table
 dsimp only
 rw[hn]
 have:=DV (d:=d) hn (abB _)
 unfold yY at this
 rw[this]
 simp[acS]
end Td
namespace Td
open Sg45
structure kO(ns day:Nat)(p:Trip):Prop where
 n2:2<=p.calls.length
 RP:p.calls.length<=64
 cl:∀a∈p.calls,a.halt_<ns/\a.comes<=a.goes/\a.goes<2880
 od:∀(i j:Nat)(a b:At),i<j->p.calls[i]?=some a->p.calls[j]?=some b->a.goes<=b.comes
 ll:p.late.length=7
 lt:∀(i:Nat)(l:Nat×Nat),p.late[i]?=some l->l.2<=240/\(i≠day->l=(0,0))
structure dQ(T:Table)(day:Nat):Prop where
 dy:day<=6
 ns:T.stops.length<=10
 ch:∀c∈T.stops,c<=120
 wk:∀w∈T.walks,w.from_<T.stops.length/\w.to<T.stops.length/\w.minutes<=240
 tp:∀p∈T.trips,kO T.stops.length day p
 nw:T.walks.length<=12
 nt:T.trips.length<=12
noncomputable def lc(p:Trip)(day:Nat):Nat:=(p.late.getD day (0,0)).1
noncomputable def lm(p:Trip)(day:Nat):Nat:=(p.late.getD day (0,0)).2
theorem Kl:∀d<7,weekday d 0=d/\(weekday d 1≠d/\weekday d 1<7)/\weekday d (-1)≠d/\weekday d (-1)<7:=by decide
theorem Mr{day:Nat}(h:day<=6):weekday day 0=day:=(Kl _ (Nat.lt_succ_of_le h)).1
theorem RQ{day:Nat}(h:day<=6){k:Int}(hk:within k (-1) 1=true)(h0:k≠0):weekday day k≠day/\weekday day k<7:=by
 unfold within at hk
 simp at hk
 have w:=(Kl _ (Nat.lt_succ_of_le h)).2
 obtain rfl|rfl:k=1\/k= -1:=by lia
 . exact w.1
 exact w.2
theorem wL{p:Trip}{day:Nat}(h:day<=6):p.lateOn day 0=(lc p day,lm p day):=by
 unfold Trip.lateOn
 rw[Mr h]
 rfl
theorem Bu{ns:Nat}{p:Trip}{day:Nat}(ok:kO ns day p)(h:day<=6){k:Int}(hk:within k (-1) 1=true)(h0:k≠0):p.lateOn day k=(0,0):=by
 unfold Trip.lateOn
 have:=RQ h hk h0
 rw[acd]
 cases e:p.late[weekday day k]?with
 |none=>rfl
 |some l=>exact(ok.lt _ _ e).2 this.1
theorem RR{ns:Nat}{p:Trip}{day:Nat}(ok:kO ns day p):lm p day<=240:=by
 unfold lm
 rw[acd]
 cases e:p.late[day]?with
 |none=>exact abE _
 |some l=>exact(ok.lt _ _ e).1
def oo(p:Trip)(day:Nat)(k:Int):Int:=if k=0 then((lm p day:Nat):Int)else 0
theorem yZ{ns:Nat}{p:Trip}{day:Nat}(ok:kO ns day p)(h:day<=6){k:Int}(hk:within k (-1) 1=true)(i:Nat):p.comes day k i=(((p.calls.getD i ⟨0,0,0⟩).comes:Nat):Int)+1440*k+(if lc p day<i then oo p day k else 0):=by
 unfold Trip.comes oo
 by_cases h0:k=0
 . subst h0
   rw[wL h,if_pos rfl]
 rw[Bu ok h hk h0,if_neg h0]
 split<;>split<;>rfl
theorem Cj{ns:Nat}{p:Trip}{day:Nat}(ok:kO ns day p)(h:day<=6){k:Int}(hk:within k (-1) 1=true)(i:Nat):p.goes day k i=(((p.calls.getD i ⟨0,0,0⟩).goes:Nat):Int)+1440*k+(if lc p day<=i then oo p day k else 0):=by
 unfold Trip.goes oo
 by_cases h0:k=0
 . subst h0
   rw[wL h,if_pos rfl]
 rw[Bu ok h hk h0,if_neg h0]
 split<;>split<;>rfl
theorem G6{ns:Nat}{p:Trip}{day:Nat}(ok:kO ns day p)(k:Int):0<=oo p day k/\oo p day k<=240:=by
 unfold oo
 have:=RR ok
 split<;>lia
theorem Ck{p:Trip}{i:Nat}(h:i<p.calls.length):∃a,p.calls[i]?=some a/\p.calls.getD i ⟨0,0,0⟩=a/\a∈p.calls:=⟨p.calls[i],acf h,by rw[acd,acf h];rfl,List.getElem_mem h⟩
theorem Cm{T:Table}{day:Nat}(ok:dQ T day){n:Nat}{k:Int}{p:Trip}(hz:(n,k,p)∈instances T day){i:Nat}(hi:i<p.calls.length):p.stopAt i<T.stops.length/\ -1440<=p.comes day k i/\p.comes day k i<=4560/\p.comes day k i<=p.goes day k i/\p.goes day k i<=4560:=by
 obtain⟨h1,h2,h3⟩:=cM.mp hz
 have po:=ok.tp p (abW h1)
 obtain⟨a,e1,e2,e3⟩:=Ck hi
 have hc:=po.cl a e3
 have hl:=G6 po k
 unfold Trip.stopAt
 rw[yZ po ok.dy h2,Cj po ok.dy h2,e2]
 unfold within at h2
 simp at h2
 refine⟨hc.1, ?_, ?_, ?_, ?_⟩
 . split<;>lia
 . split<;>lia
 . split<;>split<;>lia
 split<;>lia
theorem Km{T:Table}{day:Nat}(ok:dQ T day){n:Nat}{k:Int}{p:Trip}(hz:(n,k,p)∈instances T day){i j:Nat}(kN:i<j)(hj:j<p.calls.length):p.goes day k i<=p.comes day k j:=by
 obtain⟨h1,h2,h3⟩:=cM.mp hz
 have po:=ok.tp p (abW h1)
 obtain⟨a,e1,e2,e3⟩:=Ck (p:=p) (i:=i) (by lia)
 obtain⟨b,f1,f2,f3⟩:=Ck hj
 have:=po.od i j a b kN e1 f1
 have hl:=G6 po k
 rw[yZ po ok.dy h2,Cj po ok.dy h2,e2,f2]
 split<;>split<;>lia
theorem dQ.tok {T:Table} {day:Nat} (ok:dQ T day):oK T day:=by
 refine⟨ok.wk,fun r hr c hc=> ?_,fun r hr i j ci cj kN ei ej=> ?_,fun s=> ?_⟩
 . obtain⟨p,hp,ec⟩:=qU hr
   rw[ec]at hc
   obtain⟨i,hi⟩:=acv.mp hc
   obtain⟨h1,rfl⟩:=cu hi
   have:=Cm ok hp h1
   show p.stopAt i<_/\p.goes day r.k i<10000/\ -1440<=p.comes day r.k i/\p.comes day r.k i<10000
   exact⟨this.1,by lia,by lia,by lia⟩
 . obtain⟨p,hp,ec⟩:=qU hr
   rw[ec]at ei ej
   obtain⟨h1,rfl⟩:=cu ei
   obtain⟨h2,rfl⟩:=cu ej
   exact Km ok hp kN h2
 unfold chg
 rw[acd]
 cases e:T.stops[s]?with
 |none=>show((0:Nat):Int)<=120;lia
 |some c=>
  have:=ok.ch c (abW e)
  show(c:Int)<=120
  lia
structure qZ(T:Table)(x:Place):Prop where
 hl:x.halt_<T.stops.length
 wy:x.way<=2
 t0:0<=x.time
 t1:x.time<=4560+(if x.way=2 then 240 else 0)
theorem qZ.lt {T:Table} {x:Place} (h:qZ T x):x.time<=10000:=by
 have:=h.t1
 split at this<;>lia
theorem qZ.go {T:Table} {day:Nat} (ok:dQ T day) {x y:Place} {l:Leg} (hx:qZ T x) (h:go T day x l=some y):qZ T y:=by
 have ht:=G4 ok.tok h
 have h0:=hx.t0
 cases l with
 |walk w=>
  obtain⟨v,hv,hf,hw,rfl⟩:=fh.mp h
  have:=ok.wk v (abW hv)
  have h1:=hx.t1
  rw[if_neg hw]at h1
  refine⟨this.2.1,(by show(2:Nat)<=2;lia), ?_, ?_⟩
  . lia
  show x.time+_<=4560+(if(2:Nat)=2 then 240 else 0)
  rw[if_pos rfl]
  lia
 |ride n k i j=>
  obtain⟨p,hp,kN,hj,lA,nX,rfl⟩:=gp.mp h
  have:=Cm ok hp hj
  refine⟨this.1,(by show(1:Nat)<=2;lia), ?_, ?_⟩
  . lia
  show p.comes day k j<=4560+(if(1:Nat)=2 then 240 else 0)
  rw[if_neg (by lia)]
  lia
def Fits(T:Table)(day:Nat):Nat->Nat->List Leg->Prop
 |_,_,[]=>True
 |h,w, .walk i::l=>∃v,T.walks[i]?=some v/\v.from_=h/\w≠2/\Fits T day v.to 2 l
 |h,w, .ride n k i j::l=>∃p,(n,k,p)∈instances T day/\i<j/\j<p.calls.length/\p.stopAt i=h/\Fits T day (p.stopAt j) 1 l
theorem q0{T:Table}{day:Nat}:∀{l:List Leg}{x y:Place},follow T day x l=some y->Fits T day x.halt_ x.way l
 |[],x,y,h=>trivial
 |a::l,x,y,h=>by
  rw[follow]at h
  cases e:go T day x a with
  |none=>rw[e]at h;cases h
  |some u=>
   rw[e]at h
   have ih:=q0 h
   cases a with
   |walk i=>
    obtain⟨v,hv,hf,hw,rfl⟩:=fh.mp e
    exact⟨v,hv,hf,hw,ih⟩
   |ride n k i j=>
    obtain⟨p,hp,kN,hj,lA,nX,rfl⟩:=gp.mp e
    exact⟨p,hp,kN,hj,lA,ih⟩
theorem vI{T:Table}{day:Nat}{x:Place}{i:Nat}{l:List Leg}(h:Fits T day x.halt_ x.way (.walk i::l)):∃v,T.walks[i]?=some v/\go T day x (.walk i)=some ⟨v.to,x.time+(v.minutes:Int),2⟩/\Fits T day v.to 2 l:=by
 obtain⟨v,hv,hf,hw,h⟩:=h
 exact⟨v,hv,fh.mpr ⟨v,hv,hf,hw,U⟩,h⟩
theorem vJ{T:Table}{day:Nat}{x:Place}{n i j:Nat}{k:Int}{l:List Leg}(h:Fits T day x.halt_ x.way (.ride n k i j::l)):∃p,(n,k,p)∈instances T day/\i<j/\j<p.calls.length/\Fits T day (p.stopAt j) 1 l/\go T day x (.ride n k i j)=if aG T x<=p.goes day k i then some ⟨p.stopAt j,p.comes day k j,1⟩else none:=by
 obtain⟨p,hp,kN,hj,lA,h⟩:=h
 refine⟨p,hp,kN,hj,h, ?_⟩
 by_cases c:aG T x<=p.goes day k i
 . rw[if_pos c]
   exact gp.mpr ⟨p,hp,kN,hj,lA,c,rfl⟩
 rw[if_neg c]
 cases e:go T day x (.ride n k i j)with
 |none=>rfl
 |some y=>
  obtain⟨p',Lw,_,_,_,hr,_⟩:=gp.mp e
  have e1:=(cM.mp hp).1
  rw[(cM.mp Lw).1]at e1
  cases e1
  exact(c hr).elim
structure Ext(T T':Table)(day:Nat):Prop where
 wk:∀(i:Nat)(v:Walk),T.walks[i]?=some v->T'.walks[i]?=some v
 tp:∀(i:Nat)(p:Trip),T.trips[i]?=some p->∃p',T'.trips[i]?=some p'/\p'.days=p.days/\p'.calls=p.calls
theorem Fits.ext {T T':Table} {day:Nat} (E:Ext T T' day):∀{l:List Leg}{h w:Nat},Fits T day h w l->Fits T' day h w l
 |[],_,_,_=>trivial
 | .walk i::l,h,w,hh=>by
  obtain⟨v,hv,hf,hw,hl⟩:=hh
  exact⟨v,E.wk i v hv,hf,hw,hl.ext E⟩
 | .ride n k i j::l,h,w,hh=>by
  obtain⟨p,hp,kN,hj,lA,hl⟩:=hh
  obtain⟨h1,h2,h3⟩:=cM.mp hp
  obtain⟨p',Zn,e1,e2⟩:=E.tp n p h1
  have es:∀i,p'.stopAt i=p.stopAt i:=fun i=>by unfold Trip.stopAt;rw[e2]
  refine⟨p',cM.mpr ⟨Zn,h2, ?_⟩,kN,by rw[e2];exact hj,by rw[es];exact lA,by rw[es];exact hl.ext E⟩
  unfold Trip.runs at h3⊢
  rw[e1]
  exact h3
end Td
namespace Td
open Sg45
noncomputable def lH(s:Sw83.St)(p:Trip)(i j:Nat):List Nat:=(List.range (j+1-i)).map fun m=>s.zone (p.stopAt (i+m))
def DW(s:Sw83.St):Leg->List R3
 | .walk _=>[]
 | .ride n k i j=>match s.table.trips[n]?with
  |some p=>[⟨p.goes s.day k i,p.comes s.day k j,dX (lH s p i j) 0⟩]
  |none=>[]
theorem G7(s:Sw83.St)(l:Leg):s.fare l=(DW s l).map mM:=by
 cases l with
 |walk w=>rfl
 |ride n k i j=>
  show(match s.table.trips[n]?with
   |some p=>[(⟨0,(p.goes s.day k i).toNat,(p.comes s.day k j-p.goes s.day k i).toNat,Sw76.bitsOf (lH s p i j)⟩:Sw76.Journey)]
   |none=>[])=(match s.table.trips[n]?with
   |some p=>[(⟨p.goes s.day k i,p.comes s.day k j,dX (lH s p i j) 0⟩:R3)]
   |none=>[]).map mM
  generalize s.table.trips[n]?=o
  cases o with
  |none=>rfl
  |some p=>
   dsimp only
   rw[sk]
   rfl
theorem Kn{s:Sw83.St}{n i j:Nat}{k:Int}{p:Trip}(h:s.table.trips[n]?=some p):DW s (.ride n k i j)=[⟨p.goes s.day k i,p.comes s.day k j,dX (lH s p i j) 0⟩]:=by
 show(match s.table.trips[n]?with
  |some p=>[(⟨p.goes s.day k i,p.comes s.day k j,dX (lH s p i j) 0⟩:R3)]
  |none=>[])=_
 rw[h]
structure nY(s:Sw83.St):Prop where
 tab:dQ s.table s.day
 zl:s.zones.length=s.table.stops.length
 zz:∀z∈s.zones,z<s.desk.map.zones
 nz:s.desk.map.zones<=8
 np:s.desk.products.length<=8
 pr:∀p∈s.desk.products,1<=p.persons/\p.price<=1000000
 hr:∀x,s.here=some x->qZ s.table x/\s.goal<s.table.stops.length/\Fits s.table s.day x.halt_ x.way s.legs/\∃R:List R3,s.rides=R.map mM/\∀r∈R,Al s.desk.map.zones r
theorem nY.zone {s:Sw83.St} (ok:nY s) {h:Nat} (hh:h<s.table.stops.length):s.zone h<s.desk.map.zones:=by
 unfold Sw83.St.zone
 rw[acd,acf (by rw[ok.zl];exact hh)]
 exact ok.zz _ (List.getElem_mem _)
theorem nY.ride {s:Sw83.St} (ok:nY s) {x y:Place} (hx:0<=x.time) {l:Leg} (h:go s.table s.day x l=some y):∀r∈DW s l,Al s.desk.map.zones r:=by
 cases l with
 |walk w=>intro r hr;cases hr
 |ride n k i j=>
  obtain⟨p,hp,kN,hj,lA,nX,rfl⟩:=gp.mp h
  rw[Kn (cM.mp hp).1]
  intro r hr
  simp only[acT]at hr
  subst hr
  refine⟨?_,Km ok.tab hp kN hj, ?_, ?_⟩
  . show 0<=p.goes s.day k i
    have:=oT s.table x.halt_
    unfold aG at nX
    split at nX<;>lia
  . show dX (lH s p i j) 0<_
    apply pd
    intro b hb
    rw[jP]at hb
    simp at hb
    unfold lH at hb
    obtain⟨m,hm,rfl⟩:=ab8.mp hb
    have hm:=abi.mp hm
    exact ok.zone (Cm ok.tab hp (i:=i+m) (by lia)).1
  show dX (lH s p i j) 0≠0
  intro q
  have:(dX (lH s p i j) 0).testBit (s.zone (p.stopAt (i+0)))=true:=by
   rw[jP]
   simp only[aca,decide_eq_true_eq]
   right
   exact ab8.mpr ⟨0,abi.mpr (by lia),rfl⟩
  rw[q]at this
  simp at this
noncomputable def places(T:Table)(day:Nat):Place->List Leg->List Place
 |x,[]=>[x]
 |x,a::l=>match go T day x a with
  |some y=>x::places T day y l
  |none=>[x]
theorem sq{T:Table}{day:Nat}{x:Place}{l:List Leg}:1<=(places T day x l).length:=by
 cases l with
 |nil=>exact abB _
 |cons a l=>
  rw[places]
  split<;>simp
theorem IC{T:Table}{day:Nat}:∀{l:List Leg}{x:Place},(places T day x l).length<=l.length+1
 |[],x=>abB _
 |a::l,x=>by
  rw[places]
  cases go T day x a with
  |none=>simp
  |some y=>
   have:=IC (T:=T) (day:=day) (l:=l) (x:=y)
   simp
   lia
theorem nA{T:Table}{day:Nat}:∀{l:List Leg}{x:Place},follow T day x l=if l.length<(places T day x l).length then(places T day x l).getLast? else none
 |[],x=>by simp[places,follow]
 |a::l,x=>by
  rw[places,follow]
  cases go T day x a with
  |none=>simp
  |some y=>
   dsimp only
   rw[nA (l:=l) (x:=y)]
   have h1:=sq (T:=T) (day:=day) (x:=y) (l:=l)
   rw[abG,abG]
   by_cases c:l.length<(places T day y l).length
   . rw[if_pos c,if_pos (by lia),List.getLast?_cons]
     cases e:(places T day y l).getLast? with
     |none=>
      rw[List.getLast?_eq_none_iff]at e
      rw[e]at h1
      simp at h1
     |some z=>simp
   rw[if_neg c,if_neg (by lia)]
theorem nB{T:Table}{day:Nat}:∀{l:List Leg}{x:Place}{k:Nat},Sw83.missed T day k x l=if l.length<(places T day x l).length then none else some (k+((places T day x l).length-1))
 |[],x,k=>by simp[places,Sw83.missed]
 |a::l,x,k=>by
  rw[places,Sw83.missed]
  cases go T day x a with
  |none=>simp
  |some y=>
   dsimp only
   rw[nB (l:=l) (x:=y)]
   have h1:=sq (T:=T) (day:=day) (x:=y) (l:=l)
   rw[abG,abG]
   by_cases c:l.length<(places T day y l).length
   . rw[if_pos c,if_pos (by lia)]
   rw[if_neg c,if_neg (by lia)]
   congr 1
   lia
theorem nY.rides {s:Sw83.St} (ok:nY s):∀{l:List Leg}{x y:Place},qZ s.table x->follow s.table s.day x l=some y->∀r∈l.flatMap (DW s),Al s.desk.map.zones r
 |[],x,y,_,_=>by
  intro r hr
  cases hr
 |a::l,x,y,hx,h=>by
  rw[follow]at h
  cases e:go s.table s.day x a with
  |none=>rw[e]at h;cases h
  |some u=>
   rw[e]at h
   intro r hr
   rw[acj]at hr
   rcases abq.mp hr with hr|hr
   . exact ok.ride hx.t0 e r hr
   exact ok.rides (hx.go ok.tab e) h r hr
theorem wM{T:Table}{day:Nat}:∀{l m:List Leg}{x y:Place},follow T day x l=some y->Sw83.toldFrom T day x (l++m)=Sw83.toldFrom T day x l++Sw83.toldFrom T day y m
 |[],m,x,y,h=>by
  cases h
  rfl
 |a::l,m,x,y,h=>by
  rw[follow]at h
  rw[acs,Sw83.toldFrom,Sw83.toldFrom]
  cases e:go T day x a with
  |none=>rw[e]at h;cases h
  |some u=>
   rw[e]at h
   dsimp only
   rw[wM h]
   rfl
theorem Cn{T:Table}{n:Nat}{f:Trip->Trip}{i:Nat}:(T.trips.mapIdx fun k x=>if k=n then f x else x)[i]?=(T.trips[i]?).map fun x=>if i=n then f x else x:=by
 rw[List.getElem?_mapIdx]
theorem y0{z d:Nat}(hd:d<=6)(hz:z<=8):nY ⟨Sg45.empty,d,[],⟨⟨z,[]⟩,[],[]⟩,none,0,[],[]⟩:=by
 refine⟨⟨hd,(by show 0<=10;lia), ?_, ?_, ?_,(by show 0<=12;lia),(by show 0<=12;lia)⟩,U, ?_,hz,(by show 0<=8;lia), ?_, ?_⟩
 all_goals first|(intro x hx;cases hx)
theorem tM{T:Table}:∀{l:List At},((l.zip l.tail).all fun x=>decide (x.1.goes<=x.2.comes))=true->(∀a∈l,a.comes<=a.goes)->∀(i j:Nat)(a b:At),i<j->l[i]?=some a->l[j]?=some b->a.goes<=b.comes
 |[],_,_,i,j,a,b,_,h,_=>by simp at h
 |[x],_,_,i,j,a,b,kN,_,h=>by
  have:j=0:=by
   have:=(abt.mp h).1
   simp at this
   lia
  lia
 |x::y::l,h,hc,i,j,a,b,kN,hi,hj=>by
  have h':decide (x.goes<=y.comes)=true/\(((y::l).zip l).all fun x=>decide (x.1.goes<=x.2.comes))=true:=by
   have h:(decide (x.goes<=y.comes)&&(((y::l).zip l).all fun x=>decide (x.1.goes<=x.2.comes)))=true:=h
   rw[ab6]at h
   exact h
  have Zo:x.goes<=y.comes:=by simpa using h'.1
  have OL:∀a∈y::l,a.comes<=a.goes:=fun a ha=>hc a (by simp[ha])
  cases j with
  |zero=>lia
  |succ j=>
   have hj:(y::l)[j]?=some b:=hj
   cases i with
   |zero=>
    have e:x=a:=Option.some.inj hi
    subst e
    cases j with
    |zero=>
     have e:y=b:=Option.some.inj hj
     subst e
     exact Zo
    |succ j=>
     have:=tM (T:=T) h'.2 OL 0 (j+1) y b (by lia) rfl hj
     have:=hc y (by simp)
     lia
   |succ i=>exact tM (T:=T) h'.2 OL i j a b (by lia) hi hj
theorem Co{T:Table}{day:Nat}{l:List At}{d:Nat}(h:callsOk T l=true)(h2:2<=l.length)(h3:l.length<=64):kO T.stops.length day ⟨d,l,List.replicate 7 (0,0)⟩:=by
 unfold callsOk at h
 rw[ab6,ab9]at h
 have hc:∀a∈l,a.halt_<T.stops.length/\a.comes<=a.goes/\a.goes<2880:=fun a ha=>by
  have:=h.1 a ha
  simpa[ab6]using this
 refine⟨h2,h3,hc,tM (T:=T) h.2 fun a ha=>(hc a ha).2.1,U,fun i e he=> ?_⟩
 have:e=(0,0):=List.eq_of_mem_replicate (abW he)
 subst this
 exact⟨by decide,fun _=>rfl⟩
theorem nY.grow {s:Sw83.St} (ok:nY s) {T':Table} {zs:List Nat} (tab:dQ T' s.day) (E:Ext s.table T' s.day) (hl:s.table.stops.length<=T'.stops.length) (zl:zs.length=T'.stops.length) (zz:∀z∈zs,z<s.desk.map.zones):nY {s with table:=T',zones:=zs}:=by
 refine⟨tab,zl,zz,ok.nz,ok.np,ok.pr,fun x hx=> ?_⟩
 obtain⟨h1,h2,h3,h4⟩:=ok.hr x hx
 exact⟨⟨abe h1.hl hl,h1.wy,h1.t0,h1.t1⟩,abe h2 hl,h3.ext E,h4⟩
theorem Bv{T:Table}{day goal:Nat}{x:Place}{p:Sw83.Plan}(h:Sw83.plan T day goal x=some p):Fits T day x.halt_ x.way p.legs:=by
 unfold Sw83.plan at h
 dsimp only at h
 cases e1:best (Sw83.arrivals T day x) goal with
 |none=>rw[e1]at h;cases h
 |some a=>
  rw[e1,acw]at h
  cases e2:fewest (Sw83.arrivals T day x) goal (fun y=>y==a)with
  |none=>rw[e2]at h;cases h
  |some r=>
   rw[e2,acw]at h
   cases e3:search T day goal a (instances T day) (2*r+3) r x with
   |none=>rw[e3]at h;cases h
   |some m=>
    rw[e3]at h
    have h:(⟨a,r,m⟩:Sw83.Plan)=p:=Option.some.inj h
    subst h
    obtain⟨y,hy,_⟩:=i8 e3
    exact q0 hy
end Td
namespace Td
noncomputable def bO(rs:List (List Int)):List Int:=rs.flatMap fun r=>0::(r.length:Int)::r
theorem Ko{l x s:List Int}(h:PyFlat.row l=some (x,s)):l=(x.length:Int)::(x++s):=by
 cases l with
 |nil=>cases h
 |cons n r=>
  have h:(if 0<=n/\n.toNat<=r.length then some (r.take n.toNat,r.drop n.toNat)else none)=some (x,s):=h
  by_cases c:0<=n/\n.toNat<=r.length
  . rw[if_pos c]at h
    have h:=Option.some.inj h
    have e1:r.take n.toNat=x:=(Prod.mk.inj h).1
    have e2:r.drop n.toNat=s:=(Prod.mk.inj h).2
    subst e1 e2
    rw[acU,abR]
    congr 1
    lia
  rw[if_neg c]at h
  cases h
theorem ID{l t:List Int}{c:List (List Int)}(h:PyFlat.call PySw83.shape l=some (c,t)):∃x,c=[[0],x]/\l=0::(x.length:Int)::(x++t):=by
 cases l with
 |nil=>cases h
 |cons p r=>
  have h:(match(if p=0 then some ((0:Nat),(1:Nat))else none)with
   |none=>none
   |some (n,k)=>if r.length<n then none else match PyFlat.rows k (r.drop n)with
    |none=>none
    |some (xs,t)=>some ((p::r.take n)::xs,t))=some (c,t):=h
  by_cases hp:p=0
  . subst hp
    rw[if_pos rfl]at h
    dsimp only at h
    rw[if_neg (by lia),List.drop_zero]at h
    have h:(match(match PyFlat.row r with
     |none=>none
     |some (x,s)=>match PyFlat.rows 0 s with
      |none=>none
      |some (xs,t)=>some (x::xs,t))with
     |none=>none
     |some (xs,t)=>some ((0::r.take 0)::xs,t))=some (c,t):=h
    cases e:PyFlat.row r with
    |none=>rw[e]at h;cases h
    |some z=>
     obtain⟨x,s⟩:=z
     rw[e]at h
     have h:some (([0]:List Int)::[x],s)=some (c,t):=h
     have h:=Option.some.inj h
     have e1:[0]::[x]=c:=(Prod.mk.inj h).1
     have e2:s=t:=(Prod.mk.inj h).2
     subst e2
     exact⟨x,e1.symm,by rw[Ko e]⟩
  rw[if_neg hp]at h
  cases h
theorem y1:∀(f:Nat)(l:List Int)(cs:List (List (List Int))),PyFlat.calls PySw83.shape f l=some cs->∃rs:List (List Int),cs.map PySw83.whole=rs.map (fun r=>[r])/\l=bO rs
 |f,[],cs,h=>by
  cases f with
  |zero=>
   cases h
   exact⟨[],U,U⟩
  |succ f=>
   cases h
   exact⟨[],U,U⟩
 |0,p::r,cs,h=>by cases h
 |f+1,p::r,cs,h=>by
  unfold PyFlat.calls at h
  cases e:PyFlat.call PySw83.shape (p::r)with
  |none=>rw[e]at h;cases h
  |some z=>
   obtain⟨c,t⟩:=z
   rw[e]at h
   dsimp only at h
   cases e2:PyFlat.calls PySw83.shape f t with
   |none=>rw[e2]at h;cases h
   |some ds=>
    rw[e2]at h
    have h:=Option.some.inj h
    subst h
    obtain⟨x,rfl,hl⟩:=ID e
    obtain⟨rs,h1,h2⟩:=y1 f t ds e2
    refine⟨x::rs, ?_, ?_⟩
    . rw[abH,abH,h1]
      rfl
    rw[hl,h2]
    simp[bO]
noncomputable def eE(s:Sw83.St)(rs:List (List Int)):Sw83.St:=rs.foldl (fun s r=>(Sw83Neutral.step s r).1) s
noncomputable def bT:Sw83.St->List (List Int)->List Int
 |_,[]=>[]
 |s,r::rs=>((Sw83Neutral.step s r).2.length:Int)::((Sw83Neutral.step s r).2++bT (Sw83Neutral.step s r).1 rs)
theorem y3:∀{rs:List (List Int)}{s:Sw83.St}{r:List Int},bT s (rs++[r])=bT s rs++((Sw83Neutral.step (eE s rs) r).2.length:Int)::(Sw83Neutral.step (eE s rs) r).2
 |[],s,r=>by simp[bT,eE]
 |q::rs,s,r=>by
  have:=y3 (rs:=rs) (s:=(Sw83Neutral.step s q).1) (r:=r)
  unfold eE at this⊢
  rw[acs,bT,this,bT]
  simp
theorem Ms{rs:List (List Int)}{s:Sw83.St}{r:List Int}:eE s (rs++[r])=(Sw83Neutral.step (eE s rs) r).1:=by
 unfold eE
 rw[aci]
 rfl
theorem wN:∀{rs:List (List Int)}{s:Sw83.St},PyFlat.told (PyFlat.played (fun s c=>Sw83Neutral.step s (c.headD [])) s (rs.map fun r=>[r]))=bT s rs
 |[],s=>rfl
 |r::rs,s=>by
  have:=wN (rs:=rs) (s:=(Sw83Neutral.step s r).1)
  rw[abH,PyFlat.played,bT,<-this]
  unfold PyFlat.told
  rw[acj]
  rfl
theorem DX:∀{rs:List (List Int)}{s:Sw83.St},(bT s rs).length=Sw83Neutral.many s rs+rs.length
 |[],s=>rfl
 |r::rs,s=>by
  have:=DX (rs:=rs) (s:=(Sw83Neutral.step s r).1)
  rw[bT,Sw83Neutral.many]
  simp only[abG,abX,this]
  lia
theorem Fy{l:List Int}(h:PySw83.answers_asked l=true):∃rs:List (List Int),l=bO rs/\PySw83.answers l=bT Sw83.init rs/\rs.length<=60/\(∀r∈rs,∃x,Sw83Neutral.callOf r=some x)/\(bT Sw83.init rs).length<=1000060:=by
 unfold PySw83.answers_asked at h
 cases e:PySw83.calls l with
 |none=>rw[e]at h;cases h
 |some cs=>
  rw[e]at h
  dsimp only at h
  rw[ab6]at h
  have e':=e
  unfold PySw83.calls at e
  cases e2:PyFlat.calls PySw83.shape l.length l with
  |none=>rw[e2]at e;cases e
  |some ds=>
   rw[e2]at e
   have e:=Option.some.inj e
   obtain⟨rs,h1,h2⟩:=y1 _ _ _ e2
   have kP:cs=rs.map fun r=>[r]:=e.symm.trans h1
   have Mt:(cs.map fun c=>c.headD [])=rs:=by
    rw[kP,acm]
    exact List.map_id'' (fun _=>rfl) rs
   rw[Mt]at h
   have ha:=h.2
   unfold Sw83Neutral.asked at ha
   simp only[ab6,decide_eq_true_eq,ab9]at ha
   refine⟨rs,h2, ?_,ha.2.2.1,fun r hr=> ?_, ?_⟩
   . unfold PySw83.answers
     rw[e']
     dsimp only
     rw[kP]
     exact wN
   . exact abQ.mp (ha.1 r hr)
   rw[DX]
   have:Sw83Neutral.many Sw83.init rs<=1000000:=ha.2.2.2
   lia
theorem step_call{s:Sw83.St}{r:List Int}{x:Sw83.Call}(h:Sw83Neutral.callOf r=some x):Sw83Neutral.step s r=((Sw83.step s x).1,Sw83Neutral.out (Sw83.step s x).2):=by
 unfold Sw83Neutral.step
 rw[h]
theorem Fz{r:List Int}{x:Sw83.Call}(h:Sw83Neutral.callOf r=some x):∃ns:List Nat,r=ns.map (fun n=>((n:Nat):Int))/\Sw83Neutral.callIn ns=some x/\∀n∈ns,n<2^32:=by
 unfold Sw83Neutral.callOf at h
 split at h
 . cases h
 rename_i c
 have c:r.all Sw83Neutral.nat=true:=by simpa using c
 rw[ab9]at c
 have hn:∀z∈r,0<=z/\z<2^32:=fun z hz=>by
  have:=c z hz
  unfold Sw83Neutral.nat at this
  simpa[ab6]using this
 refine⟨r.map Int.toNat, ?_,h, ?_⟩
 . rw[acm]
   symm
   have:∀z∈r,((fun n:Nat=>((n:Nat):Int))∘Int.toNat) z=z:=fun z hz=>by
    have:=hn z hz
    show(z.toNat:Int)=z
    lia
   rw[acn this]
   simp
 intro n U0
 obtain⟨z,hz,rfl⟩:=ab8.mp U0
 have:=hn z hz
 lia
end Td
namespace Td
open PySem PySem.Spec PyProof.Rows L2
theorem nk{b:Expr}{op:CmpOp}(h:op≠.In:=by decide)(h2:op≠.NotIn:=by decide):behindInMarks op b=false:=Of b h h2
theorem sm{N P:List Str}{sc:Scope}(a:sc.kind= .function:=by rfl)(b:sc.isCoroutine=false:=by rfl)(c:sc.isGenerator=false:=by rfl)(d:N.take P.length=P:=by rfl)(h:N.Nodup/\(∀x∈P,sc.names.lookup x=some .local\/sc.names.lookup x=some .cell)/\∀y∈sc.names,y.2≠ .free:=by decide+kernel):aB N P sc:=⟨a,b,c,h.1,d,h.2.1,h.2.2⟩
structure FnAt(P:Program)(w:World)(K:PySem.W.Frag)(mg:Str->Option Value)(base:Heap)(k:Nat)(x:Str)(ps:List Str)(sp:Sp):Prop where
 ex:∃(f:Addr)(fd:FuncData),bq P w K mg base eD k f fd ps sp/\mg x=some (.ref f)/\PySem.W.keepIn K (.ref f)=true/\Binds K fd ps []
structure MethAt(P:Program)(w:World)(K:PySem.W.Frag)(mg:Str->Option Value)(base:Heap)(k:Nat)(C:Addr)(m:Str)(ps:List Str)(sp:Sp):Prop where
 ex:∃(f:Addr)(fd:FuncData),bq P w K mg base eD k f fd ps sp/\Meth K C m f/\Binds K fd ps []/\tm K C
structure eG(P:Program)(w:World)(K:PySem.W.Frag)(mg:Str->Option Value)(base:Heap)(k:Nat)(x:Str)(C:Addr)(ps:List Str)(sp:Sp):Prop where
 ex:∃(f:Addr)(fd:FuncData),bq P w K mg base eD k f fd ps sp/\Mk K C f/\Binds K fd ps []/\mg x=some (.ref C)
section
variable{X:Cx}{k j:Nat}{C:Addr}{x m:Str}{ps:List Str}{sp:Sp}{e o:Expr}{es:List Expr}{ta:TE}{t:TA}{p pos apos:Pos}
theorem aO(F:FnAt X.prog X.w X.K X.mg X.base k x ps sp)(hr:gg j X.A)(hg:Gl X x)(ha:PA X (e::es) t)
 (JN:(x==("__debug__":Str))=false:=by decide) (he:starEach (e::es) X.env=(false,eval e X.env)::starEach es X.env:=by rfl) (qJ:(backTo pos (starEach es X.env)).any (·.1)=false:=by rfl) (Mu:k<=j:=by decide):
 PE X (.Call (.Name x p) (e::es) [] pos) (uj sp [] E0 t):=by
 obtain⟨f,fd,F,hm,hk,hb⟩:=F.ex
 exact LQ F (hr.mono Mu) hg hm hk hb .nil Bf ha JN he qJ
theorem cv(F:eG X.prog X.w X.K X.mg X.base k x C ps sp)(hr:gg j X.A)(hg:Gl X x)(ha:PA X (e::es) t)
 (JN:(x==("__debug__":Str))=false:=by decide) (he:starEach (e::es) X.env=(false,eval e X.env)::starEach es X.env:=by rfl) (qJ:(backTo pos (starEach es X.env)).any (·.1)=false:=by rfl) (Mu:k+1<=j:=by decide):
 PE X (.Call (.Name x p) (e::es) [] pos) (AZ C sp [] E0 t):=by
 obtain⟨f,fd,F,M,hb,hm⟩:=F.ex
 exact LS M F (hr.mono Mu) hg hm hb .nil Bf ha JN he qJ
theorem bB{pl:Sem Bool}(ho:PE X o ta)(F:MethAt X.prog X.w X.K X.mg X.base k C m ps sp)(hr:gg j X.A)(ha:PA X (e::es) t)
 (lA:starEach (e::es) X.env=(false,eval e X.env)::starEach es X.env:=by rfl) (qJ:(backTo pos (starEach es X.env)).any (·.1)=false:=by rfl)
 (ht:eval (.Call (.Attribute o m apos) (e::es) [] pos) X.env=(do
  let ov <-eval o X.env
  standAt apos.atName
  let(f,first) <-holding [ov] (getMethod ov m pl)
  callWith pos f first (backTo pos (starEach (e::es) X.env)) (backToKw pos (keywordEach [] X.env))):=by rfl) (Mu:k<=j:=by decide):
 PE X (.Call (.Attribute o m apos) (e::es) [] pos) (Dn C m sp [] E0 ta t):=by
 obtain⟨f,fd,F,M,hb,c⟩:=F.ex
 exact LR ho c M F (hr.mono Mu) hb .nil Bf ha lA qJ ht
theorem Bw{pl:Sem Bool}(ho:PE X o ta)(F:MethAt X.prog X.w X.K X.mg X.base k C m ps sp)(hr:gg j X.A)
 (ht:eval (.Call (.Attribute o m apos) [] [] pos) X.env=(do
  let ov <-eval o X.env
  standAt apos.atName
  let(f,first) <-holding [ov] (getMethod ov m pl)
  callWith pos f first (backTo pos (starEach [] X.env)) (backToKw pos (keywordEach [] X.env))):=by rfl) (Mu:k<=j:=by decide):
 PE X (.Call (.Attribute o m apos) [] [] pos) (Dn C m sp [] E0 ta lW):=by
 obtain⟨f,fd,F,M,hb,c⟩:=F.ex
 exact JO ho c M F (hr.mono Mu) hb .nil Bf ht
theorem bj{n:Int}(hg:Gl X x)(h:∃t,X.mg x=some (.int n t))(hd:(x==("__debug__":Str))=false:=by decide):PE X (.Name x pos) (tC (.int n)):=by
 obtain⟨t,h⟩:=h
 exact B1 hg h ⟨t,rfl⟩ hd
end
section
variable{X:Cx}
theorem Bx:Q8 X .BitOr (T7 fun i j=>Builtin.bitOr i j):=by
 intro pins s σ H x y v u Q I r1 r2 h
 obtain⟨i,j,e1,e2,q⟩:=h
 subst e1;subst e2
 obtain⟨t,rfl⟩:=r1
 obtain⟨t',rfl⟩:=r2
 exact ior_int ⟨.int _,H,I.tok _,⟨_,rfl⟩,q⟩
theorem DY:Rb X (fun o i H Q=>∃p xs k v,o= .ref p/\i= .int k/\0<=k/\aW X.K H p xs/\xs[k.toNat]?=some v/\Q v H):=by
 intro pins s σ H o i ov iv Q I ro ri h
 obtain⟨p,xs,k,v,rfl,rfl,hk,hs,hv,q⟩:=h
 cases ro
 obtain⟨t,rfl⟩:=ri
 obtain⟨bp,r,pl,hz⟩:=I.list hs
 obtain⟨w,ew,Rq⟩:=r.get hv
 have hl:=r.length
 have di:=(abt.mp hv).1
 have hn:=yy
 exact wpAny_getItem_list pl.isList hk (by lia) (by simpa using ew) ⟨v,H,I,Rq,q⟩
theorem Mv:Vk X "int.bit_length" (fun x xs H Q=>∃i,x= .int i/\xs=[]/\Q (.int (Builtin.Int.intBits i:Nat)) H):=by
 intro pins s σ H x xs v us Q I rx rs h
 obtain⟨i,rfl,rfl,q⟩:=h
 obtain⟨t,rfl⟩:=rx
 cases rs
 exact call_gives PySem.F.slot_int_bit_length (typeIs_int _ _ _) PySem.F.entry_int_bit_length (PySem.F.args_int_bit_length_1 _) (PySem.AutoIntG2.int_bit_length_int_0 i t) (show EP X pins σ Q _ _ from⟨.int _,H,I.tok _,⟨_,rfl⟩,q⟩)
end
theorem oq{K:PySem.W.Frag}{a:Addr}{xs:List V}{i1 i2:Nat}{tb:TS}{D:Ends}{σ:L2.St}{H:Hp}(Pv:Nat->L2.St->Hp->Prop)(h0:Pv 0 σ H)(hl:∀i σ H,i<=xs.length->Pv i σ H->aW K H a xs)
 (hs:∀(i:Nat)x σ H T,xs[i]?=some x->Pv i σ H->H T=none->tb {D with nx:=Pv (i+1),ct:=Pv (i+1),bk:=D.nx} ((σ.set i1 (some (.int i))).set i2 (some x)) (upd H T (.tup [.int i,x]))) (hd:∀σ H,Pv xs.length σ H->D.nx σ H):
 ∃W:Nat->Nat->L2.St->Hp->Prop,(∃m,W 0 m σ H)/\∀i m σ H,W i m σ H->
  ((Ny K a).stop i H/\D.nx σ H)\/((Ny K a).go i H/\∃N:L2.St->Hp->Prop,(∀ff H',N ff H'->∃m',m'<m/\W (i+1) m' ff H')/\∀x H',(Ny K a).GD i H x H'->LH K 2 (yw (kr i1) (yw (kr i2) LG)) x σ H' fun i5 H2=>tb {D with nx:=N,ct:=N,bk:=D.nx} i5 H2):=by
 refine⟨fun i m σ H=>m=xs.length-i/\i<=xs.length/\Pv i σ H,⟨xs.length,by simp,abE _,h0⟩, ?_⟩
 rintro i m σ H ⟨rfl,hi,p⟩
 have q:=hl i σ H hi p
 by_cases di:i<xs.length
 . refine .inr ⟨⟨xs,xs[i],q,by simp[di]⟩,Pv (i+1),fun ff H' p'=>⟨xs.length-(i+1),by lia,rfl,di,p'⟩,fun x H' y=> ?_⟩
   obtain⟨T,z,rfl,hT,rfl,y⟩:=y
   exact⟨T,_,U,xq.of af,U,_,_,U,_,_,U,U,hs i z σ H T (y xs q) p hT⟩
 have e:i=xs.length:=by lia
 subst e
 exact .inl ⟨⟨xs,q,abB _⟩,hd σ H p⟩
theorem Mw{K:PySem.W.Frag}{a:Addr}{xs:List V}{g:TG}{tb:TS}{D:Ends}{σ:L2.St}{H:Hp}(Pv:Nat->L2.St->Hp->Prop)(h0:Pv 0 σ H)(hl:∀i σ H,i<=xs.length->Pv i σ H->aW K H a xs)
 (hs:∀i x σ H,xs.reverse[i]?=some x->Pv i σ H->g x σ H fun i5 H2=>tb {D with nx:=Pv (i+1),ct:=Pv (i+1),bk:=D.nx} i5 H2) (hd:∀σ H,Pv xs.length σ H->D.nx σ H):
 ∃W:Nat->Nat->L2.St->Hp->Prop,(∃m,W 0 m σ H)/\∀i m σ H,W i m σ H->
  ((RF K a xs.length).stop i H/\D.nx σ H)\/((RF K a xs.length).go i H/\∃N:L2.St->Hp->Prop,(∀ff H',N ff H'->∃m',m'<m/\W (i+1) m' ff H')/\∀x H',(RF K a xs.length).GD i H x H'->g x σ H' fun i5 H2=>tb {D with nx:=N,ct:=N,bk:=D.nx} i5 H2):=by
 refine⟨fun i m σ H=>m=xs.length-i/\i<=xs.length/\Pv i σ H,⟨xs.length,by simp,abE _,h0⟩, ?_⟩
 rintro i m σ H ⟨rfl,hi,p⟩
 have q:=hl i σ H hi p
 by_cases di:i<xs.length
 . refine .inr ⟨⟨di,xs,xs[xs.length-1-i]'(by lia),q,by rw[acf]⟩,Pv (i+1),fun ff H' p'=>⟨xs.length-(i+1),by lia,rfl,di,p'⟩,fun x H' y=> ?_⟩
   obtain⟨e,y⟩:=y
   subst e
   exact hs i x σ _ (by rw[List.getElem?_reverse di];exact y xs q) p
 have e:i=xs.length:=by lia
 subst e
 exact .inl ⟨abB _,hd σ H p⟩
theorem ak.upd {H:Hp} {l:Addr} {o:HO} (h:H l=none):ak H (upd H l o):=fun b u e=>by
 rw[au (aw e h)]
 exact e
theorem ak.fy {H0 H:Hp} {l:Addr} {o:HO} (s:ak H0 H) (h:H0 l=none):ak H0 (L2.upd H l o):=fun b u e=>by
 rw[au (aw e h)]
 exact s b u e
def mk(H:Hp)(x dx C:Addr)(fs:List (Str×V)):Hp:=upd (upd H dx (.own x)) x (.ins C dx fs)
theorem k9{H:Hp}{x dx C:Addr}{fs:List (Str×V)}:mk H x dx C fs x=some (.ins C dx fs):=af
theorem dE{H:Hp}{x dx C:Addr}{fs:List (Str×V)}(hx:H x=none)(hd:H dx=none):ak H (mk H x dx C fs):=fun b u e=>by
 unfold mk
 rw[au (aw e hx),au (aw e hd)]
 exact e
theorem aI{f:Str}{v:V}:∀{fs:List (Str×V)}{ns:List Str},fs.map (·.1)=ns->f∉ns->bc f v fs=fs++[(f,v)]
 |[],_,_,_=>rfl
 |(g,x)::r,ns,e,h=>by
  subst e
  have h1:¬g=f:=fun q=>h (by rw[q];simp)
  show(if g=f then(g,v)::r else(g,x)::bc f v r)=_
  rw[if_neg h1,aI (fs:=r) rfl (fun q=>h (by simp[q]))]
  rfl
def uD(C:Addr)(ns:List Str):Sp:=fun vs H Q _=>∃(p dx:Addr)(us:List V),vs= .ref p::us/\us.length=ns.length/\H p=some (.ins C dx [])/\Q .dR (upd H p (.ins C dx (ns.zip us)))
theorem take_snoc{α:Type}:∀{l:List α}{i:Nat}{x:α},l[i]?=some x->l.take (i+1)=l.take i++[x]
 |[],i,x,h=>by simp at h
 |a::l,0,x,h=>by
  have e:a=x:=Option.some.inj h
  subst e
  rfl
 |a::l,i+1,x,h=>by
  have ih:=take_snoc (l:=l) (i:=i) (x:=x) h
  show a::l.take (i+1)=a::l.take i++[x]
  rw[ih]
  rfl
noncomputable def top(i:Nat):Stmt:=PySem.Challenge.pw_travelday_s01_answers.main.body.getD i (.Pass ⟨0,0,0,0⟩)
abbrev aV:=List (Str×V)
structure Ad where
 Stop:Addr
 Walk:Addr
 Call:Addr
 Trip:Addr
 Run:Addr
 aJ:Addr
 Product:Addr
 xy:Addr
 mS:Addr
 bK:Addr
 c7:Addr
 Place:Addr
 Plan:Addr
 Reach:Addr
 cV:Addr
 aN:Addr
 Desk:Addr
structure Txt(K:PySem.W.Frag)(mg:Str->Option Value)(A:Ad):Prop where
 d8:∃t,mg "MINUTES_OF_DAY"=some (.int (1440) t)
 gB:∃t,mg "DAYS_OF_WEEK"=some (.int (7) t)
 lI:∃t,mg "MOST_STOPS"=some (.int (10) t)
 lK:∃t,mg "MOST_WALKS"=some (.int (12) t)
 lL:∃t,mg "MOST_TRIPS"=some (.int (12) t)
 j9:∃t,mg "MOST_CHANGE"=some (.int (120) t)
 fi:∃t,mg "MOST_WALK_MINUTES"=some (.int (240) t)
 mT:∃t,mg "MOST_DAYS"=some (.int (127) t)
 i9:∃t,mg "FEWEST_CALLS"=some (.int (2) t)
 lM:∃t,mg "MOST_CALLS"=some (.int (64) t)
 ja:∃t,mg "END_OF_TRIPS"=some (.int (2880) t)
 gT:∃t,mg "MOST_LATE_CALL"=some (.int (63) t)
 fj:∃t,mg "MOST_LATE_MINUTES"=some (.int (240) t)
 jb:∃t,mg "MOST_ZONES"=some (.int (8) t)
 iz:∃t,mg "MOST_PRODUCTS"=some (.int (8) t)
 lN:∃t,mg "MOST_PRICE"=some (.int (1000000) t)
 jc:∃t,mg "MOST_MINUTES"=some (.int (1000000) t)
 jd:∃t,mg "MOST_PERSONS"=some (.int (9) t)
 yh:∃t,mg "FRESH"=some (.int (0) t)
 DZ:∃t,mg "OFF"=some (.int (1) t)
 ot:∃t,mg "BEHIND"=some (.int (2) t)
 vK:∃t,mg "WALK"=some (.int (-1) t)
 ka:∃t,mg "NEVER"=some (.int (1000000) t)
 gr:∃t,mg "LAST_MINUTE_OUT"=some (.int (2879) t)
 fm:∃t,mg "MOST_RIDES_PRICED"=some (.int (7) t)
 dF:mg "len"=none
 pq:mg "range"=none
 G8:mg "min"=none
 D0:mg "max"=none
 Kp:mg "list"=none
 gC:mg "enumerate"=none
 FA:mg "reversed"=none
 Kq:mg "sorted"=none
 kd:tm K A.Stop
 ke:aT K A.Stop "change"
 wO:aT K A.Stop "zone"
 dm:tm K A.Walk
 gU:aT K A.Walk "start"
 jR:aT K A.Walk "end"
 gD:aT K A.Walk "minutes"
 bw:tm K A.Call
 cC:aT K A.Call "stop"
 dq:aT K A.Call "comes"
 dY:aT K A.Call "goes"
 fo:tm K A.Trip
 wQ:aT K A.Trip "days"
 uE:aT K A.Trip "calls"
 fz:aT K A.Trip "late_call"
 hG:aT K A.Trip "late_minutes"
 je:tm K A.Run
 y4:aT K A.Run "trip"
 By:aT K A.Run "day"
 iT:aT K A.Run "calls"
 az:tm K A.aJ
 lh:aT K A.aJ "weekday"
 aS:aT K A.aJ "stops"
 cg:aT K A.aJ "walks"
 ck:aT K A.aJ "trips"
 bL:tm K A.Product
 hU:aT K A.Product "any_zones"
 qa:aT K A.Product "zones"
 iA:aT K A.Product "price"
 mU:aT K A.Product "minutes"
 qb:aT K A.Product "begin"
 sJ:aT K A.Product "end"
 kh:tm K A.xy
 wR:aT K A.xy "goes"
 uF:aT K A.xy "comes"
 uG:aT K A.xy "zones"
 fA:tm K A.mS
 ki:aT K A.mS "price"
 pw:aT K A.mS "ways"
 qc:aT K A.mS "product"
 bV:tm K A.bK
 fB:aT K A.bK "price"
 iB:aT K A.bK "ways"
 iH:aT K A.bK "tickets"
 bI:tm K A.c7
 fY:aT K A.c7 "zones"
 fV:aT K A.c7 "borders"
 fC:aT K A.c7 "products"
 bJ:tm K A.Place
 dS:aT K A.Place "stop"
 cw:aT K A.Place "minute"
 kE:aT K A.Place "how"
 iC:tm K A.Plan
 sL:aT K A.Plan "minute"
 uH:aT K A.Plan "rides"
 mV:aT K A.Plan "legs"
 b8:tm K A.Reach
 jf:aT K A.Reach "timetable"
 fZ:aT K A.Reach "there"
 gb:aT K A.Reach "ready"
 cN:tm K A.cV
 jg:aT K A.cV "off"
 kF:aT K A.cV "behind"
 aE:tm K A.aN
 cn:aT K A.aN "place"
 ou:aT K A.aN "goal"
 bC:aT K A.aN "legs"
 dU:aT K A.aN "rides_made"
 bU:tm K A.Desk
 gW:aT K A.Desk "fares"
 bD:aT K A.Desk "timetable"
 de:aT K A.Desk "traveller"
theorem OM{α:Type}{P:List α->Prop}(h:∀a,P [a])(us:List α)(e:us.length=1):P us:=match us,e with|[a],_=>h a
theorem Kr{α:Type}{P:List α->Prop}(h:∀a b,P [a,b])(us:List α)(e:us.length=2):P us:=match us,e with|[a,b],_=>h a b
theorem y6{α:Type}{P:List α->Prop}(h:∀a b c,P [a,b,c])(us:List α)(e:us.length=3):P us:=match us,e with|[a,b,c],_=>h a b c
theorem ON{α:Type}{P:List α->Prop}(h:∀a b c d,P [a,b,c,d])(us:List α)(e:us.length=4):P us:=match us,e with|[a,b,c,d],_=>h a b c d
theorem OO{α:Type}{P:List α->Prop}(h:∀a b c d e,P [a,b,c,d,e])(us:List α)(e:us.length=5):P us:=match us,e with|[a,b,c,d,e],_=>h a b c d e
theorem VX{α:Type}{P:List α->Prop}(h:∀a b c d e f,P [a,b,c,d,e,f])(us:List α)(e:us.length=6):P us:=match us,e with|[a,b,c,d,e,f],_=>h a b c d e f
theorem OP{α:Type}{P:List α->Prop}(h:∀a b c d e f g,P [a,b,c,d,e,f,g])(us:List α)(e:us.length=7):P us:=match us,e with|[a,b,c,d,e,f,g],_=>h a b c d e f g
section
variable{P:Program}{w:World}{K:PySem.W.Frag}{mg:Str->Option Value}{base:Heap}{A:Ad}
abbrev rf:Stmt:=inClass (top 14) 0
theorem Cp:aB ["self","change","zone"] ["self","change","zone"] (ao rf):=sm
theorem Cq{f:Addr}{fd:FuncData}(F:eH K "__init__" "Stop.__init__" rf f fd)(T:Txt K mg A):bq P w K mg base eD 1 f fd ["self","change","zone"] (uD A.Stop ["change","zone"]):=by
 refine F.ok Cp (fun vs H Q E h=> ?_) (fun dz Ar outer s H vs Q E hr h=> ?_)
 . obtain⟨p,dx,us,rfl,hl,_⟩:=h
   simpa using hl
 obtain⟨p,dx,us,rfl,hl,hp,k⟩:=h
 revert k hl us
 refine Kr fun v0 v1 k=> ?_
 refine⟨_,(ae (aU (pv 0) (pv 1) rfl)
  (ah (aU (pv 0) (pv 2) rfl))), ?_⟩
 refine⟨_,U,_,U,p,_,dx,_,U,hp,T.kd,T.ke,Ud, ?_⟩
 rw[show bc "change" v0 ([]:aV)=([("change",v0)]:aV)from aI (ns:=[]) rfl (by decide+kernel)]
 refine⟨_,U,_,U,p,_,dx,_,U,af,T.kd,T.wO,Ud, ?_⟩
 rw[aL]
 rw[show bc "zone" v1 ([("change",v0)]:aV)=([("change",v0),("zone",v1)]:aV)from aI (ns:=["change"]) rfl (by decide+kernel)]
 exact k
abbrev rg:Stmt:=inClass (top 15) 0
theorem Cr:aB ["self","start","end","minutes"] ["self","start","end","minutes"] (ao rg):=sm
theorem Cs{f:Addr}{fd:FuncData}(F:eH K "__init__" "Walk.__init__" rg f fd)(T:Txt K mg A):bq P w K mg base eD 1 f fd ["self","start","end","minutes"] (uD A.Walk ["start","end","minutes"]):=by
 refine F.ok Cr (fun vs H Q E h=> ?_) (fun dz Ar outer s H vs Q E hr h=> ?_)
 . obtain⟨p,dx,us,rfl,hl,_⟩:=h
   simpa using hl
 obtain⟨p,dx,us,rfl,hl,hp,k⟩:=h
 revert k hl us
 refine y6 fun v0 v1 v2 k=> ?_
 refine⟨_,(ae (aU (pv 0) (pv 1) rfl)
  (ae (aU (pv 0) (pv 2) rfl)
  (ah (aU (pv 0) (pv 3) rfl)))), ?_⟩
 refine⟨_,U,_,U,p,_,dx,_,U,hp,T.dm,T.gU,Ud, ?_⟩
 rw[show bc "start" v0 ([]:aV)=([("start",v0)]:aV)from aI (ns:=[]) rfl (by decide+kernel)]
 refine⟨_,U,_,U,p,_,dx,_,U,af,T.dm,T.jR,Ud, ?_⟩
 rw[aL]
 rw[show bc "end" v1 ([("start",v0)]:aV)=([("start",v0),("end",v1)]:aV)from aI (ns:=["start"]) rfl (by decide+kernel)]
 refine⟨_,U,_,U,p,_,dx,_,U,af,T.dm,T.gD,Ud, ?_⟩
 rw[aL]
 rw[show bc "minutes" v2 ([("start",v0),("end",v1)]:aV)=([("start",v0),("end",v1),("minutes",v2)]:aV)from aI (ns:=["start","end"]) rfl (by decide+kernel)]
 exact k
abbrev rh:Stmt:=inClass (top 16) 0
theorem Ct:aB ["self","stop","comes","goes"] ["self","stop","comes","goes"] (ao rh):=sm
theorem Cu{f:Addr}{fd:FuncData}(F:eH K "__init__" "Call.__init__" rh f fd)(T:Txt K mg A):bq P w K mg base eD 1 f fd ["self","stop","comes","goes"] (uD A.Call ["stop","comes","goes"]):=by
 refine F.ok Ct (fun vs H Q E h=> ?_) (fun dz Ar outer s H vs Q E hr h=> ?_)
 . obtain⟨p,dx,us,rfl,hl,_⟩:=h
   simpa using hl
 obtain⟨p,dx,us,rfl,hl,hp,k⟩:=h
 revert k hl us
 refine y6 fun v0 v1 v2 k=> ?_
 refine⟨_,(ae (aU (pv 0) (pv 1) rfl)
  (ae (aU (pv 0) (pv 2) rfl)
  (ah (aU (pv 0) (pv 3) rfl)))), ?_⟩
 refine⟨_,U,_,U,p,_,dx,_,U,hp,T.bw,T.cC,Ud, ?_⟩
 rw[show bc "stop" v0 ([]:aV)=([("stop",v0)]:aV)from aI (ns:=[]) rfl (by decide+kernel)]
 refine⟨_,U,_,U,p,_,dx,_,U,af,T.bw,T.dq,Ud, ?_⟩
 rw[aL]
 rw[show bc "comes" v1 ([("stop",v0)]:aV)=([("stop",v0),("comes",v1)]:aV)from aI (ns:=["stop"]) rfl (by decide+kernel)]
 refine⟨_,U,_,U,p,_,dx,_,U,af,T.bw,T.dY,Ud, ?_⟩
 rw[aL]
 rw[show bc "goes" v2 ([("stop",v0),("comes",v1)]:aV)=([("stop",v0),("comes",v1),("goes",v2)]:aV)from aI (ns:=["stop","comes"]) rfl (by decide+kernel)]
 exact k
abbrev tN:Stmt:=inClass (top 18) 0
theorem D6:aB ["self","trip","day","calls"] ["self","trip","day","calls"] (ao tN):=sm
theorem D7{f:Addr}{fd:FuncData}(F:eH K "__init__" "Run.__init__" tN f fd)(T:Txt K mg A):bq P w K mg base eD 1 f fd ["self","trip","day","calls"] (uD A.Run ["trip","day","calls"]):=by
 refine F.ok D6 (fun vs H Q E h=> ?_) (fun dz Ar outer s H vs Q E hr h=> ?_)
 . obtain⟨p,dx,us,rfl,hl,_⟩:=h
   simpa using hl
 obtain⟨p,dx,us,rfl,hl,hp,k⟩:=h
 revert k hl us
 refine y6 fun v0 v1 v2 k=> ?_
 refine⟨_,(ae (aU (pv 0) (pv 1) rfl)
  (ae (aU (pv 0) (pv 2) rfl)
  (ah (aU (pv 0) (pv 3) rfl)))), ?_⟩
 refine⟨_,U,_,U,p,_,dx,_,U,hp,T.je,T.y4,Ud, ?_⟩
 rw[show bc "trip" v0 ([]:aV)=([("trip",v0)]:aV)from aI (ns:=[]) rfl (by decide+kernel)]
 refine⟨_,U,_,U,p,_,dx,_,U,af,T.je,T.By,Ud, ?_⟩
 rw[aL]
 rw[show bc "day" v1 ([("trip",v0)]:aV)=([("trip",v0),("day",v1)]:aV)from aI (ns:=["trip"]) rfl (by decide+kernel)]
 refine⟨_,U,_,U,p,_,dx,_,U,af,T.je,T.iT,Ud, ?_⟩
 rw[aL]
 rw[show bc "calls" v2 ([("trip",v0),("day",v1)]:aV)=([("trip",v0),("day",v1),("calls",v2)]:aV)from aI (ns:=["trip","day"]) rfl (by decide+kernel)]
 exact k
abbrev l9:Stmt:=inClass (top 29) 0
theorem xA:aB ["self","any_zones","zones","price","minutes","begin","end"] ["self","any_zones","zones","price","minutes","begin","end"] (ao l9):=sm
theorem xB{f:Addr}{fd:FuncData}(F:eH K "__init__" "Product.__init__" l9 f fd)(T:Txt K mg A):bq P w K mg base eD 1 f fd ["self","any_zones","zones","price","minutes","begin","end"] (uD A.Product ["any_zones","zones","price","minutes","begin","end"]):=by
 refine F.ok xA (fun vs H Q E h=> ?_) (fun dz Ar outer s H vs Q E hr h=> ?_)
 . obtain⟨p,dx,us,rfl,hl,_⟩:=h
   simpa using hl
 obtain⟨p,dx,us,rfl,hl,hp,k⟩:=h
 revert k hl us
 refine VX fun v0 v1 v2 v3 v4 v5 k=> ?_
 refine⟨_,(ae (aU (pv 0) (pv 1) rfl)
  (ae (aU (pv 0) (pv 2) rfl)
  (ae (aU (pv 0) (pv 3) rfl)
  (ae (aU (pv 0) (pv 4) rfl)
  (ae (aU (pv 0) (pv 5) rfl)
  (ah (aU (pv 0) (pv 6) rfl))))))), ?_⟩
 refine⟨_,U,_,U,p,_,dx,_,U,hp,T.bL,T.hU,Ud, ?_⟩
 rw[show bc "any_zones" v0 ([]:aV)=([("any_zones",v0)]:aV)from aI (ns:=[]) rfl (by decide+kernel)]
 refine⟨_,U,_,U,p,_,dx,_,U,af,T.bL,T.qa,Ud, ?_⟩
 rw[aL]
 rw[show bc "zones" v1 ([("any_zones",v0)]:aV)=([("any_zones",v0),("zones",v1)]:aV)from aI (ns:=["any_zones"]) rfl (by decide+kernel)]
 refine⟨_,U,_,U,p,_,dx,_,U,af,T.bL,T.iA,Ud, ?_⟩
 rw[aL]
 rw[show bc "price" v2 ([("any_zones",v0),("zones",v1)]:aV)=([("any_zones",v0),("zones",v1),("price",v2)]:aV)from aI (ns:=["any_zones","zones"]) rfl (by decide+kernel)]
 refine⟨_,U,_,U,p,_,dx,_,U,af,T.bL,T.mU,Ud, ?_⟩
 rw[aL]
 rw[show bc "minutes" v3 ([("any_zones",v0),("zones",v1),("price",v2)]:aV)=([("any_zones",v0),("zones",v1),("price",v2),("minutes",v3)]:aV)from aI (ns:=["any_zones","zones","price"]) rfl (by decide+kernel)]
 refine⟨_,U,_,U,p,_,dx,_,U,af,T.bL,T.qb,Ud, ?_⟩
 rw[aL]
 rw[show bc "begin" v4 ([("any_zones",v0),("zones",v1),("price",v2),("minutes",v3)]:aV)=([("any_zones",v0),("zones",v1),("price",v2),("minutes",v3),("begin",v4)]:aV)from aI (ns:=["any_zones","zones","price","minutes"]) rfl (by decide+kernel)]
 refine⟨_,U,_,U,p,_,dx,_,U,af,T.bL,T.sJ,Ud, ?_⟩
 rw[aL]
 rw[show bc "end" v5 ([("any_zones",v0),("zones",v1),("price",v2),("minutes",v3),("begin",v4)]:aV)=([("any_zones",v0),("zones",v1),("price",v2),("minutes",v3),("begin",v4),("end",v5)]:aV)from aI (ns:=["any_zones","zones","price","minutes","begin"]) rfl (by decide+kernel)]
 exact k
abbrev rj:Stmt:=inClass (top 30) 0
theorem Cv:aB ["self","goes","comes","zones"] ["self","goes","comes","zones"] (ao rj):=sm
theorem Cw{f:Addr}{fd:FuncData}(F:eH K "__init__" "Ride.__init__" rj f fd)(T:Txt K mg A):bq P w K mg base eD 1 f fd ["self","goes","comes","zones"] (uD A.xy ["goes","comes","zones"]):=by
 refine F.ok Cv (fun vs H Q E h=> ?_) (fun dz Ar outer s H vs Q E hr h=> ?_)
 . obtain⟨p,dx,us,rfl,hl,_⟩:=h
   simpa using hl
 obtain⟨p,dx,us,rfl,hl,hp,k⟩:=h
 revert k hl us
 refine y6 fun v0 v1 v2 k=> ?_
 refine⟨_,(ae (aU (pv 0) (pv 1) rfl)
  (ae (aU (pv 0) (pv 2) rfl)
  (ah (aU (pv 0) (pv 3) rfl)))), ?_⟩
 refine⟨_,U,_,U,p,_,dx,_,U,hp,T.kh,T.wR,Ud, ?_⟩
 rw[show bc "goes" v0 ([]:aV)=([("goes",v0)]:aV)from aI (ns:=[]) rfl (by decide+kernel)]
 refine⟨_,U,_,U,p,_,dx,_,U,af,T.kh,T.uF,Ud, ?_⟩
 rw[aL]
 rw[show bc "comes" v1 ([("goes",v0)]:aV)=([("goes",v0),("comes",v1)]:aV)from aI (ns:=["goes"]) rfl (by decide+kernel)]
 refine⟨_,U,_,U,p,_,dx,_,U,af,T.kh,T.uG,Ud, ?_⟩
 rw[aL]
 rw[show bc "zones" v2 ([("goes",v0),("comes",v1)]:aV)=([("goes",v0),("comes",v1),("zones",v2)]:aV)from aI (ns:=["goes","comes"]) rfl (by decide+kernel)]
 exact k
abbrev pz:Stmt:=inClass (top 31) 0
theorem Ao:aB ["self","price","ways","product"] ["self","price","ways","product"] (ao pz):=sm
theorem Ap{f:Addr}{fd:FuncData}(F:eH K "__init__" "Offer.__init__" pz f fd)(T:Txt K mg A):bq P w K mg base eD 1 f fd ["self","price","ways","product"] (uD A.mS ["price","ways","product"]):=by
 refine F.ok Ao (fun vs H Q E h=> ?_) (fun dz Ar outer s H vs Q E hr h=> ?_)
 . obtain⟨p,dx,us,rfl,hl,_⟩:=h
   simpa using hl
 obtain⟨p,dx,us,rfl,hl,hp,k⟩:=h
 revert k hl us
 refine y6 fun v0 v1 v2 k=> ?_
 refine⟨_,(ae (aU (pv 0) (pv 1) rfl)
  (ae (aU (pv 0) (pv 2) rfl)
  (ah (aU (pv 0) (pv 3) rfl)))), ?_⟩
 refine⟨_,U,_,U,p,_,dx,_,U,hp,T.fA,T.ki,Ud, ?_⟩
 rw[show bc "price" v0 ([]:aV)=([("price",v0)]:aV)from aI (ns:=[]) rfl (by decide+kernel)]
 refine⟨_,U,_,U,p,_,dx,_,U,af,T.fA,T.pw,Ud, ?_⟩
 rw[aL]
 rw[show bc "ways" v1 ([("price",v0)]:aV)=([("price",v0),("ways",v1)]:aV)from aI (ns:=["price"]) rfl (by decide+kernel)]
 refine⟨_,U,_,U,p,_,dx,_,U,af,T.fA,T.qc,Ud, ?_⟩
 rw[aL]
 rw[show bc "product" v2 ([("price",v0),("ways",v1)]:aV)=([("price",v0),("ways",v1),("product",v2)]:aV)from aI (ns:=["price","ways"]) rfl (by decide+kernel)]
 exact k
abbrev kQ:Stmt:=inClass (top 32) 0
theorem vL:aB ["self","price","ways","tickets"] ["self","price","ways","tickets"] (ao kQ):=sm
theorem vM{f:Addr}{fd:FuncData}(F:eH K "__init__" "Purchase.__init__" kQ f fd)(T:Txt K mg A):bq P w K mg base eD 1 f fd ["self","price","ways","tickets"] (uD A.bK ["price","ways","tickets"]):=by
 refine F.ok vL (fun vs H Q E h=> ?_) (fun dz Ar outer s H vs Q E hr h=> ?_)
 . obtain⟨p,dx,us,rfl,hl,_⟩:=h
   simpa using hl
 obtain⟨p,dx,us,rfl,hl,hp,k⟩:=h
 revert k hl us
 refine y6 fun v0 v1 v2 k=> ?_
 refine⟨_,(ae (aU (pv 0) (pv 1) rfl)
  (ae (aU (pv 0) (pv 2) rfl)
  (ah (aU (pv 0) (pv 3) rfl)))), ?_⟩
 refine⟨_,U,_,U,p,_,dx,_,U,hp,T.bV,T.fB,Ud, ?_⟩
 rw[show bc "price" v0 ([]:aV)=([("price",v0)]:aV)from aI (ns:=[]) rfl (by decide+kernel)]
 refine⟨_,U,_,U,p,_,dx,_,U,af,T.bV,T.iB,Ud, ?_⟩
 rw[aL]
 rw[show bc "ways" v1 ([("price",v0)]:aV)=([("price",v0),("ways",v1)]:aV)from aI (ns:=["price"]) rfl (by decide+kernel)]
 refine⟨_,U,_,U,p,_,dx,_,U,af,T.bV,T.iH,Ud, ?_⟩
 rw[aL]
 rw[show bc "tickets" v2 ([("price",v0),("ways",v1)]:aV)=([("price",v0),("ways",v1),("tickets",v2)]:aV)from aI (ns:=["price","ways"]) rfl (by decide+kernel)]
 exact k
abbrev pA:Stmt:=inClass (top 43) 0
theorem Aq:aB ["self","stop","minute","how"] ["self","stop","minute","how"] (ao pA):=sm
theorem As{f:Addr}{fd:FuncData}(F:eH K "__init__" "Place.__init__" pA f fd)(T:Txt K mg A):bq P w K mg base eD 1 f fd ["self","stop","minute","how"] (uD A.Place ["stop","minute","how"]):=by
 refine F.ok Aq (fun vs H Q E h=> ?_) (fun dz Ar outer s H vs Q E hr h=> ?_)
 . obtain⟨p,dx,us,rfl,hl,_⟩:=h
   simpa using hl
 obtain⟨p,dx,us,rfl,hl,hp,k⟩:=h
 revert k hl us
 refine y6 fun v0 v1 v2 k=> ?_
 refine⟨_,(ae (aU (pv 0) (pv 1) rfl)
  (ae (aU (pv 0) (pv 2) rfl)
  (ah (aU (pv 0) (pv 3) rfl)))), ?_⟩
 refine⟨_,U,_,U,p,_,dx,_,U,hp,T.bJ,T.dS,Ud, ?_⟩
 rw[show bc "stop" v0 ([]:aV)=([("stop",v0)]:aV)from aI (ns:=[]) rfl (by decide+kernel)]
 refine⟨_,U,_,U,p,_,dx,_,U,af,T.bJ,T.cw,Ud, ?_⟩
 rw[aL]
 rw[show bc "minute" v1 ([("stop",v0)]:aV)=([("stop",v0),("minute",v1)]:aV)from aI (ns:=["stop"]) rfl (by decide+kernel)]
 refine⟨_,U,_,U,p,_,dx,_,U,af,T.bJ,T.kE,Ud, ?_⟩
 rw[aL]
 rw[show bc "how" v2 ([("stop",v0),("minute",v1)]:aV)=([("stop",v0),("minute",v1),("how",v2)]:aV)from aI (ns:=["stop","minute"]) rfl (by decide+kernel)]
 exact k
abbrev rk:Stmt:=inClass (top 44) 0
theorem Cy:aB ["self","minute","rides","legs"] ["self","minute","rides","legs"] (ao rk):=sm
theorem Cz{f:Addr}{fd:FuncData}(F:eH K "__init__" "Plan.__init__" rk f fd)(T:Txt K mg A):bq P w K mg base eD 1 f fd ["self","minute","rides","legs"] (uD A.Plan ["minute","rides","legs"]):=by
 refine F.ok Cy (fun vs H Q E h=> ?_) (fun dz Ar outer s H vs Q E hr h=> ?_)
 . obtain⟨p,dx,us,rfl,hl,_⟩:=h
   simpa using hl
 obtain⟨p,dx,us,rfl,hl,hp,k⟩:=h
 revert k hl us
 refine y6 fun v0 v1 v2 k=> ?_
 refine⟨_,(ae (aU (pv 0) (pv 1) rfl)
  (ae (aU (pv 0) (pv 2) rfl)
  (ah (aU (pv 0) (pv 3) rfl)))), ?_⟩
 refine⟨_,U,_,U,p,_,dx,_,U,hp,T.iC,T.sL,Ud, ?_⟩
 rw[show bc "minute" v0 ([]:aV)=([("minute",v0)]:aV)from aI (ns:=[]) rfl (by decide+kernel)]
 refine⟨_,U,_,U,p,_,dx,_,U,af,T.iC,T.uH,Ud, ?_⟩
 rw[aL]
 rw[show bc "rides" v1 ([("minute",v0)]:aV)=([("minute",v0),("rides",v1)]:aV)from aI (ns:=["minute"]) rfl (by decide+kernel)]
 refine⟨_,U,_,U,p,_,dx,_,U,af,T.iC,T.mV,Ud, ?_⟩
 rw[aL]
 rw[show bc "legs" v2 ([("minute",v0),("rides",v1)]:aV)=([("minute",v0),("rides",v1),("legs",v2)]:aV)from aI (ns:=["minute","rides"]) rfl (by decide+kernel)]
 exact k
abbrev iI:Stmt:=inClass (top 50) 0
theorem sC:aB ["self","off","behind"] ["self","off","behind"] (ao iI):=sm
theorem sD{f:Addr}{fd:FuncData}(F:eH K "__init__" "LastMinutes.__init__" iI f fd)(T:Txt K mg A):bq P w K mg base eD 1 f fd ["self","off","behind"] (uD A.cV ["off","behind"]):=by
 refine F.ok sC (fun vs H Q E h=> ?_) (fun dz Ar outer s H vs Q E hr h=> ?_)
 . obtain⟨p,dx,us,rfl,hl,_⟩:=h
   simpa using hl
 obtain⟨p,dx,us,rfl,hl,hp,k⟩:=h
 revert k hl us
 refine Kr fun v0 v1 k=> ?_
 refine⟨_,(ae (aU (pv 0) (pv 1) rfl)
  (ah (aU (pv 0) (pv 2) rfl))), ?_⟩
 refine⟨_,U,_,U,p,_,dx,_,U,hp,T.cN,T.jg,Ud, ?_⟩
 rw[show bc "off" v0 ([]:aV)=([("off",v0)]:aV)from aI (ns:=[]) rfl (by decide+kernel)]
 refine⟨_,U,_,U,p,_,dx,_,U,af,T.cN,T.kF,Ud, ?_⟩
 rw[aL]
 rw[show bc "behind" v1 ([("off",v0)]:aV)=([("off",v0),("behind",v1)]:aV)from aI (ns:=["off"]) rfl (by decide+kernel)]
 exact k
end
theorem uI(a b:Nat):Builtin.bitAnd (a:Int) (b:Int)=((a&&&b:Nat):Int):=by
 unfold Builtin.bitAnd
 rw[decide_eq_true (show(0:Int)<=(a:Int) by lia),decide_eq_true (show(0:Int)<=(b:Int) by lia)]
 rfl
theorem uJ(x:Int):Builtin.bitNot (Builtin.bitNot x)=x:=by unfold Builtin.bitNot;lia
theorem pB(a b:Nat):Builtin.bitOr (a:Int) (b:Int)=((a|||b:Nat):Int):=by
 unfold Builtin.bitOr Builtin.bitAnd
 rw[decide_eq_false (show¬(0:Int)<=Builtin.bitNot (a:Int) by unfold Builtin.bitNot;lia),decide_eq_false (show¬(0:Int)<=Builtin.bitNot (b:Int) by unfold Builtin.bitNot;lia)]
 dsimp only
 rw[uJ,uJ,uJ]
 rfl
theorem G9:∀(n a b:Nat),a<2^n->(∀i,a.testBit i=true->b.testBit i=false)->a+b=a|||b
 |0,a,b,h,_=>by
  have:a=0:=by simpa using h
  subst this
  simp
 |n+1,a,b,h,hd=>by
  have ih:=G9 n (a/2) (b/2) (by rw[Nat.pow_succ]at h;lia) (fun i hi=>by
   rw[Nat.testBit_div_two]at hi⊢
   exact hd (i+1) hi)
  have h0:=hd 0
  have e1:(a|||b)/2=a/2|||b/2:=Nat.or_div_two
  have e2:(a|||b).testBit 0=(a.testBit 0||b.testBit 0):=acD ..
  rw[acV,acV,acV]at e2
  rw[acV,acV]at h0
  have e4:(a|||b)%2=1↔(a%2=1\/b%2=1):=by
   rw[<-decide_eq_true_iff (p:=(a|||b)%2=1),e2]
   simp
  have h1:a%2=1->¬b%2=1:=fun q=>by simpa using h0 (by simpa using q)
  lia
theorem Mx(x s:Nat):x-(x&&&s)=x^^^(x&&&s):=by
 have hd:∀i,(x&&&s).testBit i=true->(x^^^(x&&&s)).testBit i=false:=by
  intro i hi
  rw[acK]at hi
  rw[Nat.testBit_xor,acK]
  cases e1:x.testBit i<;>cases e2:s.testBit i<;>simp_all
 have:=G9 (bl (x&&&s)) (x&&&s) (x^^^(x&&&s)) (Ki _) hd
 have e:(x&&&s)|||(x^^^(x&&&s))=x:=by
  apply acC
  intro i
  rw[acD,Nat.testBit_xor,acK]
  cases x.testBit i<;>cases s.testBit i<;>rfl
 rw[e]at this
 lia
theorem D8(x s:Nat):Builtin.bitAnd (x:Int) (Builtin.bitNot (s:Int))=((x^^^(x&&&s):Nat):Int):=by
 unfold Builtin.bitAnd
 rw[decide_eq_true (show(0:Int)<=(x:Int) by lia),decide_eq_false (show¬(0:Int)<=Builtin.bitNot (s:Int) by unfold Builtin.bitNot;lia)]
 dsimp only
 rw[uJ,<-Mx]
 have:=Nat.and_le_left (n:=x) (m:=s)
 show(x:Int)-((x&&&s:Nat):Int)=_
 lia
theorem Ks(m g:Nat)(h:hasAll m g=true):Builtin.bitXor (m:Int) (g:Int)=((m-g:Nat):Int)/\g<=m:=by
 have h1:m&&&g=g:=by unfold hasAll at h;simpa using h
 have h2:m|||g=m:=by
  apply acC
  intro i
  rw[acD]
  have:=(jQ.mp h) i
  cases e:g.testBit i<;>simp_all
 have h3:g<=m:=by rw[<-h1];exact Nat.and_le_left
 unfold Builtin.bitXor
 rw[pB,uI,h1,h2]
 exact⟨by lia,h3⟩
theorem wU(n:Nat):Builtin.Int.intBits (n:Int)=bl n:=by
 unfold Builtin.Int.intBits bl
 by_cases h:n=0
 . subst h
   rfl
 rw[if_neg h,if_neg (by simp;lia)]
 rfl
theorem CA(n i:Nat):decide ((V.int (Builtin.bitAnd ((n:Int)/2^((i:Int)).toNat) 1))=V.int 1)=n.testBit i:=by
 have e:(n:Int)/2^((i:Int)).toNat=((n/2^i:Nat):Int):=by
  rw[abY]
  rw[Int.natCast_ediv,Int.natCast_pow]
  rfl
 rw[e,show(1:Int)=((1:Nat):Int)from rfl,uI,acF,Nat.and_one_is_mod]
 by_cases h:n/2^i%2=1
 . rw[h]
   simp
 have:n/2^i%2=0:=by lia
 rw[this]
 simp
theorem mW(i:Nat):(1:Int)*2^((i:Int)).toNat=((2^i:Nat):Int):=by
 rw[abY,Int.one_mul,Int.natCast_pow]
 rfl
noncomputable def b9(l:List Nat):List V:=l.map fun n=>V.int ((n:Nat):Int)
theorem mX{l:List Nat}{i n:Nat}(h:l[i]?=some n):(b9 l)[i]?=some (.int (n:Int)):=by
 unfold b9
 rw[abV,h]
 rfl
theorem cX{l:List Nat}:(b9 l).length=l.length:=by simp[b9]
section
variable{P:Program}{w:World}{K:PySem.W.Frag}{mg:Str->Option Value}{base:Heap}{A:Ad}
def uK:Sp:=fun vs H Q _=>∃a b:Nat,vs=[.int a, .int b]/\Q (.bl (hasAll a b)) H
abbrev vN:Stmt:=top 28
theorem FC:aB ["numbers","wanted"] ["numbers","wanted"] (ao vN):=sm
theorem FD{f:Addr}{fd:FuncData}(F:eH K "has_all" "has_all" vN f fd):bq P w K mg base eD 1 f fd ["numbers","wanted"] uK:=by
 refine F.ok FC (fun vs H Q E h=> ?_) (fun dz Ar outer s H vs Q E hr h=> ?_)
 . obtain⟨a,b,rfl,_⟩:=h
   rfl
 obtain⟨a,b,rfl,k⟩:=h
 refine⟨_,(ah (aA (oN ku (bA vz (pv 0) (pv 1)) (pv 1) nk))), ?_⟩
 refine⟨_,U,_,U,_,_,U,U,_,U,U, ?_⟩
 have e:decide (V.int (Builtin.bitAnd (a:Int) (b:Int))=V.int (b:Int))=hasAll a b:=by
  rw[uI]
  unfold hasAll
  by_cases c:a&&&b=b
  . rw[c]
    simp
  rw[decide_eq_false c,decide_eq_false]
  intro q
  injection q with q
  lia
 rw[e]
 exact k
def lR:Sp:=fun vs H Q _=>∃n:Nat,vs=[.int n]/\bl n<=1000/\∀p,H p=none->Q (.ref p) (upd H p (.lst (b9 (mem n))))
abbrev vO:Stmt:=top 26
theorem tO:aB ["numbers","i"] ["numbers"] (ao vO):=sm
theorem FE{f:Addr}{fd:FuncData}(F:eH K "members" "members" vO f fd)(T:Txt K mg A):bq P w K mg base eD 1 f fd ["numbers"] lR:=by
 refine F.ok tO (fun vs H Q E h=> ?_) (fun dz Ar outer s H vs Q E hr h=> ?_)
 . obtain⟨n,rfl,_⟩:=h
   rfl
 obtain⟨n,rfl,hn,k⟩:=h
 refine⟨_,(ah (aA (wB rfl tO.nd (AV rfl T.pq (aa (JT PySem.F.plainAttrs_int PySem.F.slot_int_bit_length PySem.F.type_int_bit_length Mv (pv 0)) ag)) (ee (own:=[("i",1)]) (by rfl)) (fun _ _ _ _ _=>(aX (i:=1) tO.nd rfl oi)) (fun _ _ _ _ _=>B6 (ay ku (bA vz (bA Fb (pv 0) (pv 1)) aj) aj nk)) (fun _ _ _ _ _=>(pv 1))))), ?_⟩
 refine⟨_,U,U,_,U,U,_,U, ?_, ?_, ?_⟩
 . show -(2^62)<=((Builtin.Int.intBits (n:Int):Nat):Int)
   lia
 . show((Builtin.Int.intBits (n:Int):Nat):Int)<2^62
   rw[wU]
   lia
 intro D hD
 rw[abY,wU]
 refine yE (fun i H'=>H'=upd H D (.lst (b9 ((List.range i).filter fun j=>n.testBit j)))) rfl ?_ ?_
 . rintro i H' hi rfl
   refine⟨U,_,U,_,U,_,_,U,U, ?_,_,_,U,U,U,_,U, ?_⟩
   . show(0:Int)<=0+(i:Int)
     lia
   rw[show(0:Int)+(i:Int)=(i:Int) by lia]
   rw[CA]
   rw[ach,acJ]
   refine aK (fun c=> ?_) (fun c=> ?_)
   . refine⟨_,U,_,af, ?_, ?_⟩
     . rw[cX]
       refine acW (acN _ _) ?_
       rw[acL]
       exact abe hi (abk hn (by decide))
     rw[aL,acP,if_pos c]
     unfold b9
     rw[acX]
     rfl
   show upd H D _=upd H D _
   rw[acP,if_neg c,List.filter_nil,abM]
 rintro H' rfl
 exact k D hD
end
def qd(H H':Hp):Prop:=∀(b C dx:Addr)(fs:aV),H b=some (.ins C dx fs)->H' b=some (.ins C dx fs)
theorem qd.trans {H H1 H2:Hp} (a:qd H H1) (b:qd H1 H2):qd H H2:=fun c C dx fs h=>b _ _ _ _ (a _ _ _ _ h)
theorem c8{H H':Hp}(s:ak H H'):qd H H':=fun b C dx fs h=>s _ _ h
theorem fD{H:Hp}{l:Addr}{xs:List V}{o:HO}(h:H l=some (.lst xs)):qd H (upd H l o):=fun b C dx fs e=>by
 rw[au (bH e h (by intro q;cases q))]
 exact e
def y8{α:Type}(P:Hp->Addr->α->Prop):Prop:=∀(H H':Hp)(a:Addr)(x:α),qd H H'->P H a x->P H' a x
section
variable(A:Ad)
def y9(H:Hp)(a:Addr)(x:Nat×Nat):Prop:=∃dx,H a=some (.ins A.Stop dx [("change", .int (x.1:Nat)),("zone", .int (x.2:Nat))])
def WalkAt(H:Hp)(a:Addr)(x:Sg45.Walk):Prop:=∃dx,H a=some (.ins A.Walk dx [("start", .int (x.from_:Nat)),("end", .int (x.to:Nat)),("minutes", .int (x.minutes:Nat))])
def gE(H:Hp)(a:Addr)(x:Sg45.At):Prop:=∃dx,H a=some (.ins A.Call dx [("stop", .int (x.halt_:Nat)),("comes", .int (x.comes:Nat)),("goes", .int (x.goes:Nat))])
def IE(H:Hp)(a:Addr)(x:C3):Prop:=∃dx,H a=some (.ins A.Call dx [("stop", .int (x.st:Nat)),("comes", .int x.co),("goes", .int x.gs)])
def iJ(H:Hp)(a:Addr)(x:R3):Prop:=∃dx,H a=some (.ins A.xy dx [("goes", .int x.gs),("comes", .int x.co),("zones", .int (x.zs:Nat))])
def cY(H:Hp)(a:Addr)(x:Sg45.Place):Prop:=∃dx,H a=some (.ins A.Place dx [("stop", .int (x.halt_:Nat)),("minute", .int x.time),("how", .int (x.way:Nat))])
noncomputable def FF:Sw76.Area->V
 | .any n=> .int (n:Nat)
 | .these _=> .dR
noncomputable def FG:Sw76.Area->V
 | .any _=> .int 0
 | .these s=> .int (s:Nat)
def za(H:Hp)(a:Addr)(x:Sw76.Product):Prop:=∃dx,H a=some (.ins A.Product dx [("any_zones",FF x.area),("zones",FG x.area),("price", .int (x.price:Nat)),("minutes", .int (x.long:Nat)),("begin", .int (x.low:Nat)),("end", .int (x.high:Nat))])
theorem ow:y8 (y9 A):=fun _ _ _ _ k⟨dx,h⟩=>⟨dx,k _ _ _ _ h⟩
theorem ox:y8 (WalkAt A):=fun _ _ _ _ k⟨dx,h⟩=>⟨dx,k _ _ _ _ h⟩
theorem lS:y8 (gE A):=fun _ _ _ _ k⟨dx,h⟩=>⟨dx,k _ _ _ _ h⟩
theorem pC:y8 (IE A):=fun _ _ _ _ k⟨dx,h⟩=>⟨dx,k _ _ _ _ h⟩
theorem gX:y8 (iJ A):=fun _ _ _ _ k⟨dx,h⟩=>⟨dx,k _ _ _ _ h⟩
theorem iK:y8 (cY A):=fun _ _ _ _ k⟨dx,h⟩=>⟨dx,k _ _ _ _ h⟩
theorem sr:y8 (za A):=fun _ _ _ _ k⟨dx,h⟩=>⟨dx,k _ _ _ _ h⟩
end
structure Rep{α:Type}(P:Hp->Addr->α->Prop)(H:Hp)(l:Addr)(as:List Addr)(xs:List α):Prop where
 lst:H l=some (.lst (as.map V.ref))
 len:as.length=xs.length
 at_:∀(i:Nat)(x:α),xs[i]?=some x->∃a,as[i]?=some a/\P H a x
section
variable{α:Type}{P:Hp->Addr->α->Prop}{H H':Hp}{l:Addr}{as:List Addr}{xs:List α}
theorem Rep.get (r:Rep P H l as xs) {i:Nat} {x:α} (h:xs[i]?=some x):∃a,(as.map V.ref)[i]?=some (.ref a)/\P H a x:=by
 obtain⟨a,h1,h2⟩:=r.at_ i x h
 exact⟨a,by rw[abV,h1];rfl,h2⟩
theorem Rep.turn (r:Rep P H l as xs) {i:Nat} {v:V} (h:(as.map V.ref)[i]?=some v):∃a x,v= .ref a/\xs[i]?=some x/\P H a x:=by
 rw[abV]at h
 cases e:as[i]?with
 |none=>rw[e]at h;cases h
 |some a=>
  rw[e]at h
  have di:=(abt.mp e).1
  rw[r.len]at di
  obtain⟨a',h1,h2⟩:=r.at_ i _ (acf di)
  rw[e]at h1
  cases h1
  exact⟨a,_,(Option.some.inj h).symm,acf di,h2⟩
theorem Rep.cz (r:Rep P H l as xs):(as.map V.ref).length=xs.length:=by rw[abI,r.len]
theorem Rep.mono (r:Rep P H l as xs) (hl:H' l=H l) (hp:∀a x,a∈as->P H a x->P H' a x):Rep P H' l as xs:=
 ⟨hl.trans r.lst,r.len,fun i x h=>by
  obtain⟨a,h1,h2⟩:=r.at_ i x h
  exact⟨a,h1,hp a x (abW h1) h2⟩⟩
theorem Rep.same (r:Rep P H l as xs) (ip:y8 P) (s:ak H H'):Rep P H' l as xs:=r.mono (by rw[r.lst];exact s _ _ r.lst) fun a x _ h=>ip _ _ _ _ (c8 s) h
theorem Rep.keep (r:Rep P H l as xs) (ip:y8 P) (hl:H' l=H l) (k:qd H H'):Rep P H' l as xs:=r.mono hl fun a x _ h=>ip _ _ _ _ k h
theorem Rep.nil (h:H l=some (.lst [])):Rep P H l [] ([]:List α):=⟨h,rfl,fun i x h=>by simp at h⟩
theorem Rep.push {H1:Hp} (r:Rep P H l as xs) (ip:y8 P) (k:qd H H1) (h1:H1 l=H l) {a:Addr} {x:α} (new:P H1 a x):Rep P (upd H1 l (.lst (as.map V.ref++[V.ref a]))) l (as++[a]) (xs++[x]):=by
 have hl:H1 l=some (.lst (as.map V.ref)):=h1.trans r.lst
 have k2:qd H1 (upd H1 l (.lst (as.map V.ref++[V.ref a]))):=fD hl
 refine⟨by rw[af,acX];rfl,by simp[r.len],fun i y h=> ?_⟩
 by_cases c:i<xs.length
 . rw[abU c]at h
   obtain⟨b,e1,e2⟩:=r.at_ i y h
   exact⟨b,by rw[abU (by rw[r.len];exact c)];exact e1,ip _ _ _ _ (k.trans k2) e2⟩
 have di:=(abt.mp h).1
 rw[abX,ab1]at di
 have e:i=xs.length:=by lia
 subst e
 rw[abT (abB _),acY]at h
 have h:x=y:=Option.some.inj h
 subst h
 refine⟨a, ?_,ip _ _ _ _ k2 new⟩
 rw[<-r.len,abT (abB _),acY]
 rfl
end
structure jh(A:Ad)(day:Nat)(H:Hp)(a:Addr)(p:Sg45.Trip):Prop where
 ex:∃dx cl cs,H a=some (.ins A.Trip dx [("days", .int (p.days:Nat)),("calls", .ref cl),("late_call", .int (lc p day:Nat)),("late_minutes", .int (lm p day:Nat))])/\Rep (gE A) H cl cs p.calls
structure iZ(A:Ad)(H:Hp)(t sl wl tl:Addr)(ss ws ts:List Addr)(T:Sg45.Table)(zs:List Nat)(day:Nat):Prop where
 ins:∃dx,H t=some (.ins A.aJ dx [("weekday", .int (day:Nat)),("stops", .ref sl),("walks", .ref wl),("trips", .ref tl)])
 st:Rep (y9 A) H sl ss (T.stops.zip zs)
 wk:Rep (WalkAt A) H wl ws T.walks
 tp:Rep (jh A day) H tl ts T.trips
 zl:zs.length=T.stops.length
def TabAt(A:Ad)(H:Hp)(t:Addr)(T:Sg45.Table)(zs:List Nat)(day:Nat):Prop:=∃sl wl tl ss ws ts,iZ A H t sl wl tl ss ws ts T zs day
section
variable{A:Ad}{H H':Hp}{t sl wl tl:Addr}{ss ws ts:List Addr}{T:Sg45.Table}{zs:List Nat}{day:Nat}
theorem jh.same {a:Addr} {p:Sg45.Trip} (h:jh A day H a p) (s:ak H H'):jh A day H' a p:=by
 obtain⟨dx,cl,cs,h1,h2⟩:=h.ex
 exact⟨dx,cl,cs,s _ _ h1,h2.same (lS A) s⟩
theorem iZ.same (h:iZ A H t sl wl tl ss ws ts T zs day) (s:ak H H'):iZ A H' t sl wl tl ss ws ts T zs day:=by
 obtain⟨dx,hi⟩:=h.ins
 exact⟨⟨dx,s _ _ hi⟩,h.st.same (ow A) s,h.wk.same (ox A) s,h.tp.mono (by rw[h.tp.lst];exact s _ _ h.tp.lst) fun a x _ q=>q.same s,h.zl⟩
theorem TabAt.same (h:TabAt A H t T zs day) (s:ak H H'):TabAt A H' t T zs day:=by
 obtain⟨sl,wl,tl,ss,ws,ts,h⟩:=h
 exact⟨sl,wl,tl,ss,ws,ts,h.same s⟩
theorem zip_get{n:Nat}(h:n<T.stops.length)(hz:zs.length=T.stops.length):(T.stops.zip zs)[n]?=some (T.stops.getD n 0,zs.getD n 0):=by
 rw[List.getElem?_zip_eq_some]
 dsimp only
 rw[acd,acd,acf h,acf (by lia)]
 exact⟨U,U⟩
theorem kj(hz:zs.length=T.stops.length):(T.stops.zip zs).length=T.stops.length:=by
 rw[List.length_zip,hz,Nat.min_self]
end
theorem c9{xs:List V}{n:Nat}{v:V}(h:xs[n]?=some v):oJ xs (n:Int)=some v:=LX h
def gu(H H':Hp)(l:Addr):Prop:=∀b o,H b=some o->b≠l->H' b=some o
section
variable{P:Program}{w:World}{K:PySem.W.Frag}{mg:Str->Option Value}{base:Heap}{A:Ad}
def uL(A:Ad):Sp:=fun vs H Q _=>∃(t a:Addr)(T:Sg45.Table)(zs:List Nat)(day:Nat)(x:Sg45.Place),vs=[.ref t, .ref a]/\TabAt A H t T zs day/\cY A H a x/\x.halt_<T.stops.length/\Q (.int (aG T x)) H
abbrev md:Stmt:=top 45
theorem xC:aB ["timetable","place"] ["timetable","place"] (ao md):=sm
theorem xD{f:Addr}{fd:FuncData}(F:eH K "ready_minute" "ready_minute" md f fd)(T:Txt K mg A):bq P w K mg base eD 1 f fd ["timetable","place"] (uL A):=by
 refine F.ok xC (fun vs H Q E h=> ?_) (fun dz Ar outer s H vs Q E hr h=> ?_)
 . obtain⟨t,a,_,_,_,_,rfl,_⟩:=h
   rfl
 obtain⟨t,a,Tb,zs,day,x,rfl,hT,⟨dx,ha⟩,hx,k⟩:=h
 obtain⟨sl,wl,tl,ss,ws,ts,hT⟩:=hT
 obtain⟨dt,hi⟩:=hT.ins
 refine⟨_,(ae (bg (ay ku (ai (pv 1) rfl) (bj rfl T.DZ) nk) (ah (aA (bA ft (ai (pv 1) rfl) (ai (aM ax (ai (pv 0) rfl) (ai (pv 1) rfl) (fun _ _=>rfl)) rfl)))) aF)
  (ah (aA (ai (pv 1) rfl)))), ?_⟩
 refine⟨_,U,_,_,_,_,_,U,ha,T.bJ,T.kE,U,U,_,U, ?_⟩
 refine aK (fun c=> ?_) (fun c=> ?_)
 . have c:x.way=1:=by
    have c:=of_decide_eq_true c
    injection c with c
    lia
   obtain⟨b,C7,⟨db,EY⟩⟩:=hT.st.get (zip_get hx hT.zl)
   refine⟨_,U,_,_,_,_,_,U,ha,T.bJ,T.cw,U,_,U,_,_,_,_,_,U,hi,T.az,T.aS,U,_,U,_,_,_,_,_,U,ha,T.bJ,T.dS,U,
    _,_,_,_,rfl,rfl,aW.of hT.st.lst,c9 C7,_,_,_,_,_,rfl,EY,T.kd,T.ke,rfl,_,_,rfl,rfl, ?_⟩
   have e:aG Tb x=x.time+(((Tb.stops.getD x.halt_ 0):Nat):Int):=by
    unfold aG chg
    rw[if_pos c]
   rw[e]at k
   exact k
 have c:¬x.way=1:=by
  intro q
  apply c
  rw[q]
  rfl
 refine⟨_,U,_,_,_,_,_,U,ha,T.bJ,T.cw,U, ?_⟩
 have e:aG Tb x=x.time:=by
  unfold aG
  rw[if_neg c]
 rw[e]at k
 exact k
def pD(A:Ad):Sp:=fun vs H Q _=>∃(t:Addr)(T:Sg45.Table)(zs:List Nat)(day n:Nat)(kk:Int)(p:Sg45.Trip),vs=[.ref t, .int (n:Nat), .int kk]/\TabAt A H t T zs day/\dQ T day/\(n,kk,p)∈Sg45.instances T day/\
 ∀(H':Hp)(l:Addr)(as:List Addr),ak H H'->H l=none->Rep (IE A) H' l as (bY p day kk)->Q (.ref l) H'
theorem Au{p:Sg45.Trip}{day:Nat}{kk:Int}{i:Nat}(h:i<p.calls.length):(bY p day kk).take (i+1)=(bY p day kk).take i++[B9 p day kk i]:=take_snoc (bR h)
abbrev gh:Stmt:=inClass (top 19) 6
theorem aY:aB ["self","number","day","trip","late","shift","calls","at","call","comes","goes"] ["self","number","day"] (ao gh):=sm
theorem pE{f:Addr}{fd:FuncData}(F:eH K "calls_now" "Timetable.calls_now" gh f fd)(T:Txt K mg A)(vP:eG P w K mg base 1 "Call" A.Call ["self","stop","comes","goes"] (uD A.Call ["stop","comes","goes"])):bq P w K mg base eD 3 f fd ["self","number","day"] (pD A):=by
 refine F.ok aY (fun vs H Q E h=> ?_) (fun dz Ar outer s H vs Q E hr h=> ?_)
 . obtain⟨t,_,_,_,_,_,_,rfl,_⟩:=h
   rfl
 obtain⟨t,Tb,zs,day,n,kk,p,rfl,hT,ok,hz,k⟩:=h
 obtain⟨sl,wl,tl,ss,ws,ts,hT⟩:=hT
 obtain⟨dt,hi⟩:=hT.ins
 obtain⟨hn,hw,IF⟩:=cM.mp hz
 have po:=ok.tp p (abW hn)
 obtain⟨tr,C7,EY⟩:=hT.tp.get hn
 obtain⟨Zp,cl,cs,RS,kP⟩:=EY.ex
 refine⟨_,(ae (aC (i:=3) aY.nd rfl oi (aM ax (ai (pv 0) rfl) (pv 1) (fun _ _=>rfl)))
  (ae (aC (i:=4) aY.nd rfl oi (JA (ay ku (pv 2) aj nk) (ai (pv 3) rfl) aj))
  (ae (aC (i:=5) aY.nd rfl oi (bA JG (pv 2) (bj rfl T.d8)))
  (ae (aC (i:=6) aY.nd rfl oi (bb ag))
  (ae (dI acZ rfl (oP rfl T.gC (aa (ai (pv 3) rfl) ag)) (sZ rfl (eP (aX (i:=7) aY.nd rfl oi) (eP (aX (i:=8) aY.nd rfl oi) oM))) (ae (aC (i:=9) aY.nd rfl oi (bA ft (ai (pv 8) rfl) (pv 5)))
  (ae (aC (i:=10) aY.nd rfl oi (bA ft (ai (pv 8) rfl) (pv 5)))
  (ae (bg (ay jF (pv 7) (ai (pv 3) rfl) nk) (ah (qE (i:=9) aY.nd rfl oi (pv 4) E3)) aF)
  (ae (bg (ay iR (pv 7) (ai (pv 3) rfl) nk) (ah (qE (i:=10) aY.nd rfl oi (pv 4) E3)) aF)
  (ah (cF (k0 ac0 ac1 ac2 fu (pv 6) (aa (cv vP hr rfl (aa (ai (pv 8) rfl) (aa (pv 9) (aa (pv 10) ag)))) ag)))))))))
  (ah (aA (pv 6)))))))), ?_⟩
 refine⟨_,U,_,_,_,_,_,U,hi,T.az,T.ck,U,_,U,_,_,_,_,U,U,aW.of hT.tp.lst,c9 C7, ?_⟩
 have late:∀(Q':V->Hp->Prop),Q' (.int (oo p day kk)) H->XA (AX (xr XD (cT 2) (tC (.int 0)))) (qI K (cT 3) "late_minutes") (tC (.int 0)) [some (.ref t),some (.int (n:Nat)),some (.int kk),some (.ref tr),none,none,none,none,none,none,none] H Q':=fun Q' q=>by
  refine⟨_,U,U,_,U, ?_⟩
  refine aK (fun c=> ?_) (fun c=> ?_)
  . have c:kk=0:=by
     have c:=of_decide_eq_true c
     injection c with c
    refine⟨_,U,_,_,_,_,_,U,RS,T.fo,T.hG,U, ?_⟩
    unfold oo at q
    rw[if_pos c]at q
    exact q
  have c:¬kk=0:=by
   intro q
   apply c
   rw[q]
   rfl
  unfold oo at q
  rw[if_neg c]at q
  exact q
 refine late _ ?_
 refine⟨_,U,_,_,U,U, .inr ⟨by decide,by decide⟩,abE _,fun L hL=> ?_⟩
 have s1:ak H (upd H L (.lst [])):=ak.upd hL
 refine⟨_,U,_,_,_,_,_,U,s1 _ _ RS,T.fo,T.uE,U,_,_,U,aW.of (s1 _ _ kP.lst), ?_⟩
 refine oq (K:=K) (a:=cl) (xs:=cs.map V.ref) (fun i σ H'=>∃o7 o8 o9 My as,σ=[some (.ref t),some (.int (n:Nat)),some (.int kk),some (.ref tr),some (.int (oo p day kk)),some (.int (kk*1440)),some (.ref L),o7,o8,o9,My]/\ak H H'/\Rep (IE A) H' L as ((bY p day kk).take i))
  ⟨none,none,none,none,[],rfl,s1,Rep.nil af⟩ (fun i σ H' _⟨_,_,_,_,_,_,s2,_⟩=>aW.of (s2 _ _ kP.lst)) ?_ ?_
 . rintro i v σ H' Tu hv ⟨o7,o8,o9,My,as,rfl,s2,qy⟩ FH
   obtain⟨ca,a,rfl,ha,⟨dc,Av⟩⟩:=(kP.same (lS A) s2).turn hv
   have di:=(abt.mp ha).1
   have s3:ak H' (upd H' Tu (.tup [.int i, .ref ca])):=ak.upd FH
   have zb:=s3 _ _ Av
   have OQ:=s3 _ _ (s2 _ _ RS)
   have RT:p.calls.getD i ⟨0,0,0⟩=a:=by rw[acd,ha];rfl
   have ec:=yZ po ok.dy hw i
   have eg:=Cj po ok.dy hw i
   rw[RT]at ec eg
   have ir:Tu≠L:=fun q=>by rw[q,qy.lst]at FH;cases FH
   refine⟨_,U,_,_,_,_,_,U,zb,T.bw,T.dq,U,_,U,_,_,U,U, ?_⟩
   refine⟨_,U,_,_,_,_,_,U,zb,T.bw,T.dY,U,_,U,_,_,U,U, ?_⟩
   have fin:∀(RU:Int)(Kt:Int),RU=p.comes day kk i->Kt=p.goes day kk i->Dg (Ue K "list" xY (cT 6) (cK (AZ A.Call (uD A.Call ["stop","comes","goes"]) [] E0 (cK (qI K (cT 8) "stop") (cK (cT 9) (cK (cT 10) lW)))) lW))
    {nx:=fun σ H'=>∃o7 o8 o9 My as,σ=[some (.ref t),some (.int (n:Nat)),some (.int kk),some (.ref tr),some (.int (oo p day kk)),some (.int (kk*1440)),some (.ref L),o7,o8,o9,My]/\ak H H'/\Rep (IE A) H' L as ((bY p day kk).take (i+1)),rt:=fun _ _=>False}
    [some (.ref t),some (.int (n:Nat)),some (.int kk),some (.ref tr),some (.int (oo p day kk)),some (.int (kk*1440)),some (.ref L),some (.int i),some (.ref ca),some (.int RU),some (.int Kt)] (upd H' Tu (.tup [.int i, .ref ca])):=fun RU Kt e9 OR=>by
    refine⟨_,U, .inl ⟨U,_,aW.of (s3 _ _ qy.lst)⟩, ?_⟩
    refine⟨_,U,_,_,_,_,_,U,zb,T.bw,T.cC,U,_,U,_,U, ?_⟩
    intro x dx hx hd Mz
    refine⟨x,dx,_,U,U,af,U, ?_⟩
    rw[aL]
    have s4:=dE (C:=A.Call) (fs:=[("stop", .int (a.halt_:Nat)),("comes", .int RU),("goes", .int Kt)]) hx hd
    refine⟨L,_,_,U,U,s4 _ _ (s3 _ _ qy.lst), ?_, ?_⟩
    . rw[qy.cz,abR]
      refine acW (Nat.min_le_left _ _) ?_
      exact abe di (abk po.RP (by decide))
    refine⟨_,_,_,_,as++[x],U, ?_, ?_⟩
    . exact ak.fy ((s2.trans s3).trans s4) hL
    rw[Au di]
    refine qy.push (pC A) (c8 (s3.trans s4)) ?_ ⟨dx, ?_⟩
    . rw[qy.lst]
      exact s4 _ _ (s3 _ _ qy.lst)
    rw[show(mk (upd H' Tu (.tup [.int i, .ref ca])) x dx A.Call _) x=_ from k9]
    have e1:p.stopAt i=a.halt_:=by unfold Sg45.Trip.stopAt;rw[RT]
    show some (HO.ins A.Call dx [("stop",V.int (a.halt_:Nat)),("comes",V.int RU),("goes",V.int Kt)])=some (HO.ins A.Call dx [("stop",V.int (p.stopAt i:Nat)),("comes",V.int (p.comes day kk i)),("goes",V.int (p.goes day kk i))])
    rw[e1,e9,OR]
   refine⟨_,U,_,U,_,_,_,_,_,U,OQ,T.fo,T.fz,U,_,_,U,U,_,U, ?_⟩
   refine aK (fun c1=> ?_) (fun c1=> ?_)
   . have c1:lc p day<i:=by
      have:=of_decide_eq_true c1
      lia
     refine⟨_,U,_,U,_,_,U,U, ?_⟩
     refine⟨_,U,_,U,_,_,_,_,_,U,OQ,T.fo,T.fz,U,_,_,U,U,_,U, ?_⟩
     refine aK (fun c2=> ?_) (fun c2=> ?_)
     . refine⟨_,U,_,U,_,_,U,U, ?_⟩
       exact fin _ _ (by rw[ec,if_pos c1];dsimp only;lia) (by rw[eg,if_pos (by lia)];dsimp only;lia)
     exact(c2 (decide_eq_true (by lia))).elim
   have c1:¬lc p day<i:=by
    intro q
    exact c1 (decide_eq_true (by lia))
   refine⟨_,U,_,U,_,_,_,_,_,U,OQ,T.fo,T.fz,U,_,_,U,U,_,U, ?_⟩
   refine aK (fun c2=> ?_) (fun c2=> ?_)
   . have c2:lc p day<=i:=by
      have:=of_decide_eq_true c2
      lia
     refine⟨_,U,_,U,_,_,U,U, ?_⟩
     exact fin _ _ (by rw[ec,if_neg c1];lia) (by rw[eg,if_pos c2];dsimp only;lia)
   have c2:¬lc p day<=i:=by
    intro q
    exact c2 (decide_eq_true (by lia))
   exact fin _ _ (by rw[ec,if_neg c1];lia) (by rw[eg,if_neg c2];lia)
 rintro σ H' ⟨o7,o8,o9,My,as,rfl,s2,qy⟩
 refine⟨_,U, ?_⟩
 rw[kP.cz,<-i6 (day:=day) (k:=kk),ac3]at qy
 exact k H' L as s2 hL qy
end
theorem Rep.RV {α:Type} {P:Hp->Addr->α->Prop} {H H2:Hp} {l:Addr} {as:List Addr} {xs:List α} (r:Rep P H l as xs) (h2:∀a x,a∈as->P H a x->P H2 a x) {a:Addr} {x:α} (hl:H2 l=some (.lst (as.map V.ref++[V.ref a]))) (new:P H2 a x):Rep P H2 l (as++[a]) (xs++[x]):=by
 refine⟨by rw[hl,acX];rfl,by simp[r.len],fun i y h=> ?_⟩
 by_cases c:i<xs.length
 . rw[abU c]at h
   obtain⟨b,e1,e2⟩:=r.at_ i y h
   exact⟨b,by rw[abU (by rw[r.len];exact c)];exact e1,h2 b y (abW e1) e2⟩
 have di:=(abt.mp h).1
 rw[abX,ab1]at di
 have e:i=xs.length:=by lia
 subst e
 rw[abT (abB _),acY]at h
 have h:x=y:=Option.some.inj h
 subst h
 refine⟨a, ?_,new⟩
 rw[<-r.len,abT (abB _),acY]
 rfl
structure me(A:Ad)(L:Addr)(H:Hp)(a:Addr)(r:Run):Prop where
 ex:∃dx cl cs,H a=some (.ins A.Run dx [("trip", .int (r.n:Nat)),("day", .int r.k),("calls", .ref cl)])/\Rep (IE A) H cl cs r.cs/\cl≠L
theorem me.same {A:Ad} {L:Addr} {H H':Hp} {a:Addr} {r:Run} (h:me A L H a r) (s:ak H H'):me A L H' a r:=by
 obtain⟨dx,cl,cs,h1,h2,h3⟩:=h.ex
 exact⟨dx,cl,cs,s _ _ h1,h2.same (pC A) s,h3⟩
theorem me.but {A:Ad} {L:Addr} {H:Hp} {a:Addr} {r:Run} {xs:List V} {o:HO} (h:me A L H a r) (hL:H L=some (.lst xs)):me A L (upd H L o) a r:=by
 obtain⟨dx,cl,cs,h1,h2,h3⟩:=h.ex
 exact⟨dx,cl,cs,fD hL _ _ _ _ h1,h2.keep (pC A) (au h3) (fD hL),h3⟩
theorem Rep.RW {A:Ad} {L:Addr} {H H':Hp} {l:Addr} {as:List Addr} {rs:List Run} (h:Rep (me A L) H l as rs) (s:ak H H'):Rep (me A L) H' l as rs:=h.mono (by rw[h.lst];exact s _ _ h.lst) fun a x _ q=>q.same s
def mf(day n:Nat)(p:Sg45.Trip)(l:List Int):List Run:=(l.filter fun k=>p.runs day k).map fun k=>runOf day (n,k,p)
def kl(T:Sg45.Table)(day i:Nat):List Run:=((T.trips.zipIdx).take i).flatMap fun x=>mf day x.2 x.1 [-1,0,1]
theorem wV{T:Sg45.Table}{day:Nat}:kl T day T.trips.length=aZ T day:=by
 unfold kl aZ Sg45.instances
 rw[ac4 (by simp),List.map_flatMap]
 congr 1
 funext x
 unfold mf
 rw[acm]
 rfl
theorem CB{T:Sg45.Table}{day i:Nat}{p:Sg45.Trip}(h:T.trips[i]?=some p):kl T day (i+1)=kl T day i++mf day i p [-1,0,1]:=by
 have:(T.trips.zipIdx)[i]?=some (p,i):=by rw[ac5,h];simp
 unfold kl
 rw[take_snoc this,ac6]
 simp
theorem FI{day n:Nat}{p:Sg45.Trip}{l:List Int}{k:Int}:mf day n p (l++[k])=mf day n p l++(if p.runs day k=true then [runOf day (n,k,p)]else []):=by
 unfold mf
 rw[acJ,acX]
 congr 1
 by_cases c:p.runs day k=true
 . rw[if_pos c,acP,if_pos c]
   rfl
 rw[if_neg c,acP,if_neg c]
 rfl
theorem wW{T:Sg45.Table}{day i:Nat}(h:T.trips.length<=12):(kl T day i).length<=36:=by
 unfold kl
 rw[List.length_flatMap]
 have h1:∀x∈(T.trips.zipIdx).take i,(mf day x.2 x.1 [-1,0,1]).length<=3:=fun x _=>by
  unfold mf
  rw[abI]
  exact acN _ _
 have h2:((T.trips.zipIdx).take i).length<=12:=by
  rw[abR,List.length_zipIdx]
  lia
 have:∀(l:List (Sg45.Trip×Nat)),(∀x∈l,(mf day x.2 x.1 [-1,0,1]).length<=3)->(l.map fun x=>(mf day x.2 x.1 [-1,0,1]).length).sum<=3*l.length:=by
  intro l
  induction l with
  |nil=>intro _;simp
  |cons a l ih=>
   intro h
   have:=ih fun x hx=>h x (by simp[hx])
   have:=h a (by simp)
   simp only[abH,List.sum_cons,abG]
   lia
 have:=this _ h1
 lia
theorem OS{day:Nat}{k:Int}(hd:day<=6)(hk:Sg45.within k (-1) 1=true):(day:Int)+k>= -1/\((day:Int)+k)%7=((Sg45.weekday day k:Nat):Int):=by
 unfold Sg45.within at hk
 simp at hk
 unfold Sg45.weekday
 lia
section
variable{P:Program}{w:World}{K:PySem.W.Frag}{mg:Str->Option Value}{base:Heap}{A:Ad}
def Bz(A:Ad):Sp:=fun vs H Q _=>∃(t:Addr)(T:Sg45.Table)(zs:List Nat)(day:Nat),vs=[.ref t]/\TabAt A H t T zs day/\dQ T day/\
 ∀(H':Hp)(l:Addr)(as:List Addr),ak H H'->H l=none->Rep (me A l) H' l as (aZ T day)->Q (.ref l) H'
abbrev gF:Stmt:=inClass (top 19) 7
theorem cp:aB ["self","runs","number","trip","day","weekday"] ["self"] (ao gF):=sm
theorem qp{f:Addr}{fd:FuncData}(F:eH K "runs_now" "Timetable.runs_now" gF f fd)(T:Txt K mg A)(Ku:eG P w K mg base 1 "Run" A.Run ["self","trip","day","calls"] (uD A.Run ["trip","day","calls"]))(bx:MethAt P w K mg base 3 A.aJ "calls_now" ["self","number","day"] (pD A)):bq P w K mg base eD 4 f fd ["self"] (Bz A):=by
 refine F.ok cp (fun vs H Q E h=> ?_) (fun dz Ar outer s H vs Q E hr h=> ?_)
 . obtain⟨t,_,_,_,rfl,_⟩:=h
   rfl
 obtain⟨t,Tb,zs,day,rfl,hT,ok,k⟩:=h
 have lT:=hT
 obtain⟨sl,wl,tl,ss,ws,ts,hT⟩:=hT
 obtain⟨dt,hi⟩:=hT.ins
 refine⟨_,(ae (aC (i:=1) cp.nd rfl oi (bb ag))
  (ae (dI acZ rfl (oP rfl T.gC (aa (ai (pv 0) rfl) ag)) (sZ rfl (eP (aX (i:=2) cp.nd rfl oi) (eP (aX (i:=3) cp.nd rfl oi) oM))) (ah (dI acZ rfl (N9 (JM (aa (cJ bS aj) (aa aj (aa aj ag))))) (aX (i:=4) cp.nd rfl oi) (ae (aC (i:=5) cp.nd rfl oi (bA JH (bA ft (ai (pv 0) rfl) (pv 4)) (bj rfl T.gB)))
  (ah (bg (ay ku (bA vz (bA Fb (ai (pv 3) rfl) (pv 5)) aj) aj nk) (ah (cF (k0 ac0 ac1 ac2 fu (pv 1) (aa (cv Ku hr rfl (aa (pv 2) (aa (pv 4) (aa (bB (pv 0) bx hr (aa (pv 2) (aa (pv 4) ag))) ag)))) ag)))) aF))))))
  (ah (aA (pv 1))))), ?_⟩
 refine⟨abE _,fun L hL=> ?_⟩
 have s1:ak H (upd H L (.lst [])):=ak.upd hL
 refine⟨_,U,_,_,_,_,_,U,s1 _ _ hi,T.az,T.ck,U,_,_,U,aW.of (s1 _ _ hT.tp.lst), ?_⟩
 refine oq (K:=K) (a:=tl) (xs:=ts.map V.ref) (fun i σ H'=>∃o2 o3 o4 o5 as,σ=[some (.ref t),some (.ref L),o2,o3,o4,o5]/\ak H H'/\Rep (me A L) H' L as (kl Tb day i))
  ⟨none,none,none,none,[],rfl,s1,Rep.nil af⟩ (fun i σ H' _⟨_,_,_,_,_,_,s2,_⟩=>aW.of (s2 _ _ hT.tp.lst)) ?_ ?_
 . rintro i v σ H' Tu hv ⟨o2,o3,o4,o5,as,rfl,s2,qy⟩ FH
   obtain⟨tr,p,rfl,hp,Zq⟩:=hT.tp.turn hv
   have po:=ok.tp p (abW hp)
   obtain⟨Zp,cl,cs,RS,kP⟩:=Zq.ex
   have di:=(abt.mp hp).1
   have s3:ak H' (upd H' Tu (.tup [.int i, .ref tr])):=ak.upd FH
   refine⟨_,U,by show 3<=sizeLine;decide,fun Tt Zr=> ?_⟩
   refine⟨Tt,U,⟨_,xq.of af⟩, ?_⟩
   have s4:=ak.upd (o:= .tup [.int (-1), .int 0, .int 1]) Zr
   refine LK (K:=K) (a:=Tt) (xs:=([-1,0,1]:List Int).map V.int) (fun j σ H2=>∃o4 o5 as,σ=[some (.ref t),some (.ref L),some (.int i),some (.ref tr),o4,o5]/\ak H H2/\H2 Tt=some (.tup [.int (-1), .int 0, .int 1])/\Rep (me A L) H2 L as (kl Tb day i++mf day i p (([-1,0,1]:List Int).take j)))
    ⟨_,_,as,rfl,(s2.trans s3).trans s4,af, ?_⟩ (fun j σ H2 _⟨_,_,_,_,_,h,_⟩=>xq.of h) ?_ ?_
   . have:=qy.RW (s3.trans s4)
     rw[show mf day i p (([-1,0,1]:List Int).take 0)=[]from rfl,abM]
     exact this
   . rintro j v σ H2 hj ⟨VY,VZ,Um,rfl,s5,MA,MB⟩
     obtain⟨kk,XX,rfl⟩:∃kk,([-1,0,1]:List Int)[j]?=some kk/\v=V.int kk:=by
      rw[abV]at hj
      cases e:([-1,0,1]:List Int)[j]?with
      |none=>rw[e]at hj;cases hj
      |some kk=>
       rw[e]at hj
       exact⟨kk,U,(Option.some.inj hj).symm⟩
     have hw:Sg45.within kk (-1) 1=true:=by
      have:=abW XX
      simp at this
      rcases this with rfl|rfl|rfl<;>decide
     have Zs:=(OS ok.dy hw).2
     have hlen:(kl Tb day i++mf day i p (([-1,0,1]:List Int).take j)).length<=39:=by
      rw[abX]
      have h1:=wW (T:=Tb) (day:=day) (i:=i) ok.nt
      have h2:(mf day i p (([-1,0,1]:List Int).take j)).length<=3:=by
       unfold mf
       rw[abI]
       refine abk (acN _ _) ?_
       rw[abR]
       exact ac7 _ _
      lia
     refine⟨_,U,_,_,_,_,_,U,s5 _ _ hi,T.az,T.lh,U,_,U,_,_,U,U,_,_,U,U,(by show(0:Int)<7;decide), ?_⟩
     refine⟨_,U,_,_,_,_,_,U,s5 _ _ RS,T.fo,T.wQ,U,_,U,_,_,U,U, ?_,_,_,U,U,U,_,U, ?_⟩
     . show(0:Int)<=((day:Int)+kk)%7
       lia
     rw[take_snoc XX,FI,<-List.append_assoc]
     rw[show((day:Int)+kk)%7=((Sg45.weekday day kk:Nat):Int)from Zs,CA]
     refine aK (fun c=> ?_) (fun c=> ?_)
     . have IF:p.runs day kk=true:=c
       refine⟨_,U, .inl ⟨U,_,aW.of MB.lst⟩,_,U,_,U,_,U,t,dt,_,U,s5 _ _ hi,U,_,U,_,U,t,Tb,zs,day,i,kk,p,U,lT.same s5,ok,cM.mpr ⟨hp,hw,IF⟩,fun H3 l V0 s6 Uo Zt=> ?_⟩
       intro x dx hx hd ir
       refine⟨x,dx,_,U,U,af,U, ?_⟩
       rw[aL]
       have s7:=dE (C:=A.Run) (fs:=[("trip", .int (i:Nat)),("day", .int kk),("calls", .ref l)]) hx hd
       have Up:=s7 _ _ (s6 _ _ MB.lst)
       refine⟨L,_,_,U,U,Up, ?_, ?_⟩
       . rw[MB.cz]
         exact acW hlen (by decide)
       have XY:l≠L:=fun q=>by rw[q,MB.lst]at Uo;cases Uo
       refine⟨_,_,Um++[x],U,ak.fy ((s5.trans s6).trans s7) hL, ?_, ?_⟩
       . rw[au (bH MA MB.lst (by intro q;cases q))]
         exact s7 _ _ (s6 _ _ MA)
       rw[if_pos IF]
       refine MB.RV (fun a y _ q=>(q.same (s6.trans s7)).but Up) af ?_
       refine⟨dx,l,V0,fD Up _ _ _ _ k9, ?_,XY⟩
       exact(Zt.same (pC A) s7).keep (pC A) (au XY) (fD Up)
     have IF:¬p.runs day kk=true:=c
     rw[if_neg IF,abM]
     exact⟨_,_,Um,U,s5,MA,MB⟩
   rintro σ H2 ⟨VY,VZ,Um,rfl,s5,MA,MB⟩
   refine⟨_,_,_,_,Um,U,s5, ?_⟩
   rw[CB hp]
   exact MB
 rintro σ H' ⟨o2,o3,o4,o5,as,rfl,s2,qy⟩
 refine⟨_,U, ?_⟩
 rw[hT.tp.cz,wV]at qy
 exact k H' L as s2 hL qy
end
noncomputable def OT:Sg45.Leg->Int->Int->Int->List V
 | .walk n,f,t,m=>[.int (-1), .int (n:Nat), .int f, .int t, .int m]
 | .ride n k i j,_,_,m=>[.int (n:Nat), .int k, .int (i:Nat), .int (j:Nat), .int m]
def ji(H:Hp)(a:Addr)(l:Sg45.Leg):Prop:=∃f t m,H a=some (.lst (OT l f t m))
theorem ji.same {H H':Hp} {a:Addr} {l:Sg45.Leg} (h:ji H a l) (s:ak H H'):ji H' a l:=by
 obtain⟨f,t,m,h⟩:=h
 exact⟨f,t,m,s _ _ h⟩
section
variable{P:Program}{w:World}{K:PySem.W.Frag}{mg:Str->Option Value}{base:Heap}{A:Ad}
def gY(A:Ad):Sp:=fun vs H Q _=>∃(t a la:Addr)(T:Sg45.Table)(zs:List Nat)(day:Nat)(x:Sg45.Place)(l:Sg45.Leg),vs=[.ref t, .ref a, .ref la]/\TabAt A H t T zs day/\dQ T day/\cY A H a x/\x.halt_<T.stops.length/\ji H la l/\Fits T day x.halt_ x.way [l]/\
 (Sg45.go T day x l=none->∀H',ak H H'->Q .dR H')/\(∀y,Sg45.go T day x l=some y->∀(H':Hp)(b:Addr),ak H H'->H b=none->cY A H' b y->Q (.ref b) H')
abbrev nD:Stmt:=top 46
theorem mh:aB ["timetable","place","leg","walk","calls"] ["timetable","place","leg"] (ao nD):=sm
theorem zc{f:Addr}{fd:FuncData}(F:eH K "place_after" "place_after" nD f fd)(T:Txt K mg A)(pF:eG P w K mg base 1 "Place" A.Place ["self","stop","minute","how"] (uD A.Place ["stop","minute","how"]))(bx:MethAt P w K mg base 3 A.aJ "calls_now" ["self","number","day"] (pD A))(cO:FnAt P w K mg base 1 "ready_minute" ["timetable","place"] (uL A)):bq P w K mg base eD 4 f fd ["timetable","place","leg"] (gY A):=by
 refine F.ok mh (fun vs H Q E h=> ?_) (fun dz Ar outer s H vs Q E hr h=> ?_)
 . obtain⟨t,a,la,_,_,_,_,_,rfl,_⟩:=h
   rfl
 obtain⟨t,a,la,Tb,zs,day,x,l,rfl,hT,ok,ha,hx,⟨f0,t0,m0,yi⟩,oz,k1,k2⟩:=h
 have lT:=hT
 obtain⟨sl,wl,tl,ss,ws,ts,hT⟩:=hT
 obtain⟨dt,hi⟩:=hT.ins
 obtain⟨da,XZ⟩:=ha
 refine⟨_,(ae (bg (ay ku (aM ax (pv 2) aj (fun _ _=>rfl)) (bj rfl T.vK) nk) (ae (aC (i:=3) mh.nd rfl oi (aM ax (ai (pv 0) rfl) (aM ax (pv 2) aj (fun _ _=>rfl)) (fun _ _=>rfl)))
  (ah (aA (cv pF hr rfl (aa (ai (pv 3) rfl) (aa (bA ft (ai (pv 1) rfl) (ai (pv 3) rfl)) (aa (bj rfl T.ot) ag))))))) aF)
  (ae (aC (i:=4) mh.nd rfl oi (bB (pv 0) bx hr (aa (aM ax (pv 2) aj (fun _ _=>rfl)) (aa (aM ax (pv 2) aj (fun _ _=>rfl)) ag))))
  (ae (bg (ay lV (ai (aM ax (pv 4) (aM ax (pv 2) aj (fun _ _=>rfl)) (fun _ _=>rfl)) rfl) (aO cO hr rfl (aa (pv 0) (aa (pv 1) ag))) nk) (ah (aA cI)) aF)
  (ah (aA (cv pF hr rfl (aa (ai (aM ax (pv 4) (aM ax (pv 2) aj (fun _ _=>rfl)) (fun _ _=>rfl)) rfl) (aa (ai (aM ax (pv 4) (aM ax (pv 2) aj (fun _ _=>rfl)) (fun _ _=>rfl)) rfl) (aa (bj rfl T.DZ) ag))))))))), ?_⟩
 cases l with
 |walk n=>
  obtain⟨v,hv,lG,_⟩:=vI (x:=x) oz
  obtain⟨wa,DJ,⟨dw,IG⟩⟩:=hT.wk.get hv
  refine⟨_,U,_,_,_,_,U,U,aW.of yi,U,U,_,U, ?_⟩
  refine VL ?_
  refine⟨_,U,_,_,_,_,_,U,hi,T.az,T.cg,U,_,U,_,_,_,_,U,U,aW.of yi,U,_,_,_,_,U,U,aW.of hT.wk.lst,c9 DJ, ?_⟩
  refine⟨_,U,_,_,_,_,_,U,IG,T.dm,T.jR,U,_,U,_,_,_,_,_,U,XZ,T.bJ,T.cw,U,_,U,_,_,_,_,_,U,IG,T.dm,T.gD,U,_,_,U,U, ?_⟩
  intro y dy hy hd ir
  refine⟨y,dy,_,U,U,af,U, ?_⟩
  rw[aL]
  exact k2 _ lG _ y (dE hy hd) hy ⟨dy,k9⟩
 |ride n kk i j=>
  obtain⟨p,hz,kN,hj,_,lG⟩:=vJ (x:=x) oz
  obtain⟨hn,hw,IF⟩:=cM.mp hz
  refine⟨_,U,_,_,_,_,U,U,aW.of yi,U,U,_,U, ?_⟩
  refine aK (fun c=> ?_) (fun c=> ?_)
  . exfalso
    have c:=of_decide_eq_true c
    injection c with c
    lia
  refine⟨_,U,t,dt,_,U,hi,U,_,U,_,_,_,_,U,U,aW.of yi,U,_,U,_,_,_,_,U,U,aW.of yi,U,t,Tb,zs,day,n,kk,p,U,lT,ok,hz,fun H1 L as s1 hL wX=> ?_⟩
  obtain⟨ci,OU,⟨Zu,OV⟩⟩:=wX.get (bR (p:=p) (day:=day) (k:=kk) (i:=i) (by lia))
  obtain⟨cj,MC,⟨Zv,MD⟩⟩:=wX.get (bR (p:=p) (day:=day) (k:=kk) (i:=j) hj)
  refine⟨_,U,_,U,_,_,_,_,U,U,aW.of (s1 _ _ yi),U,_,_,_,_,U,U,aW.of wX.lst,c9 OU,_,_,_,_,_,U,OV,T.bw,T.dY,U,_,U,_,U,
   t,a,Tb,zs,day,x,rfl,lT.same s1,⟨da,s1 _ _ XZ⟩,hx,_,_,rfl,rfl,_,rfl, ?_⟩
  refine aK (fun c=> ?_) (fun c=> ?_)
  . have c:¬aG Tb x<=p.goes day kk i:=by
     have c:p.goes day kk i<aG Tb x:=of_decide_eq_true c
     lia
    rw[if_neg c]at lG
    exact k1 lG H1 s1
  have c:aG Tb x<=p.goes day kk i:=by
   apply acp
   intro q
   apply c
   exact decide_eq_true (show p.goes day kk i<aG Tb x by lia)
  rw[if_pos c]at lG
  refine⟨_,U,_,U,_,_,_,_,U,U,aW.of (s1 _ _ yi),U,_,_,_,_,U,U,aW.of wX.lst,c9 MC,_,_,_,_,_,U,MD,T.bw,T.cC,U,
   _,rfl,_,rfl,_,_,_,_,rfl,rfl,aW.of (s1 _ _ yi),rfl,_,_,_,_,rfl,rfl,aW.of wX.lst,c9 MC,_,_,_,_,_,rfl,MD,T.bw,T.dq,rfl, ?_⟩
  intro y dy hy hd ir
  refine⟨y,dy,_,U,U,af,U, ?_⟩
  rw[aL]
  exact k2 _ lG _ y (s1.trans (dE hy hd)) (s1.free hy) ⟨dy,k9⟩
end
structure uM(H H':Hp):Prop where
 ins:qd H H'
 refs:∀(b:Addr)(as:List Addr),H b=some (.lst (as.map V.ref))->H' b=some (.lst (as.map V.ref))
theorem Kv{H H':Hp}(s:ak H H'):uM H H':=⟨c8 s,fun b as h=>s _ _ h⟩
theorem BA{as:List Addr}{zs:List Int}(h:as.map V.ref=zs.map V.int):zs=[]:=by
 cases zs with
 |nil=>rfl
 |cons z zs=>
  cases as with
  |nil=>simp at h
  |cons a as=>simp at h
theorem yj{H:Hp}{l b:Addr}{zs:List Int}{as:List Addr}(h:H l=some (.lst (zs.map V.int)))(hz:zs≠[])(hb:H b=some (.lst (as.map V.ref))):b≠l:=by
 intro q
 subst q
 rw[h]at hb
 have e:zs.map V.int=as.map V.ref:=by
  injection hb with e
  injection e
 exact hz (BA e.symm)
theorem Rep.keepR {α:Type} {P:Hp->Addr->α->Prop} {H H':Hp} {l:Addr} {as:List Addr} {xs:List α} (r:Rep P H l as xs) (ip:y8 P) (k:uM H H'):Rep P H' l as xs:=r.mono (by rw[r.lst];exact k.refs _ _ r.lst) fun a x _ h=>ip _ _ _ _ k.ins h
theorem jh.keepR {A:Ad} {day:Nat} {H H':Hp} {a:Addr} {p:Sg45.Trip} (h:jh A day H a p) (k:uM H H'):jh A day H' a p:=by
 obtain⟨dx,cl,cs,h1,h2⟩:=h.ex
 exact⟨dx,cl,cs,k.ins _ _ _ _ h1,h2.keepR (lS A) k⟩
theorem iZ.keepR {A:Ad} {H H':Hp} {t sl wl tl:Addr} {ss ws ts:List Addr} {T:Sg45.Table} {zs:List Nat} {day:Nat} (h:iZ A H t sl wl tl ss ws ts T zs day) (k:uM H H'):iZ A H' t sl wl tl ss ws ts T zs day:=by
 obtain⟨dx,hi⟩:=h.ins
 exact⟨⟨dx,k.ins _ _ _ _ hi⟩,h.st.keepR (ow A) k,h.wk.keepR (ox A) k,h.tp.mono (by rw[h.tp.lst];exact k.refs _ _ h.tp.lst) fun a x _ q=>q.keepR k,h.zl⟩
theorem me.keepR {A:Ad} {L:Addr} {H H':Hp} {a:Addr} {r:Run} (h:me A L H a r) (k:uM H H'):me A L H' a r:=by
 obtain⟨dx,cl,cs,h1,h2,h3⟩:=h.ex
 exact⟨dx,cl,cs,k.ins _ _ _ _ h1,h2.keepR (pC A) k,h3⟩
def jj(A:Ad)(H:Hp)(l:Addr)(rs:List Run):Prop:=∃L as,Rep (me A L) H l as rs
theorem jj.keepR {A:Ad} {H H':Hp} {l:Addr} {rs:List Run} (h:jj A H l rs) (k:uM H H'):jj A H' l rs:=by
 obtain⟨L,as,h⟩:=h
 exact⟨L,as,h.mono (by rw[h.lst];exact k.refs _ _ h.lst) fun a x _ q=>q.keepR k⟩
theorem jj.same {A:Ad} {H H':Hp} {l:Addr} {rs:List Run} (h:jj A H l rs) (s:ak H H'):jj A H' l rs:=h.keepR (Kv s)
def g8(H H':Hp)(p q:Addr):Prop:=∀b o,H b=some o->b≠p->b≠q->H' b=some o
theorem g8.trans {H H1 H2:Hp} {p q:Addr} (a:g8 H H1 p q) (b:g8 H1 H2 p q):g8 H H2 p q:=fun c o h h1 h2=>b c o (a c o h h1 h2) h1 h2
theorem g8.of {H H':Hp} {p q:Addr} (s:ak H H'):g8 H H' p q:=fun b o h _ _=>s b o h
theorem g8.keepR {H H':Hp} {p q:Addr} (k:g8 H H' p q) {xs ys:List Int} (hp:H p=some (.lst (xs.map V.int))) (hq:H q=some (.lst (ys.map V.int))) (hx:xs≠[]) (hy:ys≠[]):uM H H':=
 ⟨fun b C dx fs h=>k _ _ h (bH h hp (by intro z;cases z)) (bH h hq (by intro z;cases z)),fun b as h=>k _ _ h (yj hp hx h) (yj hq hy h)⟩
theorem OW{zs:List Int}{n:Nat}(h:n<zs.length):(zs.map V.int)[n]?=some (.int (zs.getD n 0)):=by
 rw[abV,acf h,acd,acf h]
 rfl
theorem jk{zs:List Int}{n:Nat}(h:n<zs.length):oJ (zs.map V.int) (n:Int)=some (.int (zs.getD n 0)):=c9 (OW h)
theorem CC{n k:Nat}(h:k<n):JR n (k:Int)=some k:=by
 unfold JR
 rw[if_pos (by lia),if_pos (by lia)]
 simp
theorem wY{zs:List Int}{k:Nat}(h:k<zs.length):JR (zs.map V.int).length (k:Int)=some k:=CC (by simpa using h)
theorem rm{zs:List Int}{k:Nat}{z:Int}:(zs.map V.int).set k (.int z)=(zs.set k z).map V.int:=by rw[List.map_set]
theorem min_eq{i j:Int}:(if j<i then j else i)=min i j:=by
 by_cases h:j<i
 . rw[if_pos h];lia
 rw[if_neg h];lia
theorem max_eq{i j:Int}:(if j>i then j else i)=max i j:=by
 by_cases h:j>i
 . rw[if_pos h];lia
 rw[if_neg h];lia
theorem fM{α β:Type}{f:β->α->β}{b:β}{l:List α}{i:Nat}{x:α}(h:l[i]?=some x):(l.take (i+1)).foldl f b=f ((l.take i).foldl f b) x:=by
 rw[take_snoc h,aci]
 rfl
theorem QJ{K:PySem.W.Frag}{a D:Addr}{xs:List V}{v:V}{n:Nat}{σ:L2.St}{H:Hp}{Qd:Hp->Prop}{te:TE}(V1:∀σ H(R:VK),R v H->te σ H R)(hs:aW K H a xs)(hl:xs.length<sizeLine)(hD:H D=none)(h:Qd (upd H D (.lst (xs.map fun _=>v)))):
 ∃W:Nat->Nat->Hp->Prop,(∃m,W 0 m (upd H D (.lst [])))/\∀i m H,W i m H->
  ((GF K a).stop i H/\Qd H)\/((GF K a).go i H/\∃Nx:Hp->Prop,(∀H',Nx H'->∃m',m'<m/\W (i+1) m' H')/\∀x H',(GF K a).GD i H x H'->kr n x (wipe σ [n]) H' fun i5 H2=>wipe i5 [n]=wipe σ [n]/\Dy i5 H2 fun b H3=>
    if b=true then te i5 H3 fun y H4=>∃acc,H4 D=some (.lst acc)/\acc.length<sizeLine/\Nx (upd H4 D (.lst (acc++[y])))else Nx H3):=by
 refine xZ (xs:=xs) (fun i H'=>H'=upd H D (.lst ((xs.take i).map fun _=>v))) rfl ?_ ?_ ?_
 . rintro i H' _ rfl
   exact ak.seq (ak.upd hD) hs
 . rintro i x H' hi rfl
   refine⟨?_, ?_⟩
   . show((σ.set n none).set n (some x)).set n none=σ.set n none
     rw[ac8,ac8]
   unfold Dy
   refine aK (fun _=> ?_) (fun c=>(c rfl).elim)
   refine V1 _ _ _ ⟨_,af, ?_, ?_⟩
   . rw[abI,abR]
     exact acW (ac7 _ _) hl
   rw[aL,take_snoc hi,acX]
   rfl
 rintro H' rfl
 rw[ac3]
 exact h
theorem sM{zs:List Int}{z:Int}:((zs.map V.int).map fun _=>V.int z)=(zs.map fun _=>z).map V.int:=by simp
theorem km{as:List Addr}{z:Int}:((as.map V.ref).map fun _=>V.int z)=(as.map fun _=>z).map V.int:=by simp
section
variable{P:Program}{w:World}{K:PySem.W.Frag}{mg:Str->Option Value}{base:Heap}{A:Ad}
def uN(A:Ad):Sp:=fun vs H Q _=>∃(rl rd:Addr)(rs:List Run)(ready:List Int),vs=[.ref rl, .ref rd]/\jj A H rl rs/\H rd=some (.lst (ready.map V.int))/\(∀r∈rs,∀c∈r.cs,c.st<ready.length)/\ready.length<=10/\
 ∀(H':Hp)(m:Addr),ak H H'->H m=none->H' m=some (.lst ((dd rs ready).map V.int))->Q (.ref m) H'
abbrev nE:Stmt:=top 48
theorem eA:aB ["runs","ready","minutes","stop","run","aboard","call"] ["runs","ready"] (ao nE):=sm
theorem zd{f:Addr}{fd:FuncData}(F:eH K "minutes_off" "minutes_off" nE f fd)(T:Txt K mg A):bq P w K mg base eD 1 f fd ["runs","ready"] (uN A):=by
 refine F.ok eA (fun vs H Q E h=> ?_) (fun dz Ar outer s H vs Q E hr h=> ?_)
 . obtain⟨rl,rd,_,_,rfl,_⟩:=h
   rfl
 obtain⟨rl,rd,rs,ready,rfl,⟨Lx,as,hR⟩,nX,lA,ME,k⟩:=h
 refine⟨_,(ae (lZ (i:=2) rfl eA.nd rfl rfl rfl (cG (pv 1)) (ee (own:=[("stop",3)]) (by rfl)) (fun _ _ _ _ _=>(aX (i:=3) eA.nd rfl oi)) (fun _ _ _ _ _=>iu) (fun _ _ _ _ _=>(bj rfl T.ka)))
  (ae (dI acZ rfl (cG (pv 0)) (aX (i:=4) eA.nd rfl oi) (ae (aC (i:=5) eA.nd rfl oi p0)
  (ah (dI acZ rfl (cG (ai (pv 4) rfl)) (aX (i:=6) eA.nd rfl oi) (ae (bg (lU (pv 5)) (ah (qD (aP (vA rfl) (by rfl) T.G8 boot_min (aa (aM ax (pv 2) (ai (pv 6) rfl) (fun _ _=>rfl)) (aa (ai (pv 6) rfl) ag))) (qC (pv 2) (ai (pv 6) rfl) set_list))) aF)
  (ah (bg (ay iR (ai (pv 6) rfl) (aM ax (pv 1) (ai (pv 6) rfl) (fun _ _=>rfl)) nk) (ah (aC (i:=5) eA.nd rfl oi p0)) aF)))))))
  (ah (aA (pv 2))))), ?_⟩
 refine⟨_,U,rd,U,⟨_,aW.of nX⟩,fun m hm=> ?_⟩
 refine QJ (fun _ _ _ q=>q) (aW.of nX) (by rw[abI];exact acW ME (by decide)) hm ?_
 rw[sM]
 have hk:∀ys:List Int,ak H (upd H m (.lst (ys.map V.int))):=fun ys=>ak.upd hm
 refine⟨_,U,rl,U,⟨_,aW.of (hk _ _ _ hR.lst)⟩, ?_⟩
 refine eQ (K:=K) (a:=rl) (xs:=as.map V.ref) (fun i σ H'=>∃o3 o4 o5 o6,σ=[some (.ref rl),some (.ref rd),some (.ref m),o3,o4,o5,o6]/\H'=upd H m (.lst (((rs.take i).foldl (qQ ready) (ready.map fun _=>br)).map V.int)))
  ⟨_,_,_,_,rfl,rfl⟩ (fun i σ H' _⟨_,_,_,_,_,e⟩=>by rw[e];exact aW.of (hk _ _ _ hR.lst)) ?_ ?_
 . rintro i v σ H' hv ⟨o3,o4,o5,o6,rfl,rfl⟩
   obtain⟨ra,r,rfl,wX,qy⟩:=hR.turn hv
   obtain⟨dr,cl,cs,MF,kP,_⟩:=qy.ex
   have OX:=abW wX
   generalize hM:(rs.take i).foldl (qQ ready) (ready.map fun _=>br)=M
   have V2:M.length=ready.length:=by rw[<-hM,l6];simp
   refine⟨_,U,_,_,_,_,_,U,hk _ _ _ MF,T.je,T.iT,U,cl,U,⟨_,aW.of (hk _ _ _ kP.lst)⟩, ?_⟩
   refine eQ (K:=K) (a:=cl) (xs:=cs.map V.ref) (fun j σ H'=>∃o6,σ=[some (.ref rl),some (.ref rd),some (.ref m),o3,some (.ref ra),some (.bl ((r.cs.take j).foldl (gS ready) (false,M)).1),o6]/\H'=upd H m (.lst (((r.cs.take j).foldl (gS ready) (false,M)).2.map V.int)))
    ⟨_,rfl,rfl⟩ (fun i σ H' _⟨_,_,e⟩=>by rw[e];exact aW.of (hk _ _ _ kP.lst)) ?_ ?_
   . rintro j v σ H' hv ⟨OY,rfl,rfl⟩
     obtain⟨ca,c,rfl,C8,⟨dc,Av⟩⟩:=kP.turn hv
     have FJ:=lA r OX c (abW C8)
     rw[fM C8]
     generalize hS:(r.cs.take j).foldl (gS ready) (false,M)=S
     have OZ:S.2.length=ready.length:=by rw[<-hS,mR];exact V2
     obtain⟨b,ms⟩:=S
     dsimp only at OZ⊢
     have zb:=hk ms _ _ Av
     have second:∀(ys:List Int),ys=(if b=true then ms.set c.st (min (ms.getD c.st 0) c.co)else ms)->LF (AX (xr (E8 fun i j=>V.bl (decide (j<=i))) (qI K (cT 6) "goes") (xr (Ai K) (cT 1) (qI K (cT 6) "stop")))) (Dh (tC (.bl true)) (kr 5)) GA
      {nx:=fun σ H'=>∃o6,σ=[some (.ref rl),some (.ref rd),some (.ref m),o3,some (.ref ra),some (.bl (gS ready (b,ms) c).1),o6]/\H'=upd H m (.lst ((gS ready (b,ms) c).2.map V.int)),rt:=fun _ _=>False}
      [some (.ref rl),some (.ref rd),some (.ref m),o3,some (.ref ra),some (.bl b),some (.ref ca)] (upd H m (.lst (ys.map V.int))):=fun ys ey=>by
      refine⟨_,U,_,_,_,_,_,U,hk _ _ _ Av,T.bw,T.dY,U,_,U,_,U,_,_,_,_,_,U,hk _ _ _ Av,T.bw,T.cC,U,_,_,_,_,U,U,aW.of (hk _ _ _ nX),jk FJ,_,_,U,U,_,U, ?_⟩
      have e2:(gS ready (b,ms) c).2=ys:=ey.symm
      refine aK (fun q=> ?_) (fun q=> ?_)
      . refine⟨some (.ref ca), ?_,by rw[e2]⟩
        show [some (V.ref rl),some (V.ref rd),some (V.ref m),o3,some (V.ref ra),some (V.bl true),some (V.ref ca)]=_
        have:(gS ready (b,ms) c).1=true:=by
         show(b||decide (ready.getD c.st 0<=c.gs))=true
         rw[q]
         simp
        rw[this]
      refine⟨some (.ref ca), ?_,by rw[e2]⟩
      have:(gS ready (b,ms) c).1=b:=by
       show(b||decide (ready.getD c.st 0<=c.gs))=b
       have q':decide (ready.getD c.st 0<=c.gs)=false:=by simpa using q
       rw[q',Bool.or_false]
      rw[this]
     refine⟨_,U,_,U, ?_⟩
     refine aK (fun q=> ?_) (fun q=> ?_)
     . refine⟨_,U,_,U,_,_,_,_,_,U,zb,T.bw,T.cC,U,_,_,_,_,U,U,aW.of af,jk (by rw[OZ];exact FJ),_,U,_,_,_,_,_,U,zb,T.bw,T.dq,U,_,_,U, ?_⟩
       refine⟨_,U,_,U,_,_,_,_,_,U,zb,T.bw,T.cC,U,m,_,_,_,U,U,af,wY (by rw[OZ];exact FJ), ?_⟩
       rw[aL,min_eq,rm]
       exact second _ (by rw[if_pos q])
     exact second _ (by rw[if_neg q])
   rintro σ H' ⟨OY,rfl,rfl⟩
   refine⟨_,_,_,_,U, ?_⟩
   rw[fM wX,hM,kP.cz,ac3]
   rfl
 rintro σ H' ⟨o3,o4,o5,o6,rfl,rfl⟩
 refine⟨_,U, ?_⟩
 rw[hR.cz,ac3]
 exact k _ m (hk _) hm af
end
def eF(A:Ad)(H:Hp)(r t th rd:Addr):Prop:=∃dx,H r=some (.ins A.Reach dx [("timetable", .ref t),("there", .ref th),("ready", .ref rd)])
structure jm(H:Hp)(th rd:Addr)(a:Arr):Prop where
 t:H th=some (.lst (a.1.map V.int))
 r:H rd=some (.lst (a.2.map V.int))
 ne:th≠rd
theorem eF.BB {A:Ad} {H H':Hp} {r t th rd:Addr} {a:Arr} (h:eF A H r t th rd) (ar:jm H th rd a) (k:g8 H H' th rd):eF A H' r t th rd:=by
 obtain⟨dx,h⟩:=h
 exact⟨dx,k _ _ h (bH h ar.t (by intro q;cases q)) (bH h ar.r (by intro q;cases q))⟩
theorem tP{H0 H H':Hp}{th rd:Addr}(s:ak H0 H)(k:g8 H H' th rd)(h1:H0 th=none)(h2:H0 rd=none):ak H0 H':=fun b o e=>k b o (s b o e) (aw e h1) (aw e h2)
theorem iL{xs:List Int}{n:Nat}(h:xs.length=n)(hn:0<n):xs≠[]:=by
 intro q
 rw[q]at h
 simp at h
 lia
section
variable{P:Program}{w:World}{K:PySem.W.Frag}{mg:Str->Option Value}{base:Heap}{A:Ad}
def rp(A:Ad):Sp:=fun vs H Q _=>∃(r t th rd:Addr)(a:Arr)(n:Nat)(mi ry:Int),vs=[.ref r, .int (n:Nat), .int mi, .int ry]/\eF A H r t th rd/\jm H th rd a/\n<a.1.length/\n<a.2.length/\
 ∀H':Hp,g8 H H' th rd->jm H' th rd (gx a n mi ry)->Q .dR H'
abbrev mj:Stmt:=inClass (top 47) 1
theorem xE:aB ["self","stop","minute","ready"] ["self","stop","minute","ready"] (ao mj):=sm
theorem xF{f:Addr}{fd:FuncData}(F:eH K "arrive" "Reach.arrive" mj f fd)(T:Txt K mg A):bq P w K mg base eD 1 f fd ["self","stop","minute","ready"] (rp A):=by
 refine F.ok xE (fun vs H Q E h=> ?_) (fun dz Ar outer s H vs Q E hr h=> ?_)
 . obtain⟨_,_,_,_,_,_,_,_,rfl,_⟩:=h
   rfl
 obtain⟨r,t,th,rd,a,n,mi,ry,rfl,⟨dx,hR⟩,hA,h1,h2,k⟩:=h
 refine⟨_,(ae (qD (aP (vA rfl) (by rfl) T.G8 boot_min (aa (aM ax (ai (pv 0) rfl) (pv 1) (fun _ _=>rfl)) (aa (pv 2) ag))) (qC (ai (pv 0) rfl) (pv 1) set_list))
  (ah (qD (aP (vA rfl) (by rfl) T.G8 boot_min (aa (aM ax (ai (pv 0) rfl) (pv 1) (fun _ _=>rfl)) (aa (pv 3) ag))) (qC (ai (pv 0) rfl) (pv 1) set_list)))), ?_⟩
 refine⟨_,U,_,_,_,_,_,U,hR,T.b8,T.fZ,U,_,U,_,_,_,_,U,U,aW.of hA.t,jk h1,_,U,_,_,U,_,U,_,_,_,_,_,U,hR,T.b8,T.fZ,U,_,U,th,_,_,_,U,U,hA.t,wY h1, ?_⟩
 rw[min_eq,rm]
 have Jo:=fD (o:= .lst ((a.1.set n (min (a.1.getD n 0) mi)).map V.int)) hA.t _ _ _ _ hR
 have qy:(upd H th (.lst ((a.1.set n (min (a.1.getD n 0) mi)).map V.int))) rd=some (.lst (a.2.map V.int)):=by
  rw[au (abp hA.ne)]
  exact hA.r
 refine⟨_,U,_,_,_,_,_,U,Jo,T.b8,T.gb,U,_,U,_,_,_,_,U,U,aW.of qy,jk h2,_,U,_,_,U,_,U,_,_,_,_,_,U,Jo,T.b8,T.gb,U,_,U,rd,_,_,_,U,U,qy,wY h2, ?_⟩
 rw[min_eq,rm]
 refine k _ (fun b o e e1 e2=> ?_) ⟨?_,af,hA.ne⟩
 . rw[au e2,au e1]
   exact e
 rw[au hA.ne,af]
 rfl
def tQ(A:Ad):Sp:=fun vs H Q _=>∃(r t th rd ml:Addr)(a:Arr)(ms:List Int)(T:Sg45.Table)(zs:List Nat)(day:Nat),vs=[.ref r, .ref ml]/\eF A H r t th rd/\jm H th rd a/\TabAt A H t T zs day/\H ml=some (.lst (ms.map V.int))/\ml≠th/\ml≠rd/\
 a.1.length=T.stops.length/\a.2.length=T.stops.length/\ms.length=T.stops.length/\0<T.stops.length/\(∀w∈T.walks,w.from_<T.stops.length/\w.to<T.stops.length/\w.minutes<=240)/\
 ∀H':Hp,g8 H H' th rd->jm H' th rd (dA T.walks ms a)->Q .dR H'
abbrev jn:Stmt:=inClass (top 47) 2
theorem iM:aB ["self","minutes","walk","minute"] ["self","minutes"] (ao jn):=sm
theorem tR{f:Addr}{fd:FuncData}(F:eH K "walk_from" "Reach.walk_from" jn f fd)(T:Txt K mg A)(cP:MethAt P w K mg base 1 A.Reach "arrive" ["self","stop","minute","ready"] (rp A)):bq P w K mg base eD 2 f fd ["self","minutes"] (tQ A):=by
 refine F.ok iM (fun vs H Q E h=> ?_) (fun dz Ar outer s H vs Q E hr h=> ?_)
 . obtain⟨_,_,_,_,_,_,_,_,_,_,rfl,_⟩:=h
   rfl
 obtain⟨r,t,th,rd,ml,a,ms,Tb,zs,day,rfl,hR,hA,hT,O0,NC,OH,l1,l2,l3,nF,Ih,k⟩:=h
 have lT:=hT
 obtain⟨sl,wl,tl,ss,ws,ts,hT⟩:=hT
 obtain⟨dt,hi⟩:=hT.ins
 obtain⟨dr,O1⟩:=hR
 refine⟨_,(ah (dI acZ rfl (cG (ai (ai (pv 0) rfl) rfl)) (aX (i:=2) iM.nd rfl oi) (ae (aC (i:=3) iM.nd rfl oi (bA ft (aM ax (pv 1) (ai (pv 2) rfl) (fun _ _=>rfl)) (ai (pv 2) rfl)))
  (ah (cF (bB (pv 0) cP hr (aa (ai (pv 2) rfl) (aa (pv 3) (aa (pv 3) ag))))))))), ?_⟩
 have kR:∀{H':Hp},g8 H H' th rd->uM H H':=fun k2=>k2.keepR hA.t hA.r (iL l1 nF) (iL l2 nF)
 refine⟨_,U,_,_,_,_,_,U,O1,T.b8,T.jf,U,_,_,_,_,_,U,hi,T.az,T.cg,U,wl,U,⟨_,aW.of hT.wk.lst⟩, ?_⟩
 refine eQ (K:=K) (a:=wl) (xs:=ws.map V.ref) (fun i σ H'=>∃o2 o3,σ=[some (.ref r),some (.ref ml),o2,o3]/\g8 H H' th rd/\jm H' th rd (dA (Tb.walks.take i) ms a))
  ⟨none,none,rfl,fun _ _ e _ _=>e,hA⟩ (fun i σ H' _⟨_,_,_,k2,_⟩=>aW.of ((kR k2).refs _ _ hT.wk.lst)) ?_ ?_
 . rintro i v σ H' hv ⟨o2,o3,rfl,k2,Kw⟩
   obtain⟨wa,wk,rfl,DJ,⟨dw,IG⟩⟩:=hT.wk.turn hv
   have hb:=Ih wk (abW DJ)
   have D9:=(kR k2).ins _ _ _ _ IG
   have V3:=k2 _ _ O0 NC OH
   have Zw:eF A H' r t th rd:=eF.BB ⟨dr,O1⟩ hA k2
   obtain⟨ND,Ea⟩:=Zw
   have len:=fU (m:=ms) (ws:=Tb.walks.take i) (a:=a)
   refine⟨_,U,_,U,_,_,_,_,_,U,D9,T.dm,T.gU,U,_,_,_,_,U,U,aW.of V3,jk (by rw[l3];exact hb.1),_,U,_,_,_,_,_,U,D9,T.dm,T.gD,U,_,_,U,U, ?_⟩
   refine⟨_,U,r,ND,_,U,Ea,U,_,U,_,_,_,_,_,U,D9,T.dm,T.jR,U,_,U,_,U,r,t,th,rd,_,wk.to,_,_,U,⟨ND,Ea⟩,Kw, ?_, ?_,fun H3 k3 V4=> ?_⟩
   . rw[len.1,l1];exact hb.2.1
   . rw[len.2,l2];exact hb.2.1
   refine⟨_,_,U,k2.trans k3, ?_⟩
   have e:dA (Tb.walks.take (i+1)) ms a=ie ms (dA (Tb.walks.take i) ms a) wk:=by
    unfold dA
    exact fM DJ
   rw[e]
   exact V4
 rintro σ H' ⟨o2,o3,rfl,k2,Kw⟩
 rw[hT.wk.cz,ac3]at Kw
 exact k H' k2 Kw
def ze(A:Ad):Sp:=fun vs H Q _=>∃(r t th rd rl:Addr)(a:Arr)(rs:List Run)(T:Sg45.Table)(zs:List Nat)(day:Nat),vs=[.ref r, .ref rl]/\eF A H r t th rd/\jm H th rd a/\TabAt A H t T zs day/\jj A H rl rs/\
 (∀r∈rs,∀c∈r.cs,c.st<T.stops.length)/\a.1.length=T.stops.length/\a.2.length=T.stops.length/\0<T.stops.length/\T.stops.length<=10/\(∀w∈T.walks,w.from_<T.stops.length/\w.to<T.stops.length/\w.minutes<=240)/\
 ∀H':Hp,g8 H H' th rd->jm H' th rd (eR T rs a)->Q .dR H'
abbrev jo:Stmt:=inClass (top 47) 3
theorem fN:aB ["self","runs","minutes","number","stop"] ["self","runs"] (ao jo):=sm
theorem tS{f:Addr}{fd:FuncData}(F:eH K "ride_once" "Reach.ride_once" jo f fd)(T:Txt K mg A)(cP:MethAt P w K mg base 1 A.Reach "arrive" ["self","stop","minute","ready"] (rp A))(dG:MethAt P w K mg base 2 A.Reach "walk_from" ["self","minutes"] (tQ A))(nG:FnAt P w K mg base 1 "minutes_off" ["runs","ready"] (uN A)):bq P w K mg base eD 3 f fd ["self","runs"] (ze A):=by
 refine F.ok fN (fun vs H Q E h=> ?_) (fun dz Ar outer s H vs Q E hr h=> ?_)
 . obtain⟨_,_,_,_,_,_,_,_,_,_,rfl,_⟩:=h
   rfl
 obtain⟨r,t,th,rd,rl,a,rs,Tb,zs,day,rfl,hR,hA,lT,Kx,lA,l1,l2,nF,ME,Ih,k⟩:=h
 obtain⟨sl,wl,tl,ss,ws,ts,hT⟩:=lT
 obtain⟨dt,hi⟩:=hT.ins
 obtain⟨dr,O1⟩:=hR
 refine⟨_,(ae (aC (i:=2) fN.nd rfl oi (aO nG hr rfl (aa (pv 1) (aa (ai (pv 0) rfl) ag))))
  (ae (dI acZ rfl (oP rfl T.gC (aa (ai (ai (pv 0) rfl) rfl) ag)) (sZ rfl (eP (aX (i:=3) fN.nd rfl oi) (eP (aX (i:=4) fN.nd rfl oi) oM))) (ah (cF (bB (pv 0) cP hr (aa (pv 3) (aa (aM ax (pv 2) (pv 3) (fun _ _=>rfl)) (aa (bA ft (aM ax (pv 2) (pv 3) (fun _ _=>rfl)) (ai (pv 4) rfl)) ag)))))))
  (ah (cF (bB (pv 0) dG hr (aa (pv 2) ag)))))), ?_⟩
 refine⟨_,U,_,U,_,_,_,_,_,U,O1,T.b8,T.gb,U,rl,rd,rs,a.2,U,Kx,hA.r,(by rw[l2];exact lA),(by rw[l2];exact ME),fun H1 m s1 QI NC=> ?_⟩
 have RX:jm H1 th rd a:=⟨s1 _ _ hA.t,s1 _ _ hA.r,hA.ne⟩
 have Ly:=hT.same s1
 have V5:m≠th:=fun q=>by rw[q,hA.t]at QI;cases QI
 have V6:m≠rd:=fun q=>by rw[q,hA.r]at QI;cases QI
 have kR:∀{H':Hp},g8 H1 H' th rd->uM H1 H':=fun k2=>k2.keepR RX.t RX.r (iL l1 nF) (iL l2 nF)
 have lm:(dd rs a.2).length=Tb.stops.length:=by unfold dd;rw[l6];simp[l2]
 refine⟨_,U,_,_,_,_,_,U,s1 _ _ O1,T.b8,T.jf,U,_,_,_,_,_,U,s1 _ _ hi,T.az,T.aS,U,_,_,U,aW.of Ly.st.lst, ?_⟩
 refine oq (K:=K) (a:=sl) (xs:=ss.map V.ref) (fun i σ H'=>∃o3 o4,σ=[some (.ref r),some (.ref rl),some (.ref m),o3,o4]/\g8 H1 H' th rd/\jm H' th rd (fv Tb (dd rs a.2) a i))
  ⟨none,none,rfl,fun _ _ e _ _=>e,RX⟩ (fun i σ H' _⟨_,_,_,k2,_⟩=>aW.of ((kR k2).refs _ _ Ly.st.lst)) ?_ ?_
 . rintro i v σ H' Tu hv ⟨o3,o4,rfl,k2,Kw⟩ FH
   obtain⟨sa,x,rfl,MG,⟨X0,QK⟩⟩:=Ly.st.turn hv
   have di:i<Tb.stops.length:=by
    have:=(abt.mp MG).1
    rwa[kj hT.zl]at this
   have ex:x.1=Tb.stops.getD i 0:=by
    rw[zip_get di hT.zl]at MG
    have:=Option.some.inj MG
    rw[<-this]
   have s3:ak H' (upd H' Tu (.tup [.int i, .ref sa])):=ak.upd FH
   have V7:=s3 _ _ ((kR k2).ins _ _ _ _ QK)
   have Uq:=s3 _ _ (k2 _ _ NC V5 V6)
   obtain⟨ND,Ea⟩:=eF.BB (A:=A) (r:=r) (t:=t) ⟨dr,s1 _ _ O1⟩ RX k2
   have V4:jm (upd H' Tu (.tup [.int i, .ref sa])) th rd (fv Tb (dd rs a.2) a i):=⟨s3 _ _ Kw.t,s3 _ _ Kw.r,Kw.ne⟩
   have len:=cy (T:=Tb) (m:=dd rs a.2) (a:=a) (n:=i)
   refine⟨_,U,r,ND,_,U,s3 _ _ Ea,U,_,U,_,U,_,U,_,_,_,_,U,U,aW.of Uq,jk (by rw[lm];exact di),_,U,_,U,_,_,_,_,U,U,aW.of Uq,jk (by rw[lm];exact di),_,U,_,_,_,_,_,U,V7,T.kd,T.ke,U,_,_,U,U,
    r,t,th,rd,_,i,_,_,rfl,⟨ND,s3 _ _ Ea⟩,V4,(by rw[len.1,l1];exact di),(by rw[len.2,l2];exact di),fun H4 k4 Ur=> ?_⟩
   refine⟨_,_,U,(k2.trans (g8.of s3)).trans k4, ?_⟩
   rw[ny]
   rw[ex]at Ur
   exact Ur
 rintro σ H' ⟨o3,o4,rfl,k2,Kw⟩
 rw[hT.st.cz,kj hT.zl]at Kw
 obtain⟨ND,Ea⟩:=eF.BB (A:=A) (r:=r) (t:=t) ⟨dr,s1 _ _ O1⟩ RX k2
 have len:=cy (T:=Tb) (m:=dd rs a.2) (a:=a) (n:=Tb.stops.length)
 refine⟨_,U,r,ND,_,U,Ea,U,_,U,r,t,th,rd,m,_,_,Tb,zs,day,U,⟨ND,Ea⟩,Kw,⟨sl,wl,tl,ss,ws,ts,Ly.keepR (kR k2)⟩,k2 _ _ NC V5 V6,V5,V6,(by rw[len.1,l1]),(by rw[len.2,l2]),lm,nF,Ih,fun H4 k4 Ur=> ?_⟩
 exact k H4 (((g8.of s1).trans k2).trans k4) Ur
end
theorem vQ{ss:List Addr}{T:Sg45.Table}(h:ss.length=T.stops.length):(ss.map fun _=>br)=bf T:=by
 unfold bf
 rw[ac9,ac9,h]
theorem Ky:∀(a b:List Int),PyData.eqv (.list (a.map PyData.int)) (.list (b.map PyData.int))=decide (a=b):=by
 have h:∀(a b:List Int),PyData.eqvAll (a.map PyData.int) (b.map PyData.int)=decide (a=b):=by
  intro a
  induction a with
  |nil=>
   intro b
   cases b<;>simp[PyData.eqvAll]
  |cons x a ih=>
   intro b
   cases b with
   |nil=>simp[PyData.eqvAll]
   |cons y b=>
    rw[abH,abH,PyData.eqvAll,ih b]
    simp[PyData.eqv]
    by_cases e:x=y<;>simp[e]
 intro a b
 rw[PyData.eqv]
 exact h a b
theorem CD{K:PySem.W.Frag}{H:Hp}:∀(a:List Int),yD K H (a.map V.int) (a.map PyData.int)
 |[]=> .nil
 |x::a=> .cons (.int x) (CD a)
theorem shaped_ints(a:List Int):SeqAt.shaped (.list (a.map PyData.int))=true:=by
 have h1:∀a:List Int,PyData.canLayAll0 (a.map PyData.int)=true:=by
  intro a
  induction a with
  |nil=>rfl
  |cons x a ih=>
   rw[abH,PyData.canLayAll0,ih]
   rfl
 have h2:∀a:List Int,PyData.depthAll (a.map PyData.int)<=1:=by
  intro a
  induction a with
  |nil=>decide
  |cons x a ih=>
   rw[abH,PyData.depthAll]
   have:PyData.depth (.int x)<=1:=by simp[PyData.depth]
   lia
 unfold SeqAt.shaped
 rw[ab6]
 refine⟨?_, ?_⟩
 . rw[PyData.canLay0]
   exact h1 a
 rw[decide_eq_true_eq,PyData.depth]
 have:=h2 a
 lia
theorem wZ{T:Sg45.Table}{day:Nat}{x:Sg45.Place}{n g:Nat}(hg:g<T.stops.length):(aH T day x (n+1)).1.getD g 0<=(aH T day x n).1.getD g 0:=by
 have len:=jL (T:=T) (day:=day) (x:=x) (n:=n)
 show(eR T (aZ T day) (aH T day x n)).1.getD g 0<=_
 unfold eR
 rw[om (by rw[cy.1,len.1];exact hg),lD (by rw[len.1];exact hg)]
 exact .inl (.inl (acu _))
theorem w6{T:Sg45.Table}{day:Nat}{x:Sg45.Place}{g:Nat}(hg:g<T.stops.length){m:Nat}:∀{n:Nat},m<=n->(aH T day x n).1.getD g 0<=(aH T day x m).1.getD g 0
 |0,h=>by
  have:m=0:=by lia
  rw[this]
  exact acu _
 |n+1,h=>by
  by_cases e:m=n+1
  . rw[e]
    exact acu _
  have h1:=w6 (T:=T) (day:=day) (x:=x) hg (m:=m) (n:=n) (by lia)
  have h2:=wZ (T:=T) (day:=day) (x:=x) (n:=n) hg
  lia
section
variable{P:Program}{w:World}{K:PySem.W.Frag}{mg:Str->Option Value}{base:Heap}{A:Ad}
def w8(A:Ad):Sp:=fun vs H Q _=>∃(p dx t a:Addr)(T:Sg45.Table)(zs:List Nat)(day:Nat)(x:Sg45.Place)(H0:Hp),vs=[.ref p, .ref t, .ref a]/\H0 p=none/\H0 dx=none/\dx≠p/\H=upd (upd H0 dx (.own p)) p (.ins A.Reach dx [])/\TabAt A H0 t T zs day/\cY A H0 a x/\
 x.halt_<T.stops.length/\x.way<=2/\T.stops.length<=10/\(∀w∈T.walks,w.from_<T.stops.length/\w.to<T.stops.length/\w.minutes<=240)/\
 ∀(H':Hp)(th rd:Addr),ak H0 H'->H0 th=none->H0 rd=none->eF A H' p t th rd->jm H' th rd (iF T x)->Q .dR H'
abbrev pG:Stmt:=inClass (top 47) 0
theorem eW:aB ["self","timetable","place","stop","walkable"] ["self","timetable","place"] (ao pG):=sm
theorem Aw{f:Addr}{fd:FuncData}(F:eH K "__init__" "Reach.__init__" pG f fd)(T:Txt K mg A)(cP:MethAt P w K mg base 1 A.Reach "arrive" ["self","stop","minute","ready"] (rp A))(dG:MethAt P w K mg base 2 A.Reach "walk_from" ["self","minutes"] (tQ A))(cO:FnAt P w K mg base 1 "ready_minute" ["timetable","place"] (uL A)):bq P w K mg base eD 3 f fd ["self","timetable","place"] (w8 A):=by
 refine F.ok eW (fun vs H Q E h=> ?_) (fun dz Ar outer s H vs Q E hr h=> ?_)
 . obtain⟨_,_,_,_,_,_,_,_,_,rfl,_⟩:=h
   rfl
 obtain⟨p,dx,t,a,Tb,zs,day,x,H0,rfl,FK,MH,V8,rfl,lT,MI,hx,IG,ME,Ih,k⟩:=h
 obtain⟨sl,wl,tl,ss,ws,ts,hT⟩:=lT
 obtain⟨dt,hi⟩:=hT.ins
 obtain⟨da,ha⟩:=MI
 have O2:ss.length=Tb.stops.length:=by rw[hT.st.len,kj hT.zl]
 have Ac:∀{H':Hp},ak H0 H'->aW K H' sl (ss.map V.ref):=fun s=>aW.of (s _ _ hT.st.lst)
 have O3:(ss.map V.ref).length<sizeLine:=by rw[abI,O2];exact acW ME (by decide)
 have nF:0<Tb.stops.length:=by lia
 refine⟨_,(ae (aU (pv 0) (pv 1) rfl)
  (ae (aU (pv 0) (wB rfl eW.nd (cG (ai (pv 1) rfl)) (ee (own:=[("stop",3)]) (by rfl)) (fun _ _ _ _ _=>(aX (i:=3) eW.nd rfl oi)) (fun _ _ _ _ _=>iu) (fun _ _ _ _ _=>(bj rfl T.ka))) rfl)
  (ae (aU (pv 0) (wB rfl eW.nd (cG (ai (pv 1) rfl)) (ee (own:=[("stop",3)]) (by rfl)) (fun _ _ _ _ _=>(aX (i:=3) eW.nd rfl oi)) (fun _ _ _ _ _=>iu) (fun _ _ _ _ _=>(bj rfl T.ka))) rfl)
  (ae (bg (ay GJ (ai (pv 2) rfl) (bj rfl T.ot) nk) (ae (lZ (i:=4) rfl eW.nd rfl rfl rfl (cG (ai (pv 1) rfl)) (ee (own:=[("stop",3)]) (by rfl)) (fun _ _ _ _ _=>(aX (i:=3) eW.nd rfl oi)) (fun _ _ _ _ _=>iu) (fun _ _ _ _ _=>(bj rfl T.ka)))
  (ae (qD (ai (pv 2) rfl) (qC (pv 4) (ai (pv 2) rfl) set_list))
  (ah (cF (bB (pv 0) dG hr (aa (pv 4) ag)))))) aF)
  (ah (cF (bB (pv 0) cP hr (aa (ai (pv 2) rfl) (aa (ai (pv 2) rfl) (aa (aO cO hr rfl (aa (pv 1) (aa (pv 2) ag))) ag)))))))))), ?_⟩
 refine⟨_,U,_,U,p,_,dx,_,U,af,T.b8,T.jf,Ud, ?_⟩
 rw[aL,show bc "timetable" (.ref t) ([]:aV)=([("timetable", .ref t)]:aV)from aI (ns:=[]) rfl (by decide+kernel)]
 have s1:ak H0 (upd (upd H0 dx (.own p)) p (.ins A.Reach dx [("timetable", .ref t)])):=dE FK MH
 have p1:(upd (upd H0 dx (.own p)) p (.ins A.Reach dx [("timetable", .ref t)])) p=some (.ins A.Reach dx [("timetable", .ref t)]):=af
 generalize upd (upd H0 dx (.own p)) p (.ins A.Reach dx [("timetable", .ref t)])=H1 at s1 p1⊢
 refine⟨_,U,_,_,_,_,_,U,s1 _ _ hi,T.az,T.aS,U,sl,U,⟨_,Ac s1⟩,fun th RY=> ?_⟩
 refine QJ (v:=V.int br) (fun _ _ _ q=>q) (Ac s1) O3 RY ?_
 rw[km,vQ O2]
 have V9:p≠th:=aw p1 RY
 have p2:(upd H1 th (.lst ((bf Tb).map V.int))) p=some (.ins A.Reach dx [("timetable", .ref t)]):=by rw[au V9];exact p1
 refine⟨_,U,p,_,dx,_,U,p2,T.b8,T.fZ,Ud, ?_⟩
 rw[show bc "there" (.ref th) ([("timetable", .ref t)]:aV)=([("timetable", .ref t),("there", .ref th)]:aV)from aI (ns:=["timetable"]) rfl (by decide+kernel)]
 have MJ:H0 th=none:=s1.free RY
 have s3:ak H0 (upd (upd H1 th (.lst ((bf Tb).map V.int))) p (.ins A.Reach dx [("timetable", .ref t),("there", .ref th)])):=ak.fy (ak.fy s1 MJ) FK
 have p3:(upd (upd H1 th (.lst ((bf Tb).map V.int))) p (.ins A.Reach dx [("timetable", .ref t),("there", .ref th)])) p=some (.ins A.Reach dx [("timetable", .ref t),("there", .ref th)]):=af
 have t3:(upd (upd H1 th (.lst ((bf Tb).map V.int))) p (.ins A.Reach dx [("timetable", .ref t),("there", .ref th)])) th=some (.lst ((bf Tb).map V.int)):=by rw[au (abp V9),af]
 generalize upd (upd H1 th (.lst ((bf Tb).map V.int))) p (.ins A.Reach dx [("timetable", .ref t),("there", .ref th)])=H3 at s3 p3 t3⊢
 refine⟨_,U,_,_,_,_,_,U,s3 _ _ hi,T.az,T.aS,U,sl,U,⟨_,Ac s3⟩,fun rd nX=> ?_⟩
 refine QJ (v:=V.int br) (fun _ _ _ q=>q) (Ac s3) O3 nX ?_
 rw[km,vQ O2]
 have X1:p≠rd:=aw p3 nX
 have X2:th≠rd:=aw t3 nX
 have p4:(upd H3 rd (.lst ((bf Tb).map V.int))) p=some (.ins A.Reach dx [("timetable", .ref t),("there", .ref th)]):=by rw[au X1];exact p3
 refine⟨_,U,p,_,dx,_,U,p4,T.b8,T.gb,Ud, ?_⟩
 rw[show bc "ready" (.ref rd) ([("timetable", .ref t),("there", .ref th)]:aV)=([("timetable", .ref t),("there", .ref th),("ready", .ref rd)]:aV)from aI (ns:=["timetable","there"]) rfl (by decide+kernel)]
 have MK:H0 rd=none:=s3.free nX
 have s5:ak H0 (upd (upd H3 rd (.lst ((bf Tb).map V.int))) p (.ins A.Reach dx [("timetable", .ref t),("there", .ref th),("ready", .ref rd)])):=ak.fy (ak.fy s3 MK) FK
 have R5:eF A (upd (upd H3 rd (.lst ((bf Tb).map V.int))) p (.ins A.Reach dx [("timetable", .ref t),("there", .ref th),("ready", .ref rd)])) p t th rd:=⟨dx,af⟩
 have A5:jm (upd (upd H3 rd (.lst ((bf Tb).map V.int))) p (.ins A.Reach dx [("timetable", .ref t),("there", .ref th),("ready", .ref rd)])) th rd (bf Tb,bf Tb):=⟨by rw[au (abp V9),au X2];exact t3,by rw[au (abp X1),af],X2⟩
 generalize upd (upd H3 rd (.lst ((bf Tb).map V.int))) p (.ins A.Reach dx [("timetable", .ref t),("there", .ref th),("ready", .ref rd)])=H5 at s5 R5 A5⊢
 have Eb:(bf Tb).length=Tb.stops.length:=by simp[bf]
 have fin:∀(H6:Hp)(b:Arr)(o4:Option V),ak H0 H6->eF A H6 p t th rd->jm H6 th rd b->b.1.length=Tb.stops.length->b.2.length=Tb.stops.length->b=(if x.way=2 then(bf Tb,bf Tb)else dA Tb.walks ((bf Tb).set x.halt_ x.time) (bf Tb,bf Tb))->
  Dg (Dn A.Reach "arrive" (rp A) [] E0 (cT 0) (cK (qI K (cT 2) "stop") (cK (qI K (cT 2) "minute") (cK (uj (uL A) [] E0 (cK (cT 1) (cK (cT 2) lW))) lW)))) {nx:=fun _ H'=>Q .dR H',rt:=Q} [some (.ref p),some (.ref t),some (.ref a),none,o4] H6:=fun H6 b o4 s6 R6 A6 l1 l2 eb=>by
  obtain⟨d6,Wa⟩:=R6
  refine⟨_,U,p,d6,_,U,Wa,U,_,U,_,_,_,_,_,U,s6 _ _ ha,T.bJ,T.dS,U,_,U,_,_,_,_,_,U,s6 _ _ ha,T.bJ,T.cw,U,_,U,_,U,t,a,Tb,zs,day,x,U,⟨sl,wl,tl,ss,ws,ts,hT.same s6⟩,⟨da,s6 _ _ ha⟩,hx,
   p,t,th,rd,b,x.halt_,_,_,rfl,⟨d6,Wa⟩,A6,(by rw[l1];exact hx),(by rw[l2];exact hx),fun H7 k7 A7=> ?_⟩
  refine k H7 th rd (tP s6 k7 MJ MK) MJ MK (eF.BB ⟨d6,Wa⟩ A6 k7) ?_
  unfold iF
  rw[<-eb]
  exact A7
 refine⟨_,U,_,_,_,_,_,U,s5 _ _ ha,T.bJ,T.kE,U,U,_,U, ?_⟩
 refine aK (fun c=> ?_) (fun c=> ?_)
 . have c:¬x.way=2:=by
    intro q
    rw[q]at c
    exact absurd c (by decide)
   refine⟨_,U,_,_,_,_,_,U,s5 _ _ hi,T.az,T.aS,U,sl,U,⟨_,Ac s5⟩,fun ml O0=> ?_⟩
   refine QJ (v:=V.int br) (fun _ _ _ q=>q) (Ac s5) O3 O0 ?_
   rw[km,vQ O2]
   have s6:ak H5 (upd H5 ml (.lst ((bf Tb).map V.int))):=ak.upd O0
   refine⟨_,U,_,_,_,_,_,U,s6 _ _ (s5 _ _ ha),T.bJ,T.cw,U,_,U,_,U,_,_,_,_,_,U,s6 _ _ (s5 _ _ ha),T.bJ,T.dS,U,ml,_,_,_,U,U,af,wY (by rw[Eb];exact hx), ?_⟩
   rw[aL,rm]
   have s7:ak H5 (upd H5 ml (.lst (((bf Tb).set x.halt_ x.time).map V.int))):=ak.upd O0
   obtain⟨d5,Wb⟩:=R5
   have A7:jm (upd H5 ml (.lst (((bf Tb).set x.halt_ x.time).map V.int))) th rd (bf Tb,bf Tb):=⟨s7 _ _ A5.t,s7 _ _ A5.r,A5.ne⟩
   refine⟨_,U,p,d5,_,U,s7 _ _ Wb,U,_,U,p,t,th,rd,ml,(bf Tb,bf Tb),_,Tb,zs,day,U,⟨d5,s7 _ _ Wb⟩,A7,⟨sl,wl,tl,ss,ws,ts,hT.same (s5.trans s7)⟩,af,abp (aw A5.t O0),abp (aw A5.r O0),Eb,Eb,(by rw[ab0];exact Eb),nF,Ih,fun H8 k8 A8=> ?_⟩
   refine fin H8 _ _ (tP (s5.trans s7) k8 MJ MK) (eF.BB ⟨d5,s7 _ _ Wb⟩ A7 k8) A8 (by rw[fU.1];exact Eb) (by rw[fU.2];exact Eb) (by rw[if_neg c])
 have c:x.way=2:=by
  apply acp
  intro q
  apply c
  have:decide (V.int (x.way:Int)=V.int 2)=false:=by
   apply decide_eq_false
   intro z
   injection z with z
   lia
  rw[this]
  rfl
 exact fin H5 _ _ s5 R5 A5 Eb Eb (by rw[if_pos c])
def zf(A:Ad):Sp:=fun vs H Q _=>∃(t rl a:Addr)(g:Nat)(T:Sg45.Table)(zs:List Nat)(day:Nat)(x:Sg45.Place),vs=[.ref t, .ref rl, .ref a, .int (g:Nat)]/\TabAt A H t T zs day/\dQ T day/\jj A H rl (aZ T day)/\cY A H a x/\qZ T x/\g<T.stops.length/\
 ∀(H':Hp)(tu:Addr)(n f:Nat),ak H H'->H' tu=some (.tup [.int ((aH T day x (n+1)).1.getD g 0), .int (f:Nat)])->(aH T day x n).2=(aH T day x (n+1)).2->f<=n+1->(aH T day x f).1.getD g 0=(aH T day x (n+1)).1.getD g 0->(∀m,m<f->(aH T day x (n+1)).1.getD g 0<(aH T day x m).1.getD g 0)->Q (.ref tu) H'
def vR(T:Sg45.Table)(day:Nat)(x:Sg45.Place):Nat->List Int
 |0=>[]
 |n+1=>(aH T day x n).2
abbrev tT:Stmt:=top 49
theorem dZ:aB ["timetable","runs","place","goal","reach","minute","fewest","rides","ready"] ["timetable","runs","place","goal"] (ao tT):=sm
theorem Ec{f:Addr}{fd:FuncData}(F:eH K "earliest" "earliest" tT f fd)(T:Txt K mg A)(CF:eG P w K mg base 3 "Reach" A.Reach ["self","timetable","place"] (w8 A))(jq:MethAt P w K mg base 3 A.Reach "ride_once" ["self","runs"] (ze A)):bq P w K mg base eD 5 f fd ["timetable","runs","place","goal"] (zf A):=by
 refine F.ok dZ (fun vs H Q E h=> ?_) (fun dz Ar outer s H vs Q E hr h=> ?_)
 . obtain⟨_,_,_,_,_,_,_,_,rfl,_⟩:=h
   rfl
 obtain⟨t,rl,a,g,Tb,zs,day,x,rfl,lT,ok,Kx,qJ,px,hg,k⟩:=h
 have tok:=ok.tok
 have nF:0<Tb.stops.length:=by lia
 refine⟨_,(ae (aC (i:=4) dZ.nd rfl oi (cv CF hr rfl (aa (pv 0) (aa (pv 2) ag))))
  (ae (aC (i:=5) dZ.nd rfl oi (aM ax (ai (pv 4) rfl) (pv 3) (fun _ _=>rfl)))
  (ae (aC (i:=6) dZ.nd rfl oi aj)
  (ae (aC (i:=7) dZ.nd rfl oi aj)
  (ae (aC (i:=8) dZ.nd rfl oi (bb ag))
  (ae (qF acZ (ay (Ot hr.units) (pv 8) (ai (pv 4) rfl) nk) (ae (aC (i:=8) dZ.nd rfl oi (Bc uk (by rfl) T.Kp boot_list (aa (ai (pv 4) rfl) ag)))
  (ae (qE (i:=7) dZ.nd rfl oi aj E3)
  (ae (cF (bB (pv 4) jq hr (aa (pv 1) ag)))
  (ah (bg (ay lV (aM ax (ai (pv 4) rfl) (pv 3) (fun _ _=>rfl)) (pv 5) nk) (ae (aC (i:=5) dZ.nd rfl oi (aM ax (ai (pv 4) rfl) (pv 3) (fun _ _=>rfl)))
  (ah (aC (i:=6) dZ.nd rfl oi (pv 7)))) aF))))))
  (ah (aA (JM (aa (pv 5) (aa (pv 6) ag))))))))))), ?_⟩
 refine⟨_,U,_,U, ?_⟩
 intro r dr Zx MH ir
 refine⟨r,dr,t,a,Tb,zs,day,x,H,U,Zx,MH,ir,U,lT,qJ,px.hl,px.wy,ok.ns,ok.wk,fun H1 th rd s1 RY nX R1 A1=>⟨U, ?_⟩⟩
 obtain⟨d1,Lz⟩:=R1
 have len:=fun n=>jL (T:=Tb) (day:=day) (x:=x) (n:=n)
 refine⟨_,U,_,_,_,_,_,U,Lz,T.b8,T.fZ,U,_,U,_,_,_,_,U,U,aW.of A1.t,jk (by rw[yO.1];exact hg), ?_⟩
 refine⟨abE _,fun ry Us=> ?_⟩
 refine⟨fun m σ H'=>∃(n f:Nat)(ry:Addr),m=Sg45.many Tb day+2-n/\σ=[some (.ref t),some (.ref rl),some (.ref a),some (.int (g:Nat)),some (.ref r),some (.int ((aH Tb day x n).1.getD g 0)),some (.int (f:Nat)),some (.int (n:Nat)),some (.ref ry)]/\ak H H'/\eF A H' r t th rd/\jm H' th rd (aH Tb day x n)/\H' ry=some (.lst ((vR Tb day x n).map V.int))/\
  f<=n/\(aH Tb day x f).1.getD g 0=(aH Tb day x n).1.getD g 0/\(∀m,m<f->(aH Tb day x n).1.getD g 0<(aH Tb day x m).1.getD g 0),⟨_,0,0,ry,rfl,rfl,s1.trans (ak.upd Us),⟨d1,ak.upd Us _ _ Lz⟩,⟨ak.upd Us _ _ A1.t,ak.upd Us _ _ A1.r,A1.ne⟩,af,abB _,rfl,fun m hm=>by lia⟩, ?_⟩
 rintro m σ H2 ⟨n,f,ry,rfl,rfl,s2,⟨d2,Jo⟩,A2,Wc,hf,ef,lf⟩
 refine⟨_,U,_,U,_,_,_,_,_,U,Jo,T.b8,T.gb,U, .list ((vR Tb day x n).map .int), .list ((aH Tb day x n).2.map .int), .lst (aW.of Wc) (CD _), .lst (aW.of A2.r) (CD _),shaped_ints _,shaped_ints _,_,U, ?_⟩
 rw[Ky]
 refine aK (fun c=> ?_) (fun c=> ?_)
 . have c:vR Tb day x n≠(aH Tb day x n).2:=by simpa using c
   have hn:n<=Sg45.many Tb day+1:=by
    cases n with
    |zero=>lia
    |succ n=>
     have:=Ik tok px.wy (n:=n) c
     lia
   refine⟨fun ff H'=>∃m',m'<Sg45.many Tb day+2-n/\∃(n f:Nat)(ry:Addr),m'=Sg45.many Tb day+2-n/\ff=[some (.ref t),some (.ref rl),some (.ref a),some (.int (g:Nat)),some (.ref r),some (.int ((aH Tb day x n).1.getD g 0)),some (.int (f:Nat)),some (.int (n:Nat)),some (.ref ry)]/\ak H H'/\eF A H' r t th rd/\jm H' th rd (aH Tb day x n)/\H' ry=some (.lst ((vR Tb day x n).map V.int))/\
    f<=n/\(aH Tb day x f).1.getD g 0=(aH Tb day x n).1.getD g 0/\(∀m,m<f->(aH Tb day x n).1.getD g 0<(aH Tb day x m).1.getD g 0),fun ff H' q=>q, ?_⟩
   refine⟨_,U,_,_,_,_,_,U,Jo,T.b8,T.gb,U,_,_,U, .inl (aW.of A2.r),fun Ut Kz=> ?_⟩
   have s3:=ak.upd (o:= .lst ((aH Tb day x n).2.map V.int)) Kz
   have A3:jm (upd H2 Ut (.lst ((aH Tb day x n).2.map V.int))) th rd (aH Tb day x n):=⟨s3 _ _ A2.t,s3 _ _ A2.r,A2.ne⟩
   refine⟨_,U,_,_,U,U, ?_⟩
   refine⟨_,U,r,d2,_,U,s3 _ _ Jo,U,_,U,r,t,th,rd,rl,aH Tb day x n,aZ Tb day,Tb,zs,day,U,⟨d2,s3 _ _ Jo⟩,A3,lT.same (s2.trans s3),Kx.same (s2.trans s3),fun r hr c hc=>(tok.rn r hr c hc).1,(len n).1,(len n).2,nF,ok.ns,ok.wk,fun H4 k4 A4=> ?_⟩
   have s4:ak H H4:=tP (s2.trans s3) k4 RY nX
   obtain⟨d4,ML⟩:=eF.BB (A:=A) (r:=r) (t:=t) ⟨d2,s3 _ _ Jo⟩ A3 k4
   have A4:jm H4 th rd (aH Tb day x (n+1)):=A4
   have RZ:H4 Ut=some (.lst ((aH Tb day x n).2.map V.int)):=k4 _ _ af (abp (aw A2.t Kz)) (abp (aw A2.r Kz))
   have X3:=wZ (T:=Tb) (day:=day) (x:=x) (n:=n) hg
   refine⟨_,U,_,_,_,_,_,U,ML,T.b8,T.fZ,U,_,U,_,_,_,_,U,U,aW.of A4.t,jk (by rw[(len (n+1)).1];exact hg),_,U,_,_,U,U,_,U, ?_⟩
   refine aK (fun c2=> ?_) (fun c2=> ?_)
   . have c2:(aH Tb day x (n+1)).1.getD g 0<(aH Tb day x n).1.getD g 0:=of_decide_eq_true c2
     refine⟨_,U,_,_,_,_,_,U,ML,T.b8,T.fZ,U,_,U,_,_,_,_,U,U,aW.of A4.t,jk (by rw[(len (n+1)).1];exact hg), ?_⟩
     refine⟨_,U, ?_⟩
     refine⟨_,by lia,n+1,n+1,Ut,U,U,s4,⟨d4,ML⟩,A4,RZ,abB _,U,fun m hm=> ?_⟩
     have:=w6 (T:=Tb) (day:=day) (x:=x) hg (m:=m) (n:=n) (by lia)
     lia
   have c2:¬(aH Tb day x (n+1)).1.getD g 0<(aH Tb day x n).1.getD g 0:=fun q=>c2 (decide_eq_true q)
   have e:(aH Tb day x n).1.getD g 0=(aH Tb day x (n+1)).1.getD g 0:=by lia
   rw[e]
   refine⟨_,by lia,n+1,f,Ut,U,U,s4,⟨d4,ML⟩,A4,RZ,by lia,ef.trans e,fun m hm=> ?_⟩
   rw[<-e]
   exact lf m hm
 have c:vR Tb day x n=(aH Tb day x n).2:=by simpa using c
 cases n with
 |zero=>
  exfalso
  have:=congrArg List.length c
  rw[(len 0).2]at this
  simp[vR]at this
  lia
 |succ n=>
  refine⟨_,U,_,U,by show 2<=sizeLine;decide,fun tu R4=> ?_⟩
  exact k _ tu n f (s2.trans (ak.upd R4)) af c hf ef lf
end
theorem Rep.R7 {α:Type} {P:Hp->Addr->α->Prop} {H:Hp} {l:Addr} {as:List Addr} {xs:List α} (r:Rep P H l as xs) {i:Nat} {v:V} (h:(as.map V.ref).reverse[i]?=some v):∃a x,v= .ref a/\xs.reverse[i]?=some x/\P H a x:=by
 obtain⟨h1,h2⟩:=si.mp h
 obtain⟨a,x,e,hx,hp⟩:=r.turn h2
 have hl:=r.cz
 refine⟨a,x,e,si.mpr ⟨by lia, ?_⟩,hp⟩
 rw[<-hl]
 exact hx
theorem MM{K:PySem.W.Frag}{a D:Addr}{xs:List V}{i1 i2:Nat}{tt:TT}{te:TE}{vs:List Nat}{σ:L2.St}{H1:Hp}{Qd:Hp->Prop}(Pv:Nat->Hp->Prop)(h0:Pv 0 (upd H1 D (.lst [])))(hl:∀i H,i<=xs.length->Pv i H->aW K H a xs)
 (hs:∀(i:Nat)x H T,xs[i]?=some x->Pv i H->H T=none->wipe (((wipe σ vs).set i1 (some (.int i))).set i2 (some x)) vs=wipe σ vs/\tt (((wipe σ vs).set i1 (some (.int i))).set i2 (some x)) (upd H T (.tup [.int i,x])) fun b H3=>
  if b=true then te (((wipe σ vs).set i1 (some (.int i))).set i2 (some x)) H3 fun y H4=>∃acc,H4 D=some (.lst acc)/\acc.length<sizeLine/\Pv (i+1) (upd H4 D (.lst (acc++[y])))else Pv (i+1) H3) (hd:∀H,Pv xs.length H->Qd H):
 ∃W:Nat->Nat->Hp->Prop,(∃m,W 0 m (upd H1 D (.lst [])))/\∀i m H,W i m H->
  ((Ny K a).stop i H/\Qd H)\/((Ny K a).go i H/\∃Nx:Hp->Prop,(∀H',Nx H'->∃m',m'<m/\W (i+1) m' H')/\∀x H',(Ny K a).GD i H x H'->LH K 2 (yw (kr i1) (yw (kr i2) LG)) x (wipe σ vs) H' fun i5 H2=>wipe i5 vs=wipe σ vs/\tt i5 H2 fun b H3=>
    if b=true then te i5 H3 fun y H4=>∃acc,H4 D=some (.lst acc)/\acc.length<sizeLine/\Nx (upd H4 D (.lst (acc++[y])))else Nx H3):=by
 refine⟨fun i m H=>m=xs.length-i/\i<=xs.length/\Pv i H,⟨xs.length,by simp,abE _,h0⟩, ?_⟩
 rintro i m H ⟨rfl,hi,p⟩
 have q:=hl i H hi p
 by_cases di:i<xs.length
 . refine .inr ⟨⟨xs,xs[i],q,by simp[di]⟩,Pv (i+1),fun H' p'=>⟨xs.length-(i+1),by lia,rfl,di,p'⟩,fun x H' y=> ?_⟩
   obtain⟨T,z,rfl,hT,rfl,y⟩:=y
   exact⟨T,_,U,xq.of af,U,_,_,U,_,_,U,U,hs i z H T (y xs q) p hT⟩
 have e:i=xs.length:=by lia
 subst e
 exact .inl ⟨⟨xs,q,abB _⟩,hd H p⟩
structure jS(A:Ad)(H:Hp)(a:Addr)(o:List Int×List Int):Prop where
 ex:∃dx f b,H a=some (.ins A.cV dx [("off", .ref f),("behind", .ref b)])/\H f=some (.lst (o.1.map V.int))/\H b=some (.lst (o.2.map V.int))
theorem jS.same {A:Ad} {H H':Hp} {a:Addr} {o:List Int×List Int} (h:jS A H a o) (s:ak H H'):jS A H' a o:=by
 obtain⟨dx,f,b,h1,h2,h3⟩:=h.ex
 exact⟨dx,f,b,s _ _ h1,s _ _ h2,s _ _ h3⟩
theorem jS.but {A:Ad} {H:Hp} {a l:Addr} {as:List Addr} {o:List Int×List Int} {u:HO} (h:jS A H a o) (hl:H l=some (.lst (as.map V.ref))) (h1:o.1≠[]) (h2:o.2≠[]):jS A (upd H l u) a o:=by
 obtain⟨dx,f,b,e1,e2,e3⟩:=h.ex
 exact⟨dx,f,b,fD hl _ _ _ _ e1,by rw[au (abp (yj e2 h1 hl))];exact e2,by rw[au (abp (yj e3 h2 hl))];exact e3⟩
theorem yk{xs:List V}{v:V}(h:xs[xs.length-1]?=some v):oJ xs (-1)=some v:=by
 have di:=(abt.mp h).1
 unfold oJ JR
 rw[if_neg (by lia),if_pos (by lia),acw]
 rw[show((-1:Int)+(xs.length:Nat)).toNat=xs.length-1 by lia]
 exact h
section
variable{P:Program}{w:World}{K:PySem.W.Frag}{mg:Str->Option Value}{base:Heap}{A:Ad}
def Ed(A:Ad):Sp:=fun vs H Q _=>∃(rl rd:Addr)(rs:List Run)(off:List Int),vs=[.ref rl, .ref rd]/\jj A H rl rs/\H rd=some (.lst (off.map V.int))/\(∀r∈rs,∀c∈r.cs,c.st<off.length)/\off.length<=10/\
 ∀(H':Hp)(m:Addr),ak H H'->H m=none->H' m=some (.lst ((eU rs off).map V.int))->Q (.ref m) H'
abbrev jT:Stmt:=top 51
theorem cQ:aB ["runs","last_off","minutes","stop","run","in_time","call"] ["runs","last_off"] (ao jT):=sm
theorem uO{f:Addr}{fd:FuncData}(F:eH K "last_boardings" "last_boardings" jT f fd)(T:Txt K mg A):bq P w K mg base eD 1 f fd ["runs","last_off"] (Ed A):=by
 refine F.ok cQ (fun vs H Q E h=> ?_) (fun dz Ar outer s H vs Q E hr h=> ?_)
 . obtain⟨rl,rd,_,_,rfl,_⟩:=h
   rfl
 obtain⟨rl,rd,rs,off,rfl,⟨Lx,as,hR⟩,nX,lA,ME,k⟩:=h
 refine⟨_,(ae (lZ (i:=2) rfl cQ.nd rfl rfl rfl (cG (pv 1)) (ee (own:=[("stop",3)]) (by rfl)) (fun _ _ _ _ _=>(aX (i:=3) cQ.nd rfl oi)) (fun _ _ _ _ _=>iu) (fun _ _ _ _ _=>(cJ bS (bj rfl T.ka))))
  (ae (dI acZ rfl (cG (pv 0)) (aX (i:=4) cQ.nd rfl oi) (ae (aC (i:=5) cQ.nd rfl oi p0)
  (ah (dI acZ rfl (DA rfl T.FA (aa (ai (pv 4) rfl) ag)) (aX (i:=6) cQ.nd rfl oi) (ae (bg (lU (pv 5)) (ah (qD (aP (r9 rfl) (by rfl) T.D0 boot_max (aa (aM ax (pv 2) (ai (pv 6) rfl) (fun _ _=>rfl)) (aa (ai (pv 6) rfl) ag))) (qC (pv 2) (ai (pv 6) rfl) set_list))) aF)
  (ah (bg (ay AW (ai (pv 6) rfl) (aM ax (pv 1) (ai (pv 6) rfl) (fun _ _=>rfl)) nk) (ah (aC (i:=5) cQ.nd rfl oi p0)) aF)))))))
  (ah (aA (pv 2))))), ?_⟩
 refine⟨_,U,rd,U,⟨_,aW.of nX⟩,fun m hm=> ?_⟩
 refine QJ (v:=V.int (-br)) (fun _ _ _ q=>⟨_,rfl,q⟩) (aW.of nX) (by rw[abI];exact acW ME (by decide)) hm ?_
 rw[sM]
 have hk:∀ys:List Int,ak H (upd H m (.lst (ys.map V.int))):=fun ys=>ak.upd hm
 refine⟨_,U,rl,U,⟨_,aW.of (hk _ _ _ hR.lst)⟩, ?_⟩
 refine eQ (K:=K) (a:=rl) (xs:=as.map V.ref) (fun i σ H'=>∃o3 o4 o5 o6,σ=[some (.ref rl),some (.ref rd),some (.ref m),o3,o4,o5,o6]/\H'=upd H m (.lst (((rs.take i).foldl (wI off) (off.map fun _=> -br)).map V.int)))
  ⟨_,_,_,_,rfl,rfl⟩ (fun i σ H' _⟨_,_,_,_,_,e⟩=>by rw[e];exact aW.of (hk _ _ _ hR.lst)) ?_ ?_
 . rintro i v σ H' hv ⟨o3,o4,o5,o6,rfl,rfl⟩
   obtain⟨ra,r,rfl,wX,qy⟩:=hR.turn hv
   obtain⟨dr,cl,cs,MF,kP,_⟩:=qy.ex
   have OX:=abW wX
   generalize hM:(rs.take i).foldl (wI off) (off.map fun _=> -br)=M
   have V2:M.length=off.length:=by rw[<-hM,tI];simp
   refine⟨_,U,_,_,_,_,_,U,hk _ _ _ MF,T.je,T.iT,U,cl,_,U,aW.of (hk _ _ _ kP.lst), ?_⟩
   refine Mw (K:=K) (a:=cl) (xs:=cs.map V.ref) (fun j σ H'=>∃o6,σ=[some (.ref rl),some (.ref rd),some (.ref m),o3,some (.ref ra),some (.bl ((r.cs.reverse.take j).foldl (jO off) (false,M)).1),o6]/\H'=upd H m (.lst (((r.cs.reverse.take j).foldl (jO off) (false,M)).2.map V.int)))
    ⟨_,rfl,rfl⟩ (fun i σ H' _⟨_,_,e⟩=>by rw[e];exact aW.of (hk _ _ _ kP.lst)) ?_ ?_
   . rintro j v σ H' hv ⟨OY,rfl,rfl⟩
     obtain⟨ca,c,rfl,C8,⟨dc,Av⟩⟩:=kP.R7 hv
     have FJ:=lA r OX c (List.mem_reverse.mp (abW C8))
     rw[fM C8]
     generalize hS:(r.cs.reverse.take j).foldl (jO off) (false,M)=S
     have OZ:S.2.length=off.length:=by rw[<-hS,oY];exact V2
     obtain⟨b,ms⟩:=S
     dsimp only at OZ⊢
     have zb:=hk ms _ _ Av
     have second:∀(ys:List Int),ys=(if b=true then ms.set c.st (max (ms.getD c.st 0) c.gs)else ms)->LF (AX (xr (E8 fun i j=>V.bl (decide (i<=j))) (qI K (cT 6) "comes") (xr (Ai K) (cT 1) (qI K (cT 6) "stop")))) (Dh (tC (.bl true)) (kr 5)) GA
      {nx:=fun σ H'=>∃o6,σ=[some (.ref rl),some (.ref rd),some (.ref m),o3,some (.ref ra),some (.bl (jO off (b,ms) c).1),o6]/\H'=upd H m (.lst ((jO off (b,ms) c).2.map V.int)),rt:=fun _ _=>False}
      [some (.ref rl),some (.ref rd),some (.ref m),o3,some (.ref ra),some (.bl b),some (.ref ca)] (upd H m (.lst (ys.map V.int))):=fun ys ey=>by
      refine⟨_,U,_,_,_,_,_,U,hk _ _ _ Av,T.bw,T.dq,U,_,U,_,U,_,_,_,_,_,U,hk _ _ _ Av,T.bw,T.cC,U,_,_,_,_,U,U,aW.of (hk _ _ _ nX),jk FJ,_,_,U,U,_,U, ?_⟩
      have e2:(jO off (b,ms) c).2=ys:=ey.symm
      refine aK (fun q=> ?_) (fun q=> ?_)
      . refine⟨some (.ref ca), ?_,by rw[e2]⟩
        show [some (V.ref rl),some (V.ref rd),some (V.ref m),o3,some (V.ref ra),some (V.bl true),some (V.ref ca)]=_
        have:(jO off (b,ms) c).1=true:=by
         show(b||decide (c.co<=off.getD c.st 0))=true
         rw[q]
         simp
        rw[this]
      refine⟨some (.ref ca), ?_,by rw[e2]⟩
      have:(jO off (b,ms) c).1=b:=by
       show(b||decide (c.co<=off.getD c.st 0))=b
       have q':decide (c.co<=off.getD c.st 0)=false:=by simpa using q
       rw[q',Bool.or_false]
      rw[this]
     refine⟨_,U,_,U, ?_⟩
     refine aK (fun q=> ?_) (fun q=> ?_)
     . refine⟨_,U,_,U,_,_,_,_,_,U,zb,T.bw,T.cC,U,_,_,_,_,U,U,aW.of af,jk (by rw[OZ];exact FJ),_,U,_,_,_,_,_,U,zb,T.bw,T.dY,U,_,_,U, ?_⟩
       refine⟨_,U,_,U,_,_,_,_,_,U,zb,T.bw,T.cC,U,m,_,_,_,U,U,af,wY (by rw[OZ];exact FJ), ?_⟩
       rw[aL,max_eq,rm]
       exact second _ (by rw[if_pos q])
     exact second _ (by rw[if_neg q])
   rintro σ H' ⟨OY,rfl,rfl⟩
   refine⟨_,_,_,_,U, ?_⟩
   rw[fM wX,hM,kP.cz,<-List.length_reverse (as:=r.cs),ac3]
   rfl
 rintro σ H' ⟨o3,o4,o5,o6,rfl,rfl⟩
 refine⟨_,U, ?_⟩
 rw[hR.cz,ac3]
 exact k _ m (hk _) hm af
def Ha(A:Ad):Sp:=fun vs H Q _=>∃(t bl:Addr)(g:Nat)(mn:Int)(T:Sg45.Table)(zs:List Nat)(day:Nat)(bo:List Int),vs=[.ref t, .ref bl, .int (g:Nat), .int mn]/\TabAt A H t T zs day/\H bl=some (.lst (bo.map V.int))/\bo.length=T.stops.length/\g<T.stops.length/\T.stops.length<=10/\(∀w∈T.walks,w.from_<T.stops.length/\w.to<T.stops.length/\w.minutes<=240)/\
 ∀(H':Hp)(la:Addr),ak H H'->H la=none->jS A H' la (cU T bo g mn)->Q (.ref la) H'
abbrev mm:Stmt:=top 52
theorem eK:aB ["timetable","boardings","goal","minute","behind","off","number","stop","walk"] ["timetable","boardings","goal","minute"] (ao mm):=sm
theorem xG{f:Addr}{fd:FuncData}(F:eH K "last_minutes" "last_minutes" mm f fd)(T:Txt K mg A)(nH:eG P w K mg base 1 "LastMinutes" A.cV ["self","off","behind"] (uD A.cV ["off","behind"])):bq P w K mg base eD 3 f fd ["timetable","boardings","goal","minute"] (Ha A):=by
 refine F.ok eK (fun vs H Q E h=> ?_) (fun dz Ar outer s H vs Q E hr h=> ?_)
 . obtain⟨_,_,_,_,_,_,_,_,rfl,_⟩:=h
   rfl
 obtain⟨t,bl,g,mn,Tb,zs,day,bo,rfl,lT,O4,Uu,hg,ME,Ih,k⟩:=h
 obtain⟨sl,wl,tl,ss,ws,ts,hT⟩:=lT
 obtain⟨dt,hi⟩:=hT.ins
 have nF:0<Tb.stops.length:=by lia
 refine⟨_,(ae (aC (i:=4) eK.nd rfl oi (Bc uk (by rfl) T.Kp boot_list (aa (pv 1) ag)))
  (ae (qD (aP (r9 rfl) (by rfl) T.D0 boot_max (aa (aM ax (pv 4) (pv 2) (fun _ _=>rfl)) (aa (pv 3) ag))) (qC (pv 4) (pv 2) set_list))
  (ae (lZ (g:=LH K 2 (yw (kr 6) (yw (kr 7) LG))) (te:=xr (E8 fun i j=> .int (i-j)) (xr (Ai K) (cT 1) (cT 6)) (qI K (cT 7) "change")) (i:=5) rfl eK.nd rfl rfl rfl (oP rfl T.gC (aa (ai (pv 0) rfl) ag)) (ee (own:=[("number",6),("stop",7)]) (by rfl)) (fun _ _ _ _ _=>(sZ rfl (eP (aX (i:=6) eK.nd rfl oi) (eP (aX (i:=7) eK.nd rfl oi) oM)))) (fun _ _ _ _ _=>iu) (fun _ _ _ _ _=>(bA qG (aM ax (pv 1) (pv 6) (fun _ _=>rfl)) (ai (pv 7) rfl))))
  (ae (qD (aP (r9 rfl) (by rfl) T.D0 boot_max (aa (aM ax (pv 5) (pv 2) (fun _ _=>rfl)) (aa (pv 3) ag))) (qC (pv 5) (pv 2) set_list))
  (ae (dI acZ rfl (cG (ai (pv 0) rfl)) (aX (i:=8) eK.nd rfl oi) (ah (qD (aP (r9 rfl) (by rfl) T.D0 boot_max (aa (aM ax (pv 5) (ai (pv 8) rfl) (fun _ _=>rfl)) (aa (bA qG (aM ax (pv 4) (ai (pv 8) rfl) (fun _ _=>rfl)) (ai (pv 8) rfl)) ag))) (qC (pv 5) (ai (pv 8) rfl) set_list))))
  (ah (aA (cv nH hr rfl (aa (pv 5) (aa (pv 4) ag)))))))))), ?_⟩
 refine⟨_,U,_,_,U, .inl (aW.of O4),fun be LC=> ?_⟩
 refine⟨_,U,_,U,_,_,_,_,U,U,aW.of af,jk (by rw[Uu];exact hg),_,U,_,_,U,_,U,_,U,be,_,_,_,U,U,af,wY (by rw[Uu];exact hg), ?_⟩
 rw[aL,max_eq,rm]
 have s1:ak H (upd H be (.lst ((dP bo g mn).map V.int))):=ak.upd LC
 have b1:(upd H be (.lst ((dP bo g mn).map V.int))) be=some (.lst ((dP bo g mn).map V.int)):=af
 show Ah _ _ _ _ (upd H be (.lst ((dP bo g mn).map V.int)))
 generalize upd H be (.lst ((dP bo g mn).map V.int))=H1 at s1 b1⊢
 have Wd:(dP bo g mn).length=Tb.stops.length:=by simp[dP,Uu]
 refine⟨_,U,_,_,_,_,_,U,s1 _ _ hi,T.az,T.aS,U,_,_,U,aW.of (s1 _ _ hT.st.lst),fun f hf=> ?_⟩
 refine MM (K:=K) (a:=sl) (xs:=ss.map V.ref) (fun i H'=>ak H1 H'/\H' f=some (.lst (((xw Tb bo).take i).map V.int))) ⟨ak.upd hf,by rw[af];rfl⟩ (fun i H' _⟨s2,_⟩=>aW.of (s2 _ _ (s1 _ _ hT.st.lst))) ?_ ?_
 . rintro i v H' Tu hv ⟨s2,R8⟩ FH
   obtain⟨sa,x,rfl,MG,⟨X0,QK⟩⟩:=(hT.same (s1.trans s2)).st.turn hv
   have di:i<Tb.stops.length:=by
    have:=(abt.mp MG).1
    rwa[kj hT.zl]at this
   have ex:x.1=Tb.stops.getD i 0:=by
    rw[zip_get di hT.zl]at MG
    have:=Option.some.inj MG
    rw[<-this]
   have s3:ak H' (upd H' Tu (.tup [.int i, .ref sa])):=ak.upd FH
   refine⟨U, ?_⟩
   unfold Dy
   refine aK (fun _=> ?_) (fun c=>(c rfl).elim)
   refine⟨_,U,_,U,_,_,_,_,U,U,aW.of (s3 _ _ (s2 _ _ (s1 _ _ O4))),jk (by rw[Uu];exact di),_,U,_,_,_,_,_,U,s3 _ _ QK,T.kd,T.ke,U,_,_,U,U,_,s3 _ _ R8, ?_, ?_, ?_⟩
   . rw[abI,abR]
     exact acW (Nat.min_le_left _ _) (abe di (abk ME (by decide)))
   . exact ak.fy (s2.trans s3) hf
   rw[af]
   have e:(xw Tb bo)[i]?=some (bo.getD i 0-chg Tb i):=by
    unfold xw
    rw[abV,acr di]
    rfl
   rw[take_snoc e,acX,ex]
   rfl
 rintro H2 ⟨s2,R8⟩
 rw[hT.st.cz,kj hT.zl,<-uy (T:=Tb) (bo:=bo),ac3]at R8
 refine⟨_,U,_,U,_,_,_,_,U,U,aW.of R8,jk (by rw[uy];exact hg),_,U,_,_,U,_,U,_,U,f,_,_,_,U,U,R8,wY (by rw[uy];exact hg), ?_⟩
 rw[max_eq,rm]
 have Uv:H f=none:=s1.free hf
 have O5:be≠f:=aw b1 hf
 have lo1:(sA Tb bo g mn).length=Tb.stops.length:=by simp[sA,uy]
 have ir:sA Tb bo g mn≠[]:=iL lo1 nF
 have s3:ak H (upd H2 f (.lst ((sA Tb bo g mn).map V.int))):=ak.fy (s1.trans s2) Uv
 have b3:(upd H2 f (.lst ((sA Tb bo g mn).map V.int))) be=some (.lst ((dP bo g mn).map V.int)):=by rw[au O5];exact s2 _ _ b1
 have f3:(upd H2 f (.lst ((sA Tb bo g mn).map V.int))) f=some (.lst ((sA Tb bo g mn).map V.int)):=af
 show Ah _ _ _ _ (upd H2 f (.lst ((sA Tb bo g mn).map V.int)))
 generalize upd H2 f (.lst ((sA Tb bo g mn).map V.int))=H3 at s3 b3 f3⊢
 refine⟨_,U,_,_,_,_,_,U,s3 _ _ hi,T.az,T.cg,U,wl,U,⟨_,aW.of (s3 _ _ hT.wk.lst)⟩, ?_⟩
 refine eQ (K:=K) (a:=wl) (xs:=ws.map V.ref) (fun i σ H'=>∃o8,σ=[some (.ref t),some (.ref bl),some (.int (g:Nat)),some (.int mn),some (.ref be),some (.ref f),none,none,o8]/\H'=upd H3 f (.lst (((Tb.walks.take i).foldl (lF (dP bo g mn)) (sA Tb bo g mn)).map V.int)))
  ⟨none,rfl, ?_⟩ (fun i σ H' _⟨_,_,e⟩=>by rw[e];exact aW.of (ak.fy s3 Uv _ _ hT.wk.lst)) ?_ ?_
 . funext b
   unfold upd
   split
   . rename_i q
     rw[q]
     exact f3
   rfl
 . rintro i v σ H' hv ⟨o8,rfl,rfl⟩
   obtain⟨wa,wk,rfl,DJ,⟨dw,IG⟩⟩:=hT.wk.turn hv
   have hb:=Ih wk (abW DJ)
   rw[fM DJ]
   generalize hO:(Tb.walks.take i).foldl (lF (dP bo g mn)) (sA Tb bo g mn)=O
   have lO:O.length=Tb.stops.length:=by rw[<-hO,qV];exact lo1
   have D9:(upd H3 f (.lst (O.map V.int))) wa=some (.ins A.Walk dw [("start", .int (wk.from_:Nat)),("end", .int (wk.to:Nat)),("minutes", .int (wk.minutes:Nat))]):=ak.fy s3 Uv _ _ IG
   have b4:(upd H3 f (.lst (O.map V.int))) be=some (.lst ((dP bo g mn).map V.int)):=by rw[au O5];exact b3
   refine⟨_,U,_,U,_,_,_,_,_,U,D9,T.dm,T.gU,U,_,_,_,_,U,U,aW.of af,jk (by rw[lO];exact hb.1),_,U,_,U,_,_,_,_,_,U,D9,T.dm,T.jR,U,_,_,_,_,U,U,aW.of b4,jk (by rw[Wd];exact hb.2.1),_,U,_,_,_,_,_,U,D9,T.dm,T.gD,U,_,_,U,U,_,_,U, ?_⟩
   refine⟨_,U,_,U,_,_,_,_,_,U,D9,T.dm,T.gU,U,f,_,_,_,U,U,af,wY (by rw[lO];exact hb.1), ?_⟩
   rw[aL,max_eq,rm]
   exact⟨_,U,U⟩
 rintro σ H' ⟨o8,rfl,rfl⟩
 rw[hT.wk.cz,ac3]
 refine⟨_,U,_,U, ?_⟩
 intro y dy hy hd ir
 refine⟨y,dy,_,U,U,af,U, ?_⟩
 rw[aL]
 have s4:ak H (upd H3 f (.lst (((Tb.walks).foldl (lF (dP bo g mn)) (sA Tb bo g mn)).map V.int))):=ak.fy s3 Uv
 have s5:=dE (C:=A.cV) (fs:=[("off", .ref f),("behind", .ref be)]) hy hd
 refine k _ y (s4.trans s5) (s4.free hy) ⟨dy,f,be,k9, ?_, ?_⟩
 . exact s5 _ _ af
 refine s5 _ _ ?_
 rw[au O5]
 exact b3
end
theorem FL{p:Nat->Bool}{n i:Nat}(hi:i<n)(h1:∀j,j<i->p j=false)(h2:p i=true):(List.range n).find? p=some i:=by
 rw[List.find?_range_eq_some]
 exact⟨h2,abi.mpr hi,fun j hj=>by rw[h1 j hj];rfl⟩
theorem xH{p:Nat->Bool}{n:Nat}(h:∀j,j<n->p j=false):(List.range n).find? p=none:=by
 rw[List.find?_eq_none]
 intro j hj
 rw[h j (abi.mp hj)]
 simp
theorem jU{T:Sg45.Table}{day g:Nat}{mn:Int}{k:Nat}:(cf T day g mn k).1.length=T.stops.length/\(cf T day g mn k).2.length=T.stops.length:=by
 unfold cf
 rw[sj.1,sj.2,uz]
 exact⟨U,U⟩
def kT(T:Sg45.Table)(day g:Nat)(mn:Int)(n:Nat):List (List Int×List Int):=(List.range n).map (cf T day g mn)
theorem mq{T:Sg45.Table}{day g:Nat}{mn:Int}{n k:Nat}(h:k<n):(kT T day g mn n)[k]?=some (cf T day g mn k):=by
 unfold kT
 rw[abV,acr h]
 rfl
theorem Ee{T:Sg45.Table}{day g:Nat}{mn:Int}{n:Nat}:kT T day g mn (n+1)=kT T day g mn n++[cf T day g mn n]:=by
 unfold kT
 rw[ach,acX]
 rfl
theorem fO{T:Sg45.Table}{day g:Nat}{mn:Int}{n:Nat}:(kT T day g mn n).length=n:=by simp[kT]
section
variable{P:Program}{w:World}{K:PySem.W.Frag}{mg:Str->Option Value}{base:Heap}{A:Ad}
def Hb(A:Ad):Sp:=fun vs H Q _=>∃(t rl:Addr)(g:Nat)(mn:Int)(n:Nat)(T:Sg45.Table)(zs:List Nat)(day:Nat),vs=[.ref t, .ref rl, .int (g:Nat), .int mn, .int (n:Nat)]/\TabAt A H t T zs day/\dQ T day/\jj A H rl (aZ T day)/\g<T.stops.length/\n<=100000/\
 ∀(H':Hp)(l:Addr)(as:List Addr),ak H H'->H l=none->Rep (jS A) H' l as (kT T day g mn (n+1))->Q (.ref l) H'
abbrev fE:Stmt:=top 53
theorem cx:aB ["timetable","runs","goal","minute","rides","boardings","stop","lasts"] ["timetable","runs","goal","minute","rides"] (ao fE):=sm
theorem nI{f:Addr}{fd:FuncData}(F:eH K "last_minutes_by_rides" "last_minutes_by_rides" fE f fd)(T:Txt K mg A)(jr:FnAt P w K mg base 3 "last_minutes" ["timetable","boardings","goal","minute"] (Ha A))(jV:FnAt P w K mg base 1 "last_boardings" ["runs","last_off"] (Ed A)):bq P w K mg base eD 4 f fd ["timetable","runs","goal","minute","rides"] (Hb A):=by
 refine F.ok cx (fun vs H Q E h=> ?_) (fun dz Ar outer s H vs Q E hr h=> ?_)
 . obtain⟨_,_,_,_,_,_,_,_,rfl,_⟩:=h
   rfl
 obtain⟨t,rl,g,mn,n,Tb,zs,day,rfl,lT,ok,Kx,hg,hn,k⟩:=h
 have tok:=ok.tok
 have nF:0<Tb.stops.length:=by lia
 have Ly:=lT
 obtain⟨sl,wl,tl,ss,ws,ts,hT⟩:=Ly
 obtain⟨dt,hi⟩:=hT.ins
 have O2:ss.length=Tb.stops.length:=by rw[hT.st.len,kj hT.zl]
 refine⟨_,(ae (lZ (i:=5) rfl cx.nd rfl rfl rfl (cG (ai (pv 0) rfl)) (ee (own:=[("stop",6)]) (by rfl)) (fun _ _ _ _ _=>(aX (i:=6) cx.nd rfl oi)) (fun _ _ _ _ _=>iu) (fun _ _ _ _ _=>(cJ bS (bj rfl T.ka))))
  (ae (aC (i:=7) cx.nd rfl oi (bb (aa (aO jr hr rfl (aa (pv 0) (aa (pv 5) (aa (pv 2) (aa (pv 3) ag))))) ag)))
  (ae (qF acZ (ay AW (aP aD (by rfl) T.dF ada (aa (pv 7) ag)) (pv 4) nk) (ae (aC (i:=5) cx.nd rfl oi (aO jV hr rfl (aa (pv 1) (aa (ai (aM ax (pv 7) (cJ bS aj) (fun _ _=>rfl)) rfl) ag))))
  (ah (cF (k0 ac0 ac1 ac2 fu (pv 7) (aa (aO jr hr rfl (aa (pv 0) (aa (pv 5) (aa (pv 2) (aa (pv 3) ag))))) ag))))))
  (ah (aA (pv 7)))))), ?_⟩
 refine⟨_,U,_,_,_,_,_,U,hi,T.az,T.aS,U,sl,U,⟨_,aW.of hT.st.lst⟩,fun bl O4=> ?_⟩
 refine QJ (v:=V.int (-br)) (fun _ _ _ q=>⟨_,rfl,q⟩) (aW.of hT.st.lst) (by rw[abI,O2];exact acW ok.ns (by decide)) O4 ?_
 have e0:(ss.map fun _=> -br)=tJ Tb day g mn 0:=by
  show _=Tb.stops.map fun _=> -br
  rw[ac9,ac9,O2]
 rw[km,e0]
 have s1:ak H (upd H bl (.lst ((tJ Tb day g mn 0).map V.int))):=ak.upd O4
 refine⟨_,U,_,U,_,U,_,U,t,bl,g,mn,Tb,zs,day,tJ Tb day g mn 0,U,lT.same s1,af,uz,hg,ok.ns,ok.wk,fun H2 la s2 yi R9=>⟨by show 1<=sizeLine;decide,fun L hL=> ?_⟩⟩
 have s3:=ak.upd (o:= .lst [.ref la]) hL
 have X4:H L=none:=(s1.trans s2).free hL
 have R0:Rep (jS A) (upd H2 L (.lst [.ref la])) L [la] (kT Tb day g mn 1):=by
  refine⟨af,U,fun i y hy=> ?_⟩
  have:i=0:=by
   have:=(abt.mp hy).1
   rw[fO]at this
   lia
  subst this
  rw[mq (by lia)]at hy
  cases hy
  exact⟨la,U,R9.same s3⟩
 refine⟨fun m σ H'=>∃(q:Nat)(bl:Addr)(as:List Addr),m=n+1-q/\q<=n/\σ=[some (.ref t),some (.ref rl),some (.int (g:Nat)),some (.int mn),some (.int (n:Nat)),some (.ref bl),none,some (.ref L)]/\ak H H'/\Rep (jS A) H' L as (kT Tb day g mn (q+1)),⟨_,0,bl,[la],U,abE _,U,(s1.trans s2).trans s3,R0⟩, ?_⟩
 rintro m σ H3 ⟨q,bl3,as,rfl,hq,rfl,s4,R3⟩
 have KA:(as.map V.ref).length=q+1:=by rw[R3.cz,fO]
 refine⟨_,U,_,_,U, .inl (aW.of R3.lst),_,U,_,_,U,U,_,U, ?_⟩
 rw[KA]
 refine aK (fun c=> ?_) (fun c=> ?_)
 . have c:q+1<=n:=by
    have:=of_decide_eq_true c
    lia
   refine⟨fun ff H'=>∃m',m'<n+1-q/\∃(q:Nat)(bl:Addr)(as:List Addr),m'=n+1-q/\q<=n/\ff=[some (.ref t),some (.ref rl),some (.int (g:Nat)),some (.int mn),some (.int (n:Nat)),some (.ref bl),none,some (.ref L)]/\ak H H'/\Rep (jS A) H' L as (kT Tb day g mn (q+1)),fun _ _ z=>z, ?_⟩
   obtain⟨a,Zy,Zz⟩:=R3.get (mq (T:=Tb) (day:=day) (g:=g) (mn:=mn) (n:=q+1) (k:=q) (by lia))
   obtain⟨da,f,b,ZA,ZC,XW⟩:=Zz.ex
   refine⟨_,U,_,U,_,U,_,_,_,_,U,U,aW.of R3.lst,yk (by rw[KA];exact Zy),_,_,_,_,_,U,ZA,T.cN,T.jg,U,rl,f,aZ Tb day,_,U,Kx.same s4,ZC,(by rw[jU.1];exact fun r hr c hc=>(tok.rn r hr c hc).1),(by rw[jU.1];exact ok.ns),fun H4 We s5 ZD QG=> ?_⟩
   have QG:H4 We=some (.lst ((tJ Tb day g mn (q+1)).map V.int)):=QG
   refine⟨_,U, .inl ⟨U,_,aW.of (s5 _ _ R3.lst)⟩,_,U,_,U,_,U,_,U,t,We,g,mn,Tb,zs,day,_,U,lT.same (s4.trans s5),QG,uz,hg,ok.ns,ok.wk,fun H5 X5 s6 ZE O6=> ?_⟩
   have Wf:=s6 _ _ (s5 _ _ R3.lst)
   refine⟨L,_,_,U,U,Wf, ?_, ?_⟩
   . rw[KA]
     exact acW (abk c hn) (by decide)
   refine⟨_,by lia,q+1,We,as++[X5],U,c,U,ak.fy ((s4.trans s5).trans s6) X4, ?_⟩
   rw[Ee]
   have nn:∀j,(cf Tb day g mn j).1≠[]/\(cf Tb day g mn j).2≠[]:=fun j=>⟨iL jU.1 nF,iL jU.2 nF⟩
   refine⟨by rw[af,acX];rfl,by simp[R3.len],fun i y hy=> ?_⟩
   by_cases ci:i<q+1
   . rw[abU (by rw[fO];exact ci)]at hy
     obtain⟨b',e1,e2⟩:=R3.at_ i y hy
     rw[mq ci]at hy
     cases hy
     exact⟨b',by rw[abU (by rw[R3.len,fO];exact ci)];exact e1,(e2.same (s5.trans s6)).but Wf (nn i).1 (nn i).2⟩
   have di:=(abt.mp hy).1
   rw[abX,fO,ab1]at di
   have:i=q+1:=by lia
   subst this
   rw[abT (by rw[fO];exact abB _),fO,acY]at hy
   cases hy
   refine⟨X5, ?_, ?_⟩
   . have:as.length=q+1:=by rw[R3.len,fO]
     rw[<-this,abT (abB _),acY]
     rfl
   exact jS.but (o:=cf Tb day g mn (q+1)) O6 Wf (nn _).1 (nn _).2
 have c:¬q+1<=n:=fun z=>c (decide_eq_true (by lia))
 have:q=n:=by lia
 subst this
 refine⟨_,U, ?_⟩
 exact k H3 L as s4 X4 R3
def w9(A:Ad):Sp:=fun vs H Q _=>∃(t a bl:Addr)(T:Sg45.Table)(zs:List Nat)(day:Nat)(x:Sg45.Place)(xx:List Int),vs=[.ref t, .ref a, .ref bl]/\TabAt A H t T zs day/\dQ T day/\cY A H a x/\H bl=some (.lst (xx.map V.int))/\xx.length=T.stops.length/\
 (fX T x xx=none->∀H',ak H H'->Q .dR H')/\(∀(n:Nat)(v:Sg45.Walk),fX T x xx=some n->T.walks[n]?=some v->∀(H':Hp)(l:Addr),ak H H'->H l=none->H' l=some (.lst [.int (-1), .int (n:Nat), .int (v.from_:Nat), .int (v.to:Nat), .int (x.time+(v.minutes:Int))])->Q (.ref l) H')
abbrev pH:Stmt:=top 54
theorem kq:aB ["timetable","place","last_behind","number","walk","minute"] ["timetable","place","last_behind"] (ao pH):=sm
theorem Ax{f:Addr}{fd:FuncData}(F:eH K "first_walk" "first_walk" pH f fd)(T:Txt K mg A):bq P w K mg base eD 1 f fd ["timetable","place","last_behind"] (w9 A):=by
 refine F.ok kq (fun vs H Q E h=> ?_) (fun dz Ar outer s H vs Q E hr h=> ?_)
 . obtain⟨_,_,_,_,_,_,_,_,rfl,_⟩:=h
   rfl
 obtain⟨t,a,bl,Tb,zs,day,x,xx,rfl,lT,ok,⟨da,ha⟩,O4,Wd,k1,k2⟩:=h
 obtain⟨sl,wl,tl,ss,ws,ts,hT⟩:=lT
 obtain⟨dt,hi⟩:=hT.ins
 refine⟨_,(ae (dI acZ rfl (oP rfl T.gC (aa (ai (pv 0) rfl) ag)) (sZ rfl (eP (aX (i:=3) kq.nd rfl oi) (eP (aX (i:=4) kq.nd rfl oi) oM))) (ae (aC (i:=5) kq.nd rfl oi (bA ft (ai (pv 1) rfl) (ai (pv 4) rfl)))
  (ah (bg (PW.pt (Jx (ay ku (ai (pv 4) rfl) (ai (pv 1) rfl) nk) (Gz (ay AW (pv 5) (aM ax (pv 2) (ai (pv 4) rfl) (fun _ _=>rfl)) nk)))) (ah (aA (bb (aa (bj rfl T.vK) (aa (pv 3) (aa (ai (pv 4) rfl) (aa (ai (pv 4) rfl) (aa (pv 5) ag)))))))) aF))))
  (ah (aA cI))), ?_⟩
 refine⟨_,U,_,_,_,_,_,U,hi,T.az,T.cg,U,_,_,U,aW.of hT.wk.lst, ?_⟩
 refine oq (K:=K) (a:=wl) (xs:=ws.map V.ref) (fun i σ H'=>∃o3 o4 o5,σ=[some (.ref t),some (.ref a),some (.ref bl),o3,o4,o5]/\ak H H'/\∀j,j<i->fw Tb x xx j=false)
  ⟨none,none,none,rfl,ak.refl H,fun j hj=>by lia⟩ (fun i σ H' _⟨_,_,_,_,s2,_⟩=>aW.of (s2 _ _ hT.wk.lst)) ?_ ?_
 . rintro i v σ H' Tu hv ⟨o3,o4,o5,rfl,s2,ug⟩ FH
   obtain⟨wa,wk,rfl,DJ,⟨dw,IG⟩⟩:=hT.wk.turn hv
   have di:=(abt.mp DJ).1
   have hb:=ok.wk wk (abW DJ)
   have s3:ak H (upd H' Tu (.tup [.int i, .ref wa])):=s2.trans (ak.upd FH)
   have ht:fw Tb x xx i=(decide (wk.from_=x.halt_)&&decide (x.time+(wk.minutes:Int)<=xx.getD wk.to 0)):=by
    unfold fw
    rw[DJ]
    rfl
   have no:fw Tb x xx i=false->∃ZF VY VZ,[some (V.ref t),some (V.ref a),some (V.ref bl),some (V.int i),some (V.ref wa),some (V.int (x.time+(wk.minutes:Int)))]=[some (V.ref t),some (V.ref a),some (V.ref bl),ZF,VY,VZ]/\ak H (upd H' Tu (.tup [.int i, .ref wa]))/\∀j,j<i+1->fw Tb x xx j=false:=fun q=>⟨_,_,_,rfl,s3,fun j hj=>by
    by_cases e:j=i
    . rw[e];exact q
    exact ug j (by lia)⟩
   refine⟨_,U,_,_,_,_,_,U,s3 _ _ ha,T.bJ,T.cw,U,_,U,_,_,_,_,_,U,s3 _ _ IG,T.dm,T.gD,U,_,_,U,U, ?_⟩
   refine⟨_,U,_,_,_,_,_,U,s3 _ _ IG,T.dm,T.gU,U,_,U,_,_,_,_,_,U,s3 _ _ ha,T.bJ,T.dS,U,U,_,U, ?_⟩
   refine aK (fun c=> ?_) (fun c=> ?_)
   . have c:wk.from_=x.halt_:=by
      have c:=of_decide_eq_true c
      injection c with c
      lia
     refine⟨_,U,_,U,_,U,_,_,_,_,_,U,s3 _ _ IG,T.dm,T.jR,U,_,_,_,_,U,U,aW.of (s3 _ _ O4),jk (by rw[Wd];exact hb.2.1),_,_,U,U,_,U, ?_⟩
     refine aK (fun c2=> ?_) (fun c2=> ?_)
     . have c2:x.time+(wk.minutes:Int)<=xx.getD wk.to 0:=of_decide_eq_true c2
       refine⟨_,U,_,U,_,_,_,_,_,U,s3 _ _ IG,T.dm,T.gU,U,_,U,_,_,_,_,_,U,s3 _ _ IG,T.dm,T.jR,U,_,U,by show 5<=sizeLine;decide,fun l hl=> ?_⟩
       refine k2 i wk ?_ DJ _ l (s3.trans (ak.upd hl)) (s3.free hl) af
       unfold fX
       refine FL di ug ?_
       rw[ht,decide_eq_true c,decide_eq_true c2]
       rfl
     have c2:¬x.time+(wk.minutes:Int)<=xx.getD wk.to 0:=fun z=>c2 (decide_eq_true z)
     exact no (by rw[ht,decide_eq_false c2,ab2])
   have c:¬wk.from_=x.halt_:=fun z=>c (by rw[z];simp)
   refine aK (fun z=>by cases z) (fun _=> ?_)
   exact no (by rw[ht,decide_eq_false c,aby])
 rintro σ H' ⟨o3,o4,o5,rfl,s2,ug⟩
 refine k1 ?_ H' s2
 unfold fX
 refine xH fun j hj=>ug j ?_
 rw[hT.wk.cz]
 exact hj
def BC(A:Ad):Sp:=fun vs H Q _=>∃(cl ol:Addr)(as:List Addr)(cs:List C3)(on:Nat)(off:List Int),vs=[.ref cl, .int (on:Nat), .ref ol]/\Rep (IE A) H cl as cs/\H ol=some (.lst (off.map V.int))/\(∀c∈cs,c.st<off.length)/\on<cs.length/\cs.length<=64/\
 ((∀(j:Nat)(c:C3),on<j->cs[j]?=some c->¬c.co<=off.getD c.st 0)->Q .dR H)/\(∀(j:Nat)(c:C3),on<j->cs[j]?=some c->c.co<=off.getD c.st 0->(∀(i:Nat)(d:C3),on<i->i<j->cs[i]?=some d->¬d.co<=off.getD d.st 0)->Q (.int (j:Nat)) H)
abbrev jW:Stmt:=top 56
theorem mY:aB ["calls","on","last_off","off"] ["calls","on","last_off"] (ao jW):=sm
theorem uP{f:Addr}{fd:FuncData}(F:eH K "first_call_off" "first_call_off" jW f fd)(T:Txt K mg A):bq P w K mg base eD 1 f fd ["calls","on","last_off"] (BC A):=by
 refine F.ok mY (fun vs H Q E h=> ?_) (fun dz Ar outer s H vs Q E hr h=> ?_)
 . obtain⟨_,_,_,_,_,_,rfl,_⟩:=h
   rfl
 obtain⟨cl,ol,as,cs,on,off,rfl,kP,O7,lA,hon,h64,k1,k2⟩:=h
 refine⟨_,(ae (dI acZ rfl (r8 rfl T.pq (aa (bA ft (pv 1) aj) (aa (aP aD (by rfl) T.dF ada (aa (pv 0) ag)) ag))) (aX (i:=3) mY.nd rfl oi) (ah (bg (ay AW (ai (aM ax (pv 0) (pv 3) (fun _ _=>rfl)) rfl) (aM ax (pv 2) (ai (aM ax (pv 0) (pv 3) (fun _ _=>rfl)) rfl) (fun _ _=>rfl)) nk) (ah (aA (pv 3))) aF)))
  (ah (aA cI))), ?_⟩
 refine⟨_,U,_,_,U,U,_,U,_,_,U, .inl (aW.of kP.lst),_,_,U, ?_, ?_⟩
 . rw[kP.cz]
   lia
 rw[kP.cz]
 have en:((cs.length:Int)-((on:Int)+1)).toNat=cs.length-(on+1):=by lia
 rw[en]
 refine vy (fun i σ H'=>∃o3,σ=[some (.ref cl),some (.int (on:Nat)),some (.ref ol),o3]/\H'=H/\∀(j:Nat)(c:C3),on<j->j<on+1+i->cs[j]?=some c->¬c.co<=off.getD c.st 0) ⟨none,rfl,rfl,fun j c h1 h2=>by lia⟩ ?_ ?_
 . rintro i σ H' hi ⟨o3,rfl,rfl,ug⟩
   have di:on+1+i<cs.length:=by lia
   have hc:=acf di
   generalize cs[on+1+i]=c at hc
   obtain⟨ca,C8,⟨dc,OL⟩⟩:=kP.get hc
   have ei:(on:Int)+1+(i:Int)=((on+1+i:Nat):Int):=by lia
   rw[ei]
   refine⟨_,U,_,U,_,_,_,_,U,U,aW.of kP.lst,c9 C8,_,_,_,_,_,U,OL,T.bw,T.dq,U,_,U,_,U,_,U,_,_,_,_,U,U,aW.of kP.lst,c9 C8,_,_,_,_,_,U,OL,T.bw,T.cC,U,_,_,_,_,U,U,aW.of O7,jk (lA c (abW hc)),_,_,U,U,_,U, ?_⟩
   refine aK (fun q=> ?_) (fun q=> ?_)
   . have q:c.co<=off.getD c.st 0:=of_decide_eq_true q
     refine⟨_,U, ?_⟩
     exact k2 (on+1+i) c (by lia) hc q fun j d h1 h2 hd=>ug j d h1 h2 hd
   have q:¬c.co<=off.getD c.st 0:=fun z=>q (decide_eq_true z)
   refine⟨_,U,U,fun j d h1 h2 hd=> ?_⟩
   by_cases e:j=on+1+i
   . rw[e,hc]at hd
     cases hd
     exact q
   exact ug j d h1 (by lia) hd
 rintro σ H' ⟨o3,rfl,rfl,ug⟩
 refine k1 fun j c h1 hc=>ug j c h1 ?_ hc
 have:=(abt.mp hc).1
 lia
end
end Td
namespace Td
open PySem PySem.Spec PyProof.Rows L2
theorem rq{β:Type}{f:Nat->Option β}{n i:Nat}{b:β}(hi:i<n)(h1:∀j,j<i->f j=none)(h2:f i=some b):(List.range n).findSome? f=some b:=by
 have e:List.range n=List.range i++i::(List.range' (i+1) (n-(i+1))):=by
  rw[acQ,acQ,show n=i+(1+(n-(i+1))) by lia,<-List.range'_append_1,Nat.zero_add,Nat.add_comm 1,List.range'_succ]
  congr 3
  lia
 rw[e,adb,acB.mpr (fun j hj=>h1 j (abi.mp hj)),Option.none_or,acA,h2]
theorem hW{β:Type}{f:Nat->Option β}{n:Nat}(h:∀j,j<n->f j=none):(List.range n).findSome? f=none:=acB.mpr fun j hj=>h j (abi.mp hj)
theorem Ay{α β:Type}{f:α->Option β}{l:List α}{u:Nat}{z:α}{b:β}(hz:l[u]?=some z)(h1:(l.take u).findSome? f=none)(h2:f z=some b):l.findSome? f=some b:=by
 obtain⟨di,e⟩:=abt.mp hz
 have:l=l.take u++z::l.drop (u+1):=by
  rw[<-e,ade,acU]
 rw[this,adb,h1,Option.none_or,acA,h2]
def Jp(T:Sg45.Table)(day:Nat)(x:Sg45.Place)(off:List Int)(z:Nat×Int×Sg45.Trip)(i:Nat):Option Sg45.Leg:=if z.2.2.stopAt i≠x.halt_ then none else(List.range z.2.2.calls.length).findSome? fun j=>gA T day x off z i j
def Wg(T:Sg45.Table)(day:Nat)(x:Sg45.Place)(off:List Int)(z:Nat×Int×Sg45.Trip):Option Sg45.Leg:=(List.range z.2.2.calls.length).findSome? (Jp T day x off z)
theorem CG{T:Sg45.Table}{day:Nat}{x:Sg45.Place}{off:List Int}:iS T day x off=(Sg45.instances T day).findSome? (Wg T day x off):=rfl
section
variable{T:Sg45.Table}{day:Nat}{x:Sg45.Place}{off:List Int}{z:Nat×Int×Sg45.Trip}{i:Nat}
theorem KC(h:¬z.2.2.stopAt i=x.halt_):Jp T day x off z i=none:=by
 unfold Jp
 rw[if_pos h]
theorem KD(h:¬aG T x<=z.2.2.goes day z.2.1 i):Jp T day x off z i=none:=by
 unfold Jp
 split
 . rfl
 refine hW fun j _=> ?_
 unfold gA
 split
 . rfl
 rw[if_neg (fun q=>h q.1)]
theorem KG(h:∀(j:Nat)(c:C3),i<j->(bY z.2.2 day z.2.1)[j]?=some c->¬c.co<=off.getD c.st 0):Jp T day x off z i=none:=by
 unfold Jp
 split
 . rfl
 refine hW fun j hj=> ?_
 unfold gA
 split
 . rfl
 rename_i kN
 rw[if_neg (fun q=>h j _ (by lia) (bR hj) q.2)]
theorem KH{j:Nat}{c:C3}(lA:z.2.2.stopAt i=x.halt_)(nX:aG T x<=z.2.2.goes day z.2.1 i)(kN:i<j)(hc:(bY z.2.2 day z.2.1)[j]?=some c)(ho:c.co<=off.getD c.st 0)(ug:∀(i':Nat)(d:C3),i<i'->i'<j->(bY z.2.2 day z.2.1)[i']?=some d->¬d.co<=off.getD d.st 0):Jp T day x off z i=some (.ride z.1 z.2.1 i j):=by
 obtain⟨hj,rfl⟩:=cu hc
 unfold Jp
 rw[if_neg (fun q=>q lA)]
 refine rq hj (fun i' QL=> ?_) ?_
 . unfold gA
   split
   . rfl
   rename_i h
   rw[if_neg (fun q=>ug i' _ (by lia) QL (bR (by lia)) q.2)]
 unfold gA
 rw[if_neg (by lia),if_pos ⟨nX,ho⟩]
end
theorem MN{T:Sg45.Table}{day u:Nat}{r:Run}(h:(aZ T day)[u]?=some r):∃z,(Sg45.instances T day)[u]?=some z/\r=runOf day z:=by
 unfold aZ at h
 rw[abV]at h
 cases e:(Sg45.instances T day)[u]?with
 |none=>rw[e]at h;cases h
 |some z=>
  rw[e]at h
  exact⟨z,U,(Option.some.inj h).symm⟩
structure sN(H0 H:Hp)(L:Addr)(as:List Addr)(nums:List (List Int)):Prop where
 fr:H0 L=none
 lst:H L=some (.lst (as.map V.ref))
 len:as.length=nums.length
 at_:∀(i:Nat)(ns:List Int),nums[i]?=some ns->∃a,as[i]?=some a/\H0 a=none/\a≠L/\H a=some (.lst (ns.map V.int))
theorem sN.same {H0 H H':Hp} {L:Addr} {as:List Addr} {nums:List (List Int)} (h:sN H0 H L as nums) (s:ak H H'):sN H0 H' L as nums:=
 ⟨h.fr,s _ _ h.lst,h.len,fun i ns e=>by
  obtain⟨a,h1,h2,h3,h4⟩:=h.at_ i ns e
  exact⟨a,h1,h2,h3,s _ _ h4⟩⟩
theorem sN.push {H0 H:Hp} {L a:Addr} {as:List Addr} {nums:List (List Int)} {ns:List Int} (h:sN H0 H L as nums) (h0:H0 a=none) (hL:a≠L) (ha:H a=some (.lst (ns.map V.int))):sN H0 (upd H L (.lst (as.map V.ref++[.ref a]))) L (as++[a]) (nums++[ns]):=by
 refine⟨h.fr,by rw[af,acX];rfl,by simp[h.len],fun i y hy=> ?_⟩
 by_cases c:i<nums.length
 . rw[abU c]at hy
   obtain⟨b,e1,e2,e3,e4⟩:=h.at_ i y hy
   exact⟨b,by rw[abU (by rw[h.len];exact c)];exact e1,e2,e3,by rw[au e3];exact e4⟩
 have di:=(abt.mp hy).1
 rw[abX,ab1]at di
 have e:i=nums.length:=by lia
 subst e
 rw[abT (abB _),acY]at hy
 have hy:ns=y:=Option.some.inj hy
 subst hy
 refine⟨a, ?_,h0,hL,by rw[au hL];exact ha⟩
 rw[<-h.len,abT (abB _),acY]
 rfl
theorem KI{T:Sg45.Table}{day:Nat}{x y:Sg45.Place}{l:Sg45.Leg}(h:Sg45.go T day x l=some y):Sw83.toldFrom T day x [l]=[Sg45.numbers T day x l]:=by
 rw[Sw83.toldFrom,h]
 rfl
theorem uQ{T:Sg45.Table}{day n:Nat}{x:Sg45.Place}{v:Sg45.Walk}(h:T.walks[n]?=some v):Sg45.numbers T day x (.walk n)=[-1,(n:Int),(v.from_:Int),(v.to:Int),x.time+(v.minutes:Int)]:=by
 show(match T.walks[n]?with
  |some y=>[-1,(n:Int),(y.from_:Int),(y.to:Int),x.time+(y.minutes:Int)]
  |none=>[])=_
 rw[h]
theorem CH{T:Sg45.Table}{day n i j:Nat}{k:Int}{x:Sg45.Place}{p:Sg45.Trip}(h:T.trips[n]?=some p):Sg45.numbers T day x (.ride n k i j)=[(n:Int),k,(i:Int),(j:Int),p.comes day k j]:=by
 show(match T.trips[n]?with
  |some p=>[(n:Int),k,(i:Int),(j:Int),p.comes day k j]
  |none=>[])=_
 rw[h]
section
variable{P:Program}{w:World}{K:PySem.W.Frag}{mg:Str->Option Value}{base:Heap}{A:Ad}
def rA(A:Ad):Sp:=fun vs H Q _=>∃(t rl a ol:Addr)(T:Sg45.Table)(zs:List Nat)(day:Nat)(x:Sg45.Place)(off:List Int),vs=[.ref t, .ref rl, .ref a, .ref ol]/\TabAt A H t T zs day/\dQ T day/\jj A H rl (aZ T day)/\cY A H a x/\x.halt_<T.stops.length/\H ol=some (.lst (off.map V.int))/\off.length=T.stops.length/\
 (iS T day x off=none->∀H',ak H H'->Q .dR H')/\(∀(n i j:Nat)(kk:Int)(p:Sg45.Trip),iS T day x off=some (.ride n kk i j)->(n,kk,p)∈Sg45.instances T day->∀(H':Hp)(l:Addr),ak H H'->H l=none->H' l=some (.lst [.int (n:Nat), .int kk, .int (i:Nat), .int (j:Nat), .int (p.comes day kk j)])->Q (.ref l) H')
abbrev pI:Stmt:=top 55
theorem gc:aB ["timetable","runs","place","last_off","ready","run","on","call","off"] ["timetable","runs","place","last_off"] (ao pI):=sm
theorem Az{f:Addr}{fd:FuncData}(F:eH K "first_ride" "first_ride" pI f fd)(T:Txt K mg A)(cO:FnAt P w K mg base 1 "ready_minute" ["timetable","place"] (uL A))(jX:FnAt P w K mg base 1 "first_call_off" ["calls","on","last_off"] (BC A)):bq P w K mg base eD 2 f fd ["timetable","runs","place","last_off"] (rA A):=by
 refine F.ok gc (fun vs H Q E h=> ?_) (fun dz Ar outer s H vs Q E hr h=> ?_)
 . obtain⟨_,_,_,_,_,_,_,_,_,rfl,_⟩:=h
   rfl
 obtain⟨t,rl,a,ol,Tb,zs,day,x,off,rfl,lT,ok,⟨Lx,as,hR⟩,⟨da,ha⟩,hx,O7,ZG,k1,k2⟩:=h
 refine⟨_,(ae (aC (i:=4) gc.nd rfl oi (aO cO hr rfl (aa (pv 0) (aa (pv 2) ag))))
  (ae (dI acZ rfl (cG (pv 1)) (aX (i:=5) gc.nd rfl oi) (ah (dI acZ rfl (oP rfl T.gC (aa (ai (pv 5) rfl) ag)) (sZ rfl (eP (aX (i:=6) gc.nd rfl oi) (eP (aX (i:=7) gc.nd rfl oi) oM))) (ah (bg (PW.pt (Jx (ay ku (ai (pv 7) rfl) (ai (pv 2) rfl) nk) (Gz (ay iR (ai (pv 7) rfl) (pv 4) nk)))) (ae (aC (i:=8) gc.nd rfl oi (aO jX hr rfl (aa (ai (pv 5) rfl) (aa (pv 6) (aa (pv 3) ag)))))
  (ah (bg (ay GK (pv 8) cI nk) (ah (aA (bb (aa (ai (pv 5) rfl) (aa (ai (pv 5) rfl) (aa (pv 6) (aa (pv 8) (aa (ai (aM ax (ai (pv 5) rfl) (pv 8) (fun _ _=>rfl)) rfl) ag)))))))) aF))) aF)))))
  (ah (aA cI)))), ?_⟩
 refine⟨_,U,_,U,t,a,Tb,zs,day,x,U,lT,⟨da,ha⟩,hx, ?_⟩
 refine⟨_,U,rl,U,⟨_,aW.of hR.lst⟩, ?_⟩
 refine eQ (K:=K) (a:=rl) (xs:=as.map V.ref) (fun u σ H'=>∃o5 o6 o7 o8,σ=[some (.ref t),some (.ref rl),some (.ref a),some (.ref ol),some (.int (aG Tb x)),o5,o6,o7,o8]/\ak H H'/\((Sg45.instances Tb day).take u).findSome? (Wg Tb day x off)=none)
  ⟨none,none,none,none,rfl,ak.refl H,rfl⟩ (fun i σ H' _⟨_,_,_,_,_,s2,_⟩=>aW.of (s2 _ _ hR.lst)) ?_ ?_
 . rintro u v σ H' hv ⟨o5,o6,o7,o8,rfl,s2,ug⟩
   obtain⟨ra,r,rfl,wX,qy⟩:=hR.turn hv
   obtain⟨z,hz,rfl⟩:=MN wX
   obtain⟨dr,cl,cs,MF,kP,_⟩:=qy.ex
   have DR:=abW hz
   have po:=ok.tp z.2.2 (abW (cM (n:=z.1) (k:=z.2.1).mp DR).1)
   have lcs:(bY z.2.2 day z.2.1).length=z.2.2.calls.length:=i6
   have Wh:(runOf day z).cs=bY z.2.2 day z.2.1:=rfl
   rw[Wh]at kP
   have O8:∀c∈bY z.2.2 day z.2.1,c.st<off.length:=fun c hc=>by
    rw[ZG]
    exact(ok.tok.rn _ (abW wX) c hc).1
   refine⟨_,U,_,_,_,_,_,U,s2 _ _ MF,T.je,T.iT,U,_,_,U,aW.of (s2 _ _ kP.lst), ?_⟩
   refine oq (K:=K) (a:=cl) (xs:=cs.map V.ref) (fun i σ H'=>∃o6 o7 o8,σ=[some (.ref t),some (.ref rl),some (.ref a),some (.ref ol),some (.int (aG Tb x)),some (.ref ra),o6,o7,o8]/\ak H H'/\∀j,j<i->Jp Tb day x off z j=none)
    ⟨_,_,_,rfl,s2,fun j hj=>by lia⟩ (fun i σ H' _⟨_,_,_,_,s3,_⟩=>aW.of (s3 _ _ kP.lst)) ?_ ?_
   . rintro i v σ H' Tu hv ⟨OY,Wi,Wj,rfl,s3,MO⟩ FH
     obtain⟨ca,c,rfl,C8,⟨dc,Av⟩⟩:=kP.turn hv
     obtain⟨hi,rfl⟩:=cu C8
     have s4:ak H (upd H' Tu (.tup [.int i, .ref ca])):=s3.trans (ak.upd FH)
     have no:∀(o:Option V)(H5:Hp),ak H H5->Jp Tb day x off z i=none->∃OY Wi Wj,[some (V.ref t),some (V.ref rl),some (V.ref a),some (V.ref ol),some (V.int (aG Tb x)),some (V.ref ra),some (V.int i),some (V.ref ca),o]=[some (V.ref t),some (V.ref rl),some (V.ref a),some (V.ref ol),some (V.int (aG Tb x)),some (V.ref ra),OY,Wi,Wj]/\ak H H5/\∀j,j<i+1->Jp Tb day x off z j=none:=fun o H5 s5 q=>⟨_,_,_,rfl,s5,fun j hj=>by
      by_cases e:j=i
      . rw[e];exact q
      exact MO j (by lia)⟩
     refine⟨_,U,_,_,_,_,_,U,s4 _ _ Av,T.bw,T.cC,U,_,U,_,_,_,_,_,U,s4 _ _ ha,T.bJ,T.dS,U,U,_,U, ?_⟩
     refine aK (fun c=> ?_) (fun c=> ?_)
     . have lA:z.2.2.stopAt i=x.halt_:=by
        have c:=of_decide_eq_true c
        injection c with c
        have c:((z.2.2.stopAt i:Nat):Int)=(x.halt_:Int):=c
        lia
       refine⟨_,U,_,_,_,_,_,U,s4 _ _ Av,T.bw,T.dY,U,_,U,_,_,U,U,_,U, ?_⟩
       refine aK (fun c2=> ?_) (fun c2=> ?_)
       . have nX:aG Tb x<=z.2.2.goes day z.2.1 i:=of_decide_eq_true c2
         refine⟨_,U,_,_,_,_,_,U,s4 _ _ MF,T.je,T.iT,U,_,U,_,U,cl,ol,cs,bY z.2.2 day z.2.1,i,off,U,kP.same (pC A) s4,s4 _ _ O7,O8,(by rw[lcs];exact hi),(by rw[lcs];exact po.RP),fun KJ=> ?_,fun j c kN hc ho Fx=> ?_⟩
         . refine⟨_,U,U,_,U, ?_⟩
           refine aK (fun q=>absurd q (by decide)) (fun _=> ?_)
           exact no _ _ s4 (KG KJ)
         refine⟨_,U,U,_,U, ?_⟩
         refine aK (fun _=> ?_) (fun q=>(q rfl).elim)
         obtain⟨cb,Wk,⟨dcb,Wl⟩⟩:=kP.get hc
         obtain⟨hj,rfl⟩:=cu hc
         refine⟨_,U,_,_,_,_,_,U,s4 _ _ MF,T.je,T.y4,U,_,U,_,_,_,_,_,U,s4 _ _ MF,T.je,T.By,U,_,U,_,U,_,U,_,_,_,_,_,U,s4 _ _ MF,T.je,T.iT,U,_,U,_,_,_,_,U,U,aW.of (s4 _ _ kP.lst),c9 Wk,_,_,_,_,_,U,s4 _ _ Wl,T.bw,T.dq,U,by show 5<=sizeLine;decide,fun l hl=> ?_⟩
         refine k2 z.1 i j z.2.1 z.2.2 ?_ DR _ l (s4.trans (ak.upd hl)) (s4.free hl) af
         rw[CG]
         refine Ay hz ug ?_
         exact rq hi MO (KH lA nX kN hc ho Fx)
       have nX:¬aG Tb x<=z.2.2.goes day z.2.1 i:=fun q=>c2 (decide_eq_true q)
       exact no _ _ s4 (KD nX)
     have lA:¬z.2.2.stopAt i=x.halt_:=fun q=>c (by
      show decide (V.int ((z.2.2.stopAt i:Nat):Int)=V.int (x.halt_:Int))=true
      rw[q]
      simp)
     refine aK (fun q=>by cases q) (fun _=> ?_)
     exact no _ _ s4 (KC lA)
   rintro σ H' ⟨OY,Wi,Wj,rfl,s3,MO⟩
   refine⟨_,_,_,_,U,s3, ?_⟩
   rw[take_snoc hz,adb,ug,Option.none_or,acA]
   have:Wg Tb day x off z=none:=hW fun j hj=>MO j (by rw[kP.cz,lcs];exact hj)
   rw[this]
   rfl
 rintro σ H' ⟨o5,o6,o7,o8,rfl,s2,ug⟩
 refine k1 ?_ H' s2
 rw[hR.cz,show(aZ Tb day).length=(Sg45.instances Tb day).length by simp[aZ],ac3]at ug
 exact ug
end
theorem Hc{T:Sg45.Table}{day:Nat}(ok:dQ T day):Sg45.many T day<=2305:=by
 rw[GW,yP]
 have h1:(aZ T day).length<=36:=by rw[<-wV];exact wW ok.nt
 have h2:∀r∈aZ T day,r.cs.length<=64:=fun r hr=>by
  obtain⟨p,hp,e⟩:=qU hr
  rw[e,i6]
  exact(ok.tp p (abW (cM.mp hp).1)).RP
 have:∀(l:List Run),(∀r∈l,r.cs.length<=64)->(l.map fun r=>r.cs.length).sum<=64*l.length:=by
  intro l
  induction l with
  |nil=>intro _;simp
  |cons a l ih=>
   intro h
   have:=ih fun x hx=>h x (by simp[hx])
   have:=h a (by simp)
   simp only[abH,List.sum_cons,abG]
   lia
 have:=this _ h2
 lia
theorem jN.le {T:Sg45.Table} {day:Nat} {x:Sg45.Place} {goal:Nat} {a:Int} {r:Nat} (B:jN T day x goal a r) (ok:dQ T day) (hg:goal<T.stops.length):r<=2305:=by
 obtain⟨m,hm,h⟩:=qT ok.tok hg B.at_
 have:=Hc ok
 apply acp
 intro q
 exact B.OE m (by lia) h
section
variable{P:Program}{w:World}{K:PySem.W.Frag}{mg:Str->Option Value}{base:Heap}{A:Ad}
def xa(A:Ad):Sp:=fun vs H Q _=>∃(t rl a ll:Addr)(g n:Nat)(mn:Int)(T:Sg45.Table)(zs:List Nat)(day:Nat)(x:Sg45.Place)(as:List Addr),vs=[.ref t, .ref rl, .ref a, .int (g:Nat), .ref ll]/\TabAt A H t T zs day/\dQ T day/\jj A H rl (aZ T day)/\cY A H a x/\qZ T x/\g<T.stops.length/\n<=10000/\
 Rep (jS A) H ll as (kT T day g mn (n+1))/\Min T day g mn n x/\Good T day g mn n x/\∀(H':Hp)(L:Addr)(ls:List Addr)(legs:List Sg45.Leg),ak H H'->Sg45.search T day g mn (Sg45.instances T day) (2*n+3) n x=some legs->sN H H' L ls (Sw83.toldFrom T day x legs)->Q (.ref L) H'
structure NF(A:Ad)(T:Sg45.Table)(day g n:Nat)(mn:Int)(x:Sg45.Place)(H0 H:Hp)(L pa:Addr)(fuel left:Nat)(y:Sg45.Place)(pre:List Sg45.Leg)(ls:List Addr):Prop where
 same:ak H0 H
 pl:cY A H pa y
 ok:qZ T y
 le:left<=n
 min:Min T day g mn left y
 good:Good T day g mn left y
 fl:eV fuel left y
 X6:Sg45.follow T day x pre=some y
 se:Sg45.search T day g mn (Sg45.instances T day) (2*n+3) n x=(Sg45.search T day g mn (Sg45.instances T day) fuel left y).map fun m=>pre++m
 OE:pre.length+fuel<=2*n+3
 legs:sN H0 H L ls (Sw83.toldFrom T day x pre)
def Wm(A:Ad)(T:Sg45.Table)(day g n:Nat)(mn:Int)(x:Sg45.Place)(H:Hp)(t rl ll L:Addr)(fuel:Nat):L2.St->Hp->Prop:=fun ff H'=>∃m',m'<fuel/\∃(left:Nat)(y:Sg45.Place)(pa:Addr)(pre:List Sg45.Leg)(ls:List Addr)(o7:Option V),ff=[some (.ref t),some (.ref rl),some (.ref pa),some (.int (g:Nat)),some (.ref ll),some (.ref L),some (.int (left:Nat)),o7]/\NF A T day g n mn x H H' L pa m' left y pre ls
abbrev pJ:Stmt:=top 57
theorem d7:aB ["timetable","runs","place","goal","lasts","legs","left","leg"] ["timetable","runs","place","goal","lasts"] (ao pJ):=sm
theorem AA{f:Addr}{fd:FuncData}(F:eH K "first_legs" "first_legs" pJ f fd)(T:Txt K mg A)(pK:FnAt P w K mg base 1 "first_walk" ["timetable","place","last_behind"] (w9 A))(pL:FnAt P w K mg base 2 "first_ride" ["timetable","runs","place","last_off"] (rA A))(du:FnAt P w K mg base 4 "place_after" ["timetable","place","leg"] (gY A)):bq P w K mg base eD 5 f fd ["timetable","runs","place","goal","lasts"] (xa A):=by
 refine F.ok d7 (fun vs H Q E h=> ?_) (fun dz Ar outer s H vs Q E hr h=> ?_)
 . obtain⟨_,_,_,_,_,_,_,_,_,_,_,_,rfl,_⟩:=h
   rfl
 obtain⟨t,rl,a,ll,g,n,mn,Tb,zs,day,x,as,rfl,lT,ok,Kx,qJ,px,hg,hn,hL,Wn,Hd,k⟩:=h
 have tok:=ok.tok
 refine⟨_,(ae (aC (i:=5) d7.nd rfl oi (bb ag))
  (ae (aC (i:=6) d7.nd rfl oi (bA qG (aP aD (by rfl) T.dF ada (aa (pv 4) ag)) aj))
  (ae (qF acZ (ay GJ (ai (pv 2) rfl) (pv 3) nk) (ae (aC (i:=7) d7.nd rfl oi cI)
  (ae (bg (ay GJ (ai (pv 2) rfl) (bj rfl T.ot) nk) (ah (aC (i:=7) d7.nd rfl oi (aO pK hr rfl (aa (pv 0) (aa (pv 2) (aa (ai (aM ax (pv 4) (pv 6) (fun _ _=>rfl)) rfl) ag)))))) aF)
  (ae (bg (ay hE (pv 7) cI nk) (ae (qE (i:=6) d7.nd rfl oi aj N7)
  (ah (aC (i:=7) d7.nd rfl oi (aO pL hr rfl (aa (pv 0) (aa (pv 1) (aa (pv 2) (aa (ai (aM ax (pv 4) (pv 6) (fun _ _=>rfl)) rfl) ag)))))))) aF)
  (ae (aC (i:=2) d7.nd rfl oi (aO du hr rfl (aa (pv 0) (aa (pv 2) (aa (pv 7) ag)))))
  (ah (cF (k0 ac0 ac1 ac2 fu (pv 5) (aa (pv 7) ag)))))))))
  (ah (aA (pv 5)))))), ?_⟩
 refine⟨abE _,fun L NG=> ?_⟩
 have s1:ak H (upd H L (.lst [])):=ak.upd NG
 refine⟨_,U,_,_,U, .inl (aW.of (s1 _ _ hL.lst)),_,_,U,U, ?_⟩
 have e:V.int ((((as.map V.ref).length:Nat):Int)-1)=V.int (n:Int):=by
  rw[hL.cz,fO]
  congr 1
  lia
 show Ah _ _ _ [some (.ref t),some (.ref rl),some (.ref a),some (.int (g:Nat)),some (.ref ll),some (.ref L),some (V.int ((((as.map V.ref).length:Nat):Int)-1)),none] _
 rw[e]
 refine⟨fun m σ H'=>∃(left:Nat)(y:Sg45.Place)(pa:Addr)(pre:List Sg45.Leg)(ls:List Addr)(o7:Option V),σ=[some (.ref t),some (.ref rl),some (.ref pa),some (.int (g:Nat)),some (.ref ll),some (.ref L),some (.int (left:Nat)),o7]/\NF A Tb day g n mn x H H' L pa m left y pre ls,
  ⟨2*n+3,n,x,a,[],[],none,rfl,⟨s1, ?_,px,abB _,Wn,Hd, ?_,rfl, ?_, ?_,⟨NG,af,rfl,fun i ns h=> ?_⟩⟩⟩, ?_⟩
 . obtain⟨da,ha⟩:=qJ
   exact⟨da,s1 _ _ ha⟩
 . unfold eV
   split<;>lia
 . cases Sg45.search Tb day g mn (Sg45.instances Tb day) (2*n+3) n x<;>rfl
 . simp
 . simp[Sw83.toldFrom]at h
 rintro m σ H2 ⟨left,y,pa,pre,ls,o7,rfl,W⟩
 obtain⟨Jq,sH⟩:=W.pl
 obtain⟨fuel,rfl⟩:∃fuel,m=fuel+1:=⟨m-1,by have:=W.fl;unfold eV at this;split at this<;>lia⟩
 have hlen:(Sw83.toldFrom Tb day x pre).length=ls.length:=W.legs.len.symm
 refine⟨_,U,_,_,_,_,_,U,sH,T.bJ,T.dS,U,_,U,U,_,U, ?_⟩
 refine aK (fun c=> ?_) (fun c=> ?_)
 . have c:y.halt_≠g:=by
    intro q
    rw[q]at c
    simp at c
   refine⟨Wm A Tb day g n mn x H t rl ll L (fuel+1),fun _ _ z=>z, ?_⟩
   have Uw: -1440<=y.time:=by have:=W.ok.t0;lia
   have fin:∀(H3:Hp)(la:Addr)(l:Sg45.Leg)(y':Sg45.Place)(uR:Nat),ak H2 H3->H2 la=none->H3 la=some (.lst ((Sg45.numbers Tb day y l).map V.int))->ji H3 la l->Sg45.go Tb day y l=some y'->uR<=n->Min Tb day g mn uR y'->Good Tb day g mn uR y'->eV fuel uR y'->Sg45.search Tb day g mn (Sg45.instances Tb day) (fuel+1) left y=(Sg45.search Tb day g mn (Sg45.instances Tb day) fuel uR y').map (fun m=>l::m)->
    Ah (Dh (uj (gY A) [] E0 (cK (cT 0) (cK (cT 2) (cK (cT 7) lW)))) (kr 2)) (Dg (Ue K "list" xY (cT 5) (cK (cT 7) lW)))
    {nx:=Wm A Tb day g n mn x H t rl ll L (fuel+1),rt:=fun _ _=>False}
    [some (.ref t),some (.ref rl),some (.ref pa),some (.int (g:Nat)),some (.ref ll),some (.ref L),some (.int (uR:Nat)),some (.ref la)] H3:=fun H3 la l y' uR s3 FN yi Wo lG hle Ef zg NB O9=>by
    have oz:Fits Tb day y.halt_ y.way [l]:=q0 (jM lG)
    refine⟨_,U,_,U,_,U,t,pa,la,Tb,zs,day,y,l,U,lT.same (W.same.trans s3),ok,⟨Jq,s3 _ _ sH⟩,W.ok.hl,Wo,oz,(fun hn=>by rw[lG]at hn;cases hn),fun y2 Sa H4 b s4 hb NH=> ?_⟩
    rw[lG]at Sa
    cases Sa
    have Wq:=s4 _ _ (s3 _ _ W.legs.lst)
    refine⟨_,U, .inl ⟨U,_,aW.of Wq⟩,_,U,L,_,_,U,U,Wq, ?_, ?_⟩
    . rw[abI,W.legs.len,hlen]
      have EY:ls.length<=pre.length:=by
       rw[W.legs.len]
       have:∀(q:List Sg45.Leg)(z:Sg45.Place),(Sw83.toldFrom Tb day z q).length<=q.length:=by
        intro q
        induction q with
        |nil=>intro z;simp[Sw83.toldFrom]
        |cons b q ih=>
         intro z
         rw[Sw83.toldFrom]
         cases Sg45.go Tb day z b with
         |none=>simp
         |some u=>
          have:=ih u
          simp
          exact this
       exact this pre x
      have:=W.OE
      exact acW (show ls.length<=2*n+3 by lia) (acW (show 2*n+3<=20003 by lia) (by decide))
    have Wr:la≠L:=fun q=>by rw[q,W.legs.lst]at FN;cases FN
    have rB:Sg45.follow Tb day x (pre++[l])=some y':=by
     rw[ig,W.X6,acw,jM lG]
    refine⟨fuel,by lia,uR,y',b,pre++[l],ls++[la],_,U,⟨?_, ?_,W.ok.go ok lG,hle,Ef,zg,NB,rB, ?_, ?_, ?_⟩⟩
    . exact ak.fy ((W.same.trans s3).trans s4) NG
    . obtain⟨db,NH⟩:=NH
      exact⟨db,fD Wq _ _ _ _ NH⟩
    . rw[W.se,O9]
      cases Sg45.search Tb day g mn (Sg45.instances Tb day) fuel uR y'<;>simp
    . have:=W.OE
      simp
      lia
    rw[wM W.X6,KI lG]
    exact(W.legs.same (s3.trans s4)).push (W.same.free FN) Wr (s4 _ _ yi)
   have ride:(y.way=2\/fX Tb y (cf Tb day g mn left).2=none)->∀(H3:Hp),ak H2 H3->LF (AX (xr (fun x y H Q=>y= .dR/\Q (.bl (decide (x= .dR))) H) (cT 7) (tC .dR))) (Ah (Q9 6 (tC (.int 1)) (T7 fun i j=>i-j)) (Dh (uj (rA A) [] E0 (cK (cT 0) (cK (cT 1) (cK (cT 2) (cK (qI K (xr (Ai K) (cT 4) (cT 6)) "off") lW))))) (kr 7))) GA
    {nx:=fun σ H'=>Ah (Dh (uj (gY A) [] E0 (cK (cT 0) (cK (cT 2) (cK (cT 7) lW)))) (kr 2)) (Dg (Ue K "list" xY (cT 5) (cK (cT 7) lW))) ({nx:=Wm A Tb day g n mn x H t rl ll L (fuel+1),rt:=fun _ _=>False}:Ends) σ H',rt:=fun _ _=>False}
    [some (.ref t),some (.ref rl),some (.ref pa),some (.int (g:Nat)),some (.ref ll),some (.ref L),some (.int (left:Nat)),some .dR] H3:=fun ug H3 s3=>by
    obtain⟨hk,l,y',Dx,lG,hir,Ef,zg,NB,O9⟩:=Iv tok hg W.min W.good W.fl Uw c ug
    refine⟨_,U,U,_,U, ?_⟩
    refine aK (fun _=> ?_) (fun q=>(q (by decide)).elim)
    refine⟨_,U,_,_,U,U, ?_⟩
    dsimp only
    rw[show(left:Int)-1=((left-1:Nat):Int) by lia]
    have di:left-1<n+1:=by have:=W.le;lia
    obtain⟨b,C7,EY⟩:=hL.get (mq (T:=Tb) (day:=day) (g:=g) (mn:=mn) di)
    obtain⟨db,f,bh,Ws,X7,QF⟩:=EY.ex
    have Sb:=W.same.trans s3
    refine⟨_,U,_,U,_,U,_,U,_,U,_,_,_,_,U,U,aW.of (Sb _ _ hL.lst),c9 C7,_,_,_,_,_,U,Sb _ _ Ws,T.cN,T.jg,U,t,rl,pa,f,Tb,zs,day,y,(cf Tb day g mn (left-1)).1,U,lT.same Sb,ok,Kx.same Sb,⟨Jq,s3 _ _ sH⟩,W.ok.hl,Sb _ _ X7,jU.1,(fun hn=>by rw[Dx]at hn;cases hn),fun n' i j kk p Sd hz H4 la s4 FN yi=> ?_⟩
    rw[Dx]at Sd
    cases Sd
    have enum:=CH (day:=day) (i:=i) (j:=j) (k:=kk) (x:=y) (cM.mp hz).1
    refine fin H4 la (.ride n' kk i j) y' (left-1) (s3.trans s4) (s3.free FN) ?_ ⟨0,0,p.comes day kk j,yi⟩ lG (by have:=W.le;lia) Ef zg NB O9
    rw[enum]
    exact yi
   refine⟨_,U,_,_,_,_,_,U,sH,T.bJ,T.kE,U,U,_,U, ?_⟩
   refine aK (fun c2=> ?_) (fun c2=> ?_)
   . have c2:y.way≠2:=by
      intro q
      rw[q]at c2
      exact absurd c2 (by decide)
     have di:left<n+1:=by have:=W.le;lia
     obtain⟨b,C7,EY⟩:=hL.get (mq (T:=Tb) (day:=day) (g:=g) (mn:=mn) di)
     obtain⟨db,f,bh,Ws,X7,QF⟩:=EY.ex
     refine⟨_,U,_,U,_,U,_,U,_,_,_,_,U,U,aW.of (W.same _ _ hL.lst),c9 C7,_,_,_,_,_,U,W.same _ _ Ws,T.cN,T.kF,U,t,pa,bh,Tb,zs,day,y,(cf Tb day g mn left).2,U,lT.same W.same,ok,⟨Jq,sH⟩,W.same _ _ QF,jU.2,fun hn H3 s3=> ?_,fun n' v QH hv H3 la s3 FN yi=> ?_⟩
     . exact ride (.inr hn) H3 s3
     obtain⟨y',lG,Ef,zg,NB,O9⟩:=Iu tok hg W.min W.good W.fl Uw c c2 QH
     have enum:=uQ (day:=day) (x:=y) hv
     refine⟨_,U,U,_,U, ?_⟩
     refine aK (fun q=>absurd (of_decide_eq_true q) (by intro z;cases z)) (fun _=> ?_)
     refine fin H3 la (.walk n') y' left s3 FN ?_ ⟨(v.from_:Int),(v.to:Int),y.time+(v.minutes:Int),yi⟩ lG W.le Ef zg NB O9
     rw[enum]
     exact yi
   have c2:y.way=2:=by
    apply acp
    intro q
    apply c2
    have:decide (V.int (y.way:Int)=V.int 2)=false:=by
     apply decide_eq_false
     intro z
     injection z with z
     lia
    rw[this]
    rfl
   exact ride (.inl c2) H2 (ak.refl H2)
 have c:y.halt_=g:=by
  apply acp
  intro q
  apply c
  have:decide (V.int (y.halt_:Int)=V.int (g:Int))=false:=by
   apply decide_eq_false
   intro z
   injection z with z
   lia
  rw[this]
  rfl
 refine⟨_,U, ?_⟩
 have hd:=(step_done (fuel:=fuel) tok W.min W.good c).2
 refine k H2 L ls pre W.same ?_ W.legs
 rw[W.se,hd]
 simp
end
def CI(A:Ad)(H:Hp)(a L:Addr)(mn:Int)(r:Nat):Prop:=∃dx,H a=some (.ins A.Plan dx [("minute", .int mn),("rides", .int (r:Nat)),("legs", .ref L)])
section
variable{P:Program}{w:World}{K:PySem.W.Frag}{mg:Str->Option Value}{base:Heap}{A:Ad}
def tU(A:Ad):Sp:=fun vs H Q _=>∃(t a:Addr)(g:Nat)(T:Sg45.Table)(zs:List Nat)(day:Nat)(x:Sg45.Place),vs=[.ref t, .ref a, .int (g:Nat)]/\TabAt A H t T zs day/\dQ T day/\cY A H a x/\qZ T x/\g<T.stops.length/\
 (Sw83.plan T day g x=none->∀H',ak H H'->Q .dR H')/\(∀(p:Sw83.Plan),Sw83.plan T day g x=some p->∀(H':Hp)(pa L:Addr)(ls:List Addr),ak H H'->CI A H' pa L p.time p.rides->sN H H' L ls (Sw83.toldFrom T day x p.legs)->Q (.ref pa) H')
abbrev rC:Stmt:=top 58
theorem gZ:aB ["timetable","place","goal","runs","found","minute","rides","lasts"] ["timetable","place","goal"] (ao rC):=sm
theorem CJ{f:Addr}{fd:FuncData}(F:eH K "find_plan" "find_plan" rC f fd)(T:Txt K mg A)(gG:MethAt P w K mg base 4 A.aJ "runs_now" ["self"] (Bz A))(tV:FnAt P w K mg base 5 "earliest" ["timetable","runs","place","goal"] (zf A))(fF:FnAt P w K mg base 4 "last_minutes_by_rides" ["timetable","runs","goal","minute","rides"] (Hb A))(pM:FnAt P w K mg base 5 "first_legs" ["timetable","runs","place","goal","lasts"] (xa A))(FO:eG P w K mg base 1 "Plan" A.Plan ["self","minute","rides","legs"] (uD A.Plan ["minute","rides","legs"])):bq P w K mg base eD 6 f fd ["timetable","place","goal"] (tU A):=by
 refine F.ok gZ (fun vs H Q E h=> ?_) (fun dz Ar outer s H vs Q E hr h=> ?_)
 . obtain⟨_,_,_,_,_,_,_,rfl,_⟩:=h
   rfl
 obtain⟨t,a,g,Tb,zs,day,x,rfl,lT,ok,qJ,px,hg,k1,k2⟩:=h
 have tok:=ok.tok
 have Ly:=lT
 obtain⟨sl,wl,tl,ss,ws,ts,hT⟩:=Ly
 obtain⟨dt,hi⟩:=hT.ins
 refine⟨_,(ae (aC (i:=3) gZ.nd rfl oi (Bw (pv 0) gG hr))
  (ae (aC (i:=4) gZ.nd rfl oi (aO tV hr rfl (aa (pv 0) (aa (pv 3) (aa (pv 1) (aa (pv 2) ag))))))
  (ae (aC (i:=5) gZ.nd rfl oi (aM Fh (pv 4) aj (fun _ _=>rfl)))
  (ae (aC (i:=6) gZ.nd rfl oi (aM Fh (pv 4) aj (fun _ _=>rfl)))
  (ae (bg (ay ku (pv 5) (bj rfl T.ka) nk) (ah (aA cI)) aF)
  (ae (aC (i:=7) gZ.nd rfl oi (aO fF hr rfl (aa (pv 0) (aa (pv 3) (aa (pv 2) (aa (pv 5) (aa (pv 6) ag)))))))
  (ah (aA (cv FO hr rfl (aa (pv 5) (aa (pv 6) (aa (aO pM hr rfl (aa (pv 0) (aa (pv 3) (aa (pv 1) (aa (pv 2) (aa (pv 7) ag)))))) ag)))))))))))), ?_⟩
 refine⟨_,U,t,dt,_,U,hi,U,t,Tb,zs,day,U,lT,ok,fun H1 rl as s1 QM hR=> ?_⟩
 have Kx:jj A H1 rl (aZ Tb day):=⟨rl,as,hR⟩
 have Se:cY A H1 a x:=iK A _ _ _ _ (c8 s1) qJ
 refine⟨_,U,_,U,_,U,_,U,t,rl,a,g,Tb,zs,day,x,U,lT.same s1,ok,Kx,Se,px,hg,fun H2 tu n f s2 R4 e1 e2 e3 e4=> ?_⟩
 refine⟨_,U,_,_,_,_,U,U,xq.of R4,U, ?_⟩
 refine⟨_,U,_,_,_,_,U,U,xq.of R4,U, ?_⟩
 refine⟨_,U,U,_,U, ?_⟩
 refine aK (fun c=> ?_) (fun c=> ?_)
 . have c:(aH Tb day x (n+1)).1.getD g 0=br:=by
    have c:=of_decide_eq_true c
    injection c with c
   have ug:=Im tok px.wy px.lt hg e1 c
   exact k1 (Iw tok hg ug) H2 (s1.trans s2)
 have c:(aH Tb day x (n+1)).1.getD g 0≠br:=fun q=>c (by
  show decide (V.int ((aH Tb day x (n+1)).1.getD g 0)=V.int 1000000)=true
  rw[q]
  simp[br])
 have B:=Il tok px.wy px.lt hg e1 e2 e3 e4 c
 generalize(aH Tb day x (n+1)).1.getD g 0=mn at B R4
 have Ux:=B.le ok hg
 have LA:=s1.trans s2
 refine⟨_,U,_,U,_,U,_,U,_,U,t,rl,g,mn,f,Tb,zs,day,U,lT.same LA,ok,Kx.same s2,hg,by lia,fun H3 ll V0 s3 hll ZH=> ?_⟩
 refine⟨_,U,_,U,_,U,_,U,_,U,_,U,_,U,t,rl,a,ll,g,f,mn,Tb,zs,day,x,V0,U,lT.same (LA.trans s3),ok,(Kx.same s2).same s3,iK A _ _ _ _ (c8 (s2.trans s3)) Se,px,hg,by lia,ZH,B.min tok px.wy px.hl,B.good tok px.wy px.hl hg,fun H4 L ls legs s4 O9 Sf=> ?_⟩
 intro y dy hy hd ir
 refine⟨y,dy,_,U,U,af,U, ?_⟩
 rw[aL]
 have Pa:=LA.trans s3
 have s5:=dE (C:=A.Plan) (fs:=[("minute", .int mn),("rides", .int (f:Nat)),("legs", .ref L)]) hy hd
 have NI:=Mj B tok hg
 rw[O9]at NI
 refine k2 ⟨mn,f,legs⟩ NI _ y L ls ((Pa.trans s4).trans s5) ⟨dy,k9⟩ ?_
 have h6:=Sf.same s5
 refine⟨Pa.free h6.fr,h6.lst,h6.len,fun i ns e=> ?_⟩
 obtain⟨b,b1,b2,b3,b4⟩:=h6.at_ i ns e
 exact⟨b,b1,Pa.free b2,b3,b4⟩
end
noncomputable def jY(zs:List Nat)(p:Sg45.Trip)(i j:Nat):List Nat:=(List.range (j+1-i)).map fun m=>zs.getD (p.stopAt (i+m)) 0
def dW(T:Sg45.Table)(zs:List Nat)(day:Nat):Sg45.Leg->List R3
 | .walk _=>[]
 | .ride n k i j=>match T.trips[n]?with
  |some p=>[⟨p.goes day k i,p.comes day k j,dX (jY zs p i j) 0⟩]
  |none=>[]
theorem uS(s:Sw83.St):DW s=dW s.table s.zones s.day:=by
 funext l
 cases l<;>rfl
theorem IH{T:Sg45.Table}{zs:List Nat}{day n i j:Nat}{k:Int}{p:Sg45.Trip}(h:T.trips[n]?=some p):dW T zs day (.ride n k i j)=[⟨p.goes day k i,p.comes day k j,dX (jY zs p i j) 0⟩]:=by
 show(match T.trips[n]?with
  |some p=>[(⟨p.goes day k i,p.comes day k j,dX (jY zs p i j) 0⟩:R3)]
  |none=>[])=_
 rw[h]
def FP(T:Sg45.Table)(day:Nat):Sg45.Leg->Prop
 | .walk _=>True
 | .ride n k i j=>∃p,(n,k,p)∈Sg45.instances T day/\i<j/\j<p.calls.length
theorem pN{T:Sg45.Table}{day:Nat}:∀{l:List Sg45.Leg}{h w:Nat},Fits T day h w l->∀a∈l,FP T day a
 |[],_,_,_,a,ha=>by cases ha
 | .walk i::l,h,w,⟨v,hv,hf,hw,hl⟩,a,ha=>by
  rcases abo.mp ha with rfl|ha
  . trivial
  exact pN hl a ha
 | .ride n k i j::l,h,w,⟨p,hp,kN,hj,lA,hl⟩,a,ha=>by
  rcases abo.mp ha with rfl|ha
  . exact⟨p,hp,kN,hj⟩
  exact pN hl a ha
theorem uT{n d k:Nat}:HT.Bd n d (some (k:Int))=min k n:=HT.LV n d k
theorem xb{T:Sg45.Table}{day:Nat}:∀{pre:List Sg45.Leg}{x y z:Sg45.Place}{l:Sg45.Leg},Sg45.follow T day x pre=some y->Sg45.go T day y l=some z->places T day x (pre++[l])=places T day x pre++[z]
 |[],x,y,z,l,h1,h2=>by
  cases h1
  show(match Sg45.go T day x l with
   |some y=>x::places T day y []
   |none=>[x])=_
  rw[h2]
  rfl
 |a::pre,x,y,z,l,h1,h2=>by
  rw[Sg45.follow]at h1
  cases e:Sg45.go T day x a with
  |none=>rw[e]at h1;cases h1
  |some u=>
   rw[e]at h1
   rw[acs,places,places,e]
   dsimp only
   rw[xb h1 h2]
   rfl
theorem xc{T:Sg45.Table}{day:Nat}:∀{pre rest:List Sg45.Leg}{x y:Sg45.Place}{l:Sg45.Leg},Sg45.follow T day x pre=some y->Sg45.go T day y l=none->places T day x (pre++l::rest)=places T day x pre
 |[],rest,x,y,l,h1,h2=>by
  cases h1
  show(match Sg45.go T day x l with
   |some y=>x::places T day y rest
   |none=>[x])=_
  rw[h2]
  rfl
 |a::pre,rest,x,y,l,h1,h2=>by
  rw[Sg45.follow]at h1
  cases e:Sg45.go T day x a with
  |none=>rw[e]at h1;cases h1
  |some u=>
   rw[e]at h1
   rw[acs,places,places,e]
   dsimp only
   rw[xc h1 h2]
theorem xf{T:Sg45.Table}{day:Nat}:∀{pre:List Sg45.Leg}{x y:Sg45.Place},Sg45.follow T day x pre=some y->(places T day x pre).length=pre.length+1/\(places T day x pre)[pre.length]?=some y
 |[],x,y,h=>by
  cases h
  exact⟨U,U⟩
 |a::pre,x,y,h=>by
  rw[Sg45.follow]at h
  cases e:Sg45.go T day x a with
  |none=>rw[e]at h;cases h
  |some u=>
   rw[e]at h
   have:=xf h
   rw[places,e]
   dsimp only
   exact⟨by simp[this.1],by simpa using this.2⟩
noncomputable def fL(pa:Addr)(g:Nat)(ll rl:Addr):aV:=[("place", .ref pa),("goal", .int (g:Nat)),("legs", .ref ll),("rides_made", .ref rl)]
section
variable{P:Program}{w:World}{K:PySem.W.Frag}{mg:Str->Option Value}{base:Heap}{A:Ad}
def BD(A:Ad):Sp:=fun vs H Q _=>∃(t la:Addr)(T:Sg45.Table)(zs:List Nat)(day n i j:Nat)(kk:Int)(p:Sg45.Trip),vs=[.ref t, .ref la]/\TabAt A H t T zs day/\dQ T day/\ji H la (.ride n kk i j)/\(n,kk,p)∈Sg45.instances T day/\i<j/\j<p.calls.length/\(∀z∈zs,z<=8)/\
 ∀(H':Hp)(b:Addr),ak H H'->iJ A H' b ⟨p.goes day kk i,p.comes day kk j,dX (jY zs p i j) 0⟩->Q (.ref b) H'
abbrev tW:Stmt:=top 60
theorem kG:aB ["timetable","leg","calls","zones","call"] ["timetable","leg"] (ao tW):=sm
theorem Eg{f:Addr}{fd:FuncData}(F:eH K "ride_now" "ride_now" tW f fd)(T:Txt K mg A)(bx:MethAt P w K mg base 3 A.aJ "calls_now" ["self","number","day"] (pD A))(FQ:eG P w K mg base 1 "Ride" A.xy ["self","goes","comes","zones"] (uD A.xy ["goes","comes","zones"])):bq P w K mg base eD 4 f fd ["timetable","leg"] (BD A):=by
 refine F.ok kG (fun vs H Q E h=> ?_) (fun dz Ar outer s H vs Q E hr h=> ?_)
 . obtain⟨_,_,_,_,_,_,_,_,_,_,rfl,_⟩:=h
   rfl
 obtain⟨t,la,Tb,zs,day,n,i,j,kk,p,rfl,lT,ok,⟨f0,t0,m0,yi⟩,hz,kN,hj,He,k⟩:=h
 have Ly:=lT
 obtain⟨sl,wl,tl,ss,ws,ts,hT⟩:=Ly
 obtain⟨dt,hi⟩:=hT.ins
 refine⟨_,(ae (aC (i:=2) kG.nd rfl oi (bB (pv 0) bx hr (aa (aM ax (pv 1) aj (fun _ _=>rfl)) (aa (aM ax (pv 1) aj (fun _ _=>rfl)) ag))))
  (ae (aC (i:=3) kG.nd rfl oi aj)
  (ae (dI acZ rfl (cG (lX oO (pv 2) (j8 (aM ax (pv 1) aj (fun _ _=>rfl))) (j8 (bA ft (aM ax (pv 1) aj (fun _ _=>rfl)) aj)))) (aX (i:=4) kG.nd rfl oi) (ah (qE (i:=3) kG.nd rfl oi (bA qH aj (ai (aM ax (ai (pv 0) rfl) (ai (pv 4) rfl) (fun _ _=>rfl)) rfl)) Bx)))
  (ah (aA (cv FQ hr rfl (aa (ai (aM ax (pv 2) (aM ax (pv 1) aj (fun _ _=>rfl)) (fun _ _=>rfl)) rfl) (aa (ai (aM ax (pv 2) (aM ax (pv 1) aj (fun _ _=>rfl)) (fun _ _=>rfl)) rfl) (aa (pv 3) ag))))))))), ?_⟩
 refine⟨_,U,t,dt,_,U,hi,U,_,U,_,_,_,_,U,U,aW.of yi,U,_,U,_,_,_,_,U,U,aW.of yi,U,t,Tb,zs,day,n,kk,p,U,lT,ok,hz,fun H1 L as s1 hL wX=> ?_⟩
 obtain⟨ci,OU,⟨Zu,OV⟩⟩:=wX.get (bR (p:=p) (day:=day) (k:=kk) (i:=i) (by lia))
 obtain⟨cj,MC,⟨Zv,MD⟩⟩:=wX.get (bR (p:=p) (day:=day) (k:=kk) (i:=j) hj)
 refine⟨_,U,_,U,_,_,_,_,U,U,aW.of (s1 _ _ yi),U,_,U,_,U,_,_,_,_,U,U,aW.of (s1 _ _ yi),U,_,_,U,U,_,U,L,_,U,aW.of wX.lst,fun S hS=> ?_⟩
 have s2:=ak.upd (o:= .lst (lB (as.map V.ref) (some (i:Int)) (some ((j:Int)+1)))) hS
 have Sg:(as.map V.ref).length=p.calls.length:=by rw[wX.cz,i6]
 have MP:lB (as.map V.ref) (some (i:Int)) (some ((j:Int)+1))=((as.map V.ref).drop i).take (j+1-i):=by
  unfold lB
  rw[show((j:Int)+1)=((j+1:Nat):Int) by lia,uT,uT,Sg]
  congr 2<;>lia
 have lz:(jY zs p i j).length=j+1-i:=by simp[jY]
 refine⟨S,U,⟨_,aW.of af⟩, ?_⟩
 refine eQ (K:=K) (a:=S) (xs:=lB (as.map V.ref) (some (i:Int)) (some ((j:Int)+1))) (fun m σ H'=>∃o4,σ=[some (.ref t),some (.ref la),some (.ref L),some (.int (dX ((jY zs p i j).take m) 0:Nat)),o4]/\H'=upd H1 S (.lst (lB (as.map V.ref) (some (i:Int)) (some ((j:Int)+1)))))
  ⟨none,rfl,rfl⟩ (fun m σ H' _⟨_,_,e⟩=>by rw[e];exact aW.of af) ?_ ?_
 . rintro m v σ H' hv ⟨o4,rfl,rfl⟩
   rw[MP]at hv
   have hm:m<j+1-i:=by
    have:=(abt.mp hv).1
    rw[abR]at this
    lia
   rw[List.getElem?_take_of_lt hm,List.getElem?_drop]at hv
   obtain⟨ca,c,rfl,C8,⟨dc,Av⟩⟩:=wX.turn hv
   obtain⟨ZI,rfl⟩:=cu C8
   have hb:=Cm ok hz ZI
   obtain⟨sa,ZJ,⟨X0,Oa⟩⟩:=(hT.same (s1.trans s2)).st.get (zip_get hb.1 hT.zl)
   have hz9:zs.getD (p.stopAt (i+m)) 0<=8:=by
    rw[acd]
    cases e:zs[p.stopAt (i+m)]?with
    |none=>exact abE _
    |some z=>exact He z (abW e)
   refine⟨_,U,_,U,_,_,_,_,_,U,s2 _ _ (s1 _ _ hi),T.az,T.aS,U,_,U,_,_,_,_,_,U,s2 _ _ Av,T.bw,T.cC,U,_,_,_,_,U,U,aW.of (s2 _ _ (s1 _ _ hT.st.lst)),c9 ZJ,_,_,_,_,_,U,Oa,T.kd,T.wO,U,_,_,U,U,⟨by lia,by dsimp only;lia,by decide⟩,_,_,U,U, ?_⟩
   refine⟨some (.ref ca), ?_,U⟩
   have ez:(jY zs p i j)[m]?=some (zs.getD (p.stopAt (i+m)) 0):=by
    unfold jY
    rw[abV,acr hm]
    rfl
   show [some (V.ref t),some (V.ref la),some (V.ref L),some (V.int (Builtin.bitOr ((dX ((jY zs p i j).take m) 0:Nat):Int) (1*2^(((zs.getD (p.stopAt (i+m)) 0:Nat):Int)).toNat))),some (V.ref ca)]=_
   rw[mW,pB,take_snoc ez]
   unfold dX
   rw[aci]
   rfl
 rintro σ H' ⟨o4,rfl,rfl⟩
 have Pb:(lB (as.map V.ref) (some (i:Int)) (some ((j:Int)+1))).length=(jY zs p i j).length:=by
  rw[MP,lz,abR,List.length_drop,Sg]
  lia
 rw[Pb,ac3]
 refine⟨_,U,_,U,_,_,_,_,U,U,aW.of (s2 _ _ (s1 _ _ yi)),U,_,_,_,_,U,U,aW.of (s2 _ _ wX.lst),c9 OU,_,_,_,_,_,U,s2 _ _ OV,T.bw,T.dY,U,
  _,rfl,_,rfl,_,_,_,_,rfl,rfl,aW.of (s2 _ _ (s1 _ _ yi)),rfl,_,_,_,_,rfl,rfl,aW.of (s2 _ _ wX.lst),c9 MC,_,_,_,_,_,rfl,s2 _ _ MD,T.bw,T.dq,rfl,_,rfl, ?_⟩
 intro y dy hy hd ir
 refine⟨y,dy,_,U,U,af,U, ?_⟩
 rw[aL]
 exact k _ y ((s1.trans s2).trans (dE hy hd)) ⟨dy,k9⟩
def tX(A:Ad):Sp:=fun vs H Q _=>∃(t ll:Addr)(la:List Addr)(T:Sg45.Table)(zs:List Nat)(day:Nat)(legs:List Sg45.Leg),vs=[.ref t, .ref ll]/\TabAt A H t T zs day/\dQ T day/\Rep ji H ll la legs/\(∀l∈legs,FP T day l)/\(∀z∈zs,z<=8)/\legs.length<=100000/\
 ∀(H':Hp)(b:Addr)(ra:List Addr),ak H H'->H b=none->Rep (iJ A) H' b ra (legs.flatMap (dW T zs day))->Q (.ref b) H'
theorem mr{T:Sg45.Table}{zs:List Nat}{day:Nat}:∀{l:List Sg45.Leg},(l.flatMap (dW T zs day)).length<=l.length
 |[]=>by simp
 |a::l=>by
  have:=mr (T:=T) (zs:=zs) (day:=day) (l:=l)
  have h1:(dW T zs day a).length<=1:=by
   cases a with
   |walk _=>simp[dW]
   |ride n k i j=>
    show(match T.trips[n]?with
     |some p=>[(⟨p.goes day k i,p.comes day k j,dX (jY zs p i j) 0⟩:R3)]
     |none=>[]).length<=1
    cases T.trips[n]?<;>simp
  rw[acj,abX,abG]
  lia
abbrev rD:Stmt:=top 61
theorem pO:aB ["timetable","legs","leg"] ["timetable","legs"] (ao rD):=sm
theorem CK{f:Addr}{fd:FuncData}(F:eH K "rides_now" "rides_now" rD f fd)(T:Txt K mg A)(tY:FnAt P w K mg base 4 "ride_now" ["timetable","leg"] (BD A)):bq P w K mg base eD 5 f fd ["timetable","legs"] (tX A):=by
 refine F.ok pO (fun vs H Q E h=> ?_) (fun dz Ar outer s H vs Q E hr h=> ?_)
 . obtain⟨_,_,_,_,_,_,_,rfl,_⟩:=h
   rfl
 obtain⟨t,ll,la,Tb,zs,day,legs,rfl,lT,ok,hL,QN,He,Jr,k⟩:=h
 refine⟨_,(ah (aA (wB (tt:=AX (xr XE (xr (Ai K) (cT 2) (tC (.int 0))) (tC (.int (-1))))) rfl pO.nd (cG (pv 1)) (ee (own:=[("leg",2)]) (by rfl)) (fun _ _ _ _ _=>(aX (i:=2) pO.nd rfl oi)) (fun _ _ _ _ _=>B6 (ay GJ (aM ax (pv 2) aj (fun _ _=>rfl)) (bj rfl T.vK) nk)) (fun _ _ _ _ _=>(aO tY hr rfl (aa (pv 0) (aa (pv 2) ag))))))), ?_⟩
 refine⟨_,U,ll,U,⟨_,aW.of hL.lst⟩,fun D hD=> ?_⟩
 refine xZ (K:=K) (a:=ll) (xs:=la.map V.ref) (fun i H'=>ak H H'/\∃ra,Rep (iJ A) H' D ra ((legs.take i).flatMap (dW Tb zs day))) ⟨ak.upd hD,[],Rep.nil af⟩ (fun i H' _⟨s2,_⟩=>aW.of (s2 _ _ hL.lst)) ?_ ?_
 . rintro i v H' hv ⟨s2,ra,hR⟩
   obtain⟨b,l,rfl,yl,Lv⟩:=hL.turn hv
   obtain⟨f0,t0,m0,hb⟩:=Lv
   rw[take_snoc yl,ac6]
   refine⟨U, ?_⟩
   cases l with
   |walk n=>
    refine⟨_,U,_,_,_,_,U,U,aW.of (s2 _ _ hb),U,U,_,U, ?_⟩
    refine aK (fun q=>absurd q (by decide)) (fun _=> ?_)
    refine⟨s2,ra, ?_⟩
    simpa[dW]using hR
   |ride n kk i' j'=>
    obtain⟨p,hp,kN,hj⟩:=QN _ (abW yl)
    refine⟨_,U,_,_,_,_,U,U,aW.of (s2 _ _ hb),U,U,_,U, ?_⟩
    refine aK (fun _=> ?_) (fun q=> ?_)
    . refine⟨_,U,_,U,t,b,Tb,zs,day,n,i',j',kk,p,U,lT.same s2,ok,⟨f0,t0,m0,s2 _ _ hb⟩,hp,kN,hj,He,fun H3 rb s3 X8=> ?_⟩
      refine⟨_,s3 _ _ hR.lst, ?_,ak.fy (s2.trans s3) hD,ra++[rb], ?_⟩
      . rw[hR.cz]
        refine acW mr ?_
        rw[abR]
        exact acW (abk (ac7 _ _) Jr) (by decide)
      have e:List.flatMap (dW Tb zs day) [Sg45.Leg.ride n kk i' j']=[⟨p.goes day kk i',p.comes day kk j',dX (jY zs p i' j') 0⟩]:=by
       rw[acj,IH (cM.mp hp).1]
       rfl
      rw[e]
      exact hR.push (gX A) (c8 s3) (by rw[hR.lst];exact s3 _ _ hR.lst) X8
    exfalso
    apply q
    have:decide (V.int (n:Int)=V.int (-1))=false:=by
     apply decide_eq_false
     intro z
     injection z with z
     lia
    show(!decide (V.int (n:Int)=V.int (-1)))=true
    rw[this]
    rfl
 rintro H' ⟨s2,ra,hR⟩
 rw[hL.cz,ac3]at hR
 exact k H' D ra s2 hD hR
def zh(A:Ad):Sp:=fun vs H Q _=>∃(v t dv pa ll rl:Addr)(la:List Addr)(T:Sg45.Table)(zs:List Nat)(day g:Nat)(x:Sg45.Place)(legs:List Sg45.Leg),vs=[.ref v, .ref t]/\TabAt A H t T zs day/\dQ T day/\H v=some (.ins A.aN dv (fL pa g ll rl))/\cY A H pa x/\qZ T x/\Rep ji H ll la legs/\Fits T day x.halt_ x.way legs/\legs.length<=100000/\
 ∀(H':Hp)(b:Addr)(ps:List Addr),ak H H'->H b=none->Rep (cY A) H' b ps (places T day x legs)->Q (.ref b) H'
theorem vS{T:Sg45.Table}{day:Nat}:∀{pre:List Sg45.Leg}{l:Sg45.Leg}{rest:List Sg45.Leg}{x y:Sg45.Place},Fits T day x.halt_ x.way (pre++l::rest)->Sg45.follow T day x pre=some y->Fits T day y.halt_ y.way [l]
 |[],l,rest,x,y,h,hf=>by
  cases hf
  cases l with
  |walk i=>
   obtain⟨v,h1,h2,h3,_⟩:=h
   exact⟨v,h1,h2,h3,trivial⟩
  |ride n k i j=>
   obtain⟨p,h1,h2,h3,h4,_⟩:=h
   exact⟨p,h1,h2,h3,h4,trivial⟩
 |a::pre,l,rest,x,y,h,hf=>by
  rw[Sg45.follow]at hf
  cases e:Sg45.go T day x a with
  |none=>rw[e]at hf;cases hf
  |some u=>
   rw[e]at hf
   refine vS (x:=u) (rest:=rest) ?_ hf
   cases a with
   |walk i=>
    obtain⟨v,h1,h2,h3⟩:=vI (x:=x) h
    rw[e]at h2
    cases h2
    exact h3
   |ride n k i j=>
    obtain⟨p,h1,h2,h3,h4,h5⟩:=vJ (x:=x) h
    rw[e]at h5
    split at h5
    . cases h5
      exact h4
    cases h5
abbrev eB:Stmt:=inClass (top 62) 2
theorem cH:aB ["self","timetable","places","leg","place"] ["self","timetable"] (ao eB):=sm
theorem lQ{f:Addr}{fd:FuncData}(F:eH K "places_to_come" "Traveller.places_to_come" eB f fd)(T:Txt K mg A)(du:FnAt P w K mg base 4 "place_after" ["timetable","place","leg"] (gY A)):bq P w K mg base eD 5 f fd ["self","timetable"] (zh A):=by
 refine F.ok cH (fun vs H Q E h=> ?_) (fun dz Ar outer s H vs Q E hr h=> ?_)
 . obtain⟨_,_,_,_,_,_,_,_,_,_,_,_,_,rfl,_⟩:=h
   rfl
 obtain⟨v,t,dv,pa,ll,rl,la,Tb,zs,day,g,x,legs,rfl,lT,ok,hv,sH,px,hL,oz,Jr,k⟩:=h
 refine⟨_,(ae (aC (i:=2) cH.nd rfl oi (bb (aa (ai (pv 0) rfl) ag)))
  (ae (dI acZ rfl (cG (ai (pv 0) rfl)) (aX (i:=3) cH.nd rfl oi) (ae (aC (i:=4) cH.nd rfl oi (aO du hr rfl (aa (pv 1) (aa (aM ax (pv 2) (cJ bS aj) (fun _ _=>rfl)) (aa (pv 3) ag)))))
  (ae (bg (ay hE (pv 4) cI nk) (ah JB) aF)
  (ah (cF (k0 ac0 ac1 ac2 fu (pv 2) (aa (pv 4) ag)))))))
  (ah (aA (pv 2))))), ?_⟩
 refine⟨_,U,_,_,_,_,_,U,hv,T.aE,T.cn,U,by show 1<=sizeLine;decide,fun L NG=> ?_⟩
 have s1:=ak.upd (o:= .lst [.ref pa]) NG
 refine⟨_,U,_,_,_,_,_,U,s1 _ _ hv,T.aE,T.bC,U,ll,U,⟨_,aW.of (s1 _ _ hL.lst)⟩, ?_⟩
 have R0:Rep (cY A) (upd H L (.lst [.ref pa])) L [pa] (places Tb day x (legs.take 0)):=by
  refine⟨af,U,fun i y hy=> ?_⟩
  have e0:places Tb day x (legs.take 0)=[x]:=by rw[List.take_zero,places]
  rw[e0]at hy
  have:i=0:=by
   have:=(abt.mp hy).1
   simpa using this
  subst this
  cases hy
  exact⟨pa,U,iK A _ _ _ _ (c8 s1) sH⟩
 refine eQ (K:=K) (a:=ll) (xs:=la.map V.ref) (fun i σ H'=>∃o3 o4 ps y,σ=[some (.ref v),some (.ref t),some (.ref L),o3,o4]/\ak H H'/\Sg45.follow Tb day x (legs.take i)=some y/\qZ Tb y/\Rep (cY A) H' L ps (places Tb day x (legs.take i)))
  ⟨none,none,[pa],x,rfl,s1,rfl,px,R0⟩ (fun i σ H' _⟨_,_,_,_,_,s2,_⟩=>aW.of (s2 _ _ hL.lst)) ?_ ?_
 . rintro i u σ H' hu ⟨o3,o4,ps,y,rfl,s2,rB,py,hR⟩
   obtain⟨b,l,rfl,yl,Lv⟩:=hL.turn hu
   have pl:=xf rB
   have di:=(abt.mp yl).1
   have elt:(legs.take i).length=i:=by rw[abR];lia
   rw[elt]at pl
   obtain⟨pb,Pc,QO⟩:=hR.get pl.2
   have NJ:(ps.map V.ref).length=i+1:=by rw[hR.cz,pl.1]
   have pP:legs=legs.take i++l::legs.drop (i+1):=by
    obtain⟨h1,h2⟩:=abt.mp yl
    rw[<-h2,ade,acU]
   have Uy:Fits Tb day y.halt_ y.way [l]:=by
    rw[pP]at oz
    exact vS oz rB
   refine⟨_,U,_,U,_,U,_,_,_,_,U,U,aW.of hR.lst,yk (by rw[NJ];exact Pc),_,U,t,pb,b,Tb,zs,day,y,l,U,lT.same s2,ok,QO,py.hl,Lv.same s2,Uy,fun lG H3 s3=> ?_,fun y2 lG H3 c s3 hc ZK=> ?_⟩
   . refine⟨_,U,U,_,U, ?_⟩
     refine aK (fun _=> ?_) (fun q=>(q (by decide)).elim)
     refine⟨_,U, ?_⟩
     refine k H3 L ps (s2.trans s3) NG ?_
     have e:places Tb day x legs=places Tb day x (legs.take i):=by
      conv=>lhs;rw[pP]
      exact xc rB lG
     rw[e]
     exact hR.same (iK A) s3
   refine⟨_,U,U,_,U, ?_⟩
   refine aK (fun q=>absurd (of_decide_eq_true q) (by intro z;cases z)) (fun _=> ?_)
   refine⟨_,U, .inl ⟨U,_,aW.of (s3 _ _ hR.lst)⟩,_,U,L,_,_,U,U,s3 _ _ hR.lst, ?_, ?_⟩
   . rw[NJ]
     exact acW (abk di Jr) (by decide)
   have Sh:Sg45.follow Tb day x (legs.take (i+1))=some y2:=by
    rw[take_snoc yl,ig,rB,acw,jM lG]
   refine⟨_,_,ps++[c],y2,U,ak.fy (s2.trans s3) NG,Sh,py.go ok lG, ?_⟩
   rw[take_snoc yl,xb rB lG]
   exact hR.push (iK A) (c8 s3) (by rw[hR.lst];exact s3 _ _ hR.lst) ZK
 rintro σ H' ⟨o3,o4,ps,y,rfl,s2,rB,py,hR⟩
 refine⟨_,U, ?_⟩
 rw[hL.cz,ac3]at hR
 exact k H' L ps s2 NG hR
def Hf(A:Ad):Sp:=fun vs H Q _=>∃(v t dv pa ll rl:Addr)(la:List Addr)(T:Sg45.Table)(zs:List Nat)(day g:Nat)(x:Sg45.Place)(legs:List Sg45.Leg),vs=[.ref v, .ref t]/\TabAt A H t T zs day/\dQ T day/\H v=some (.ins A.aN dv (fL pa g ll rl))/\cY A H pa x/\qZ T x/\Rep ji H ll la legs/\Fits T day x.halt_ x.way legs/\legs.length<=100000/\
 ∀(H':Hp),ak H H'->Q (.bl (decide (legs.length<(places T day x legs).length))) H'
abbrev fP:Stmt:=inClass (top 62) 3
theorem oA:aB ["self","timetable"] ["self","timetable"] (ao fP):=sm
theorem oB{f:Addr}{fd:FuncData}(F:eH K "can_go_all" "Traveller.can_go_all" fP f fd)(T:Txt K mg A)(bM:MethAt P w K mg base 5 A.aN "places_to_come" ["self","timetable"] (zh A)):bq P w K mg base eD 6 f fd ["self","timetable"] (Hf A):=by
 refine F.ok oA (fun vs H Q E h=> ?_) (fun dz Ar outer s H vs Q E hr h=> ?_)
 . obtain⟨_,_,_,_,_,_,_,_,_,_,_,_,_,rfl,_⟩:=h
   rfl
 obtain⟨v,t,dv,pa,ll,rl,la,Tb,zs,day,g,x,legs,rfl,lT,ok,hv,sH,px,hL,oz,Jr,k⟩:=h
 refine⟨_,(ah (aA (oN jF (aP aD (by rfl) T.dF ada (aa (bB (pv 0) bM hr (aa (pv 1) ag)) ag)) (aP aD (by rfl) T.dF ada (aa (ai (pv 0) rfl) ag)) nk))), ?_⟩
 refine⟨_,U,v,dv,_,U,hv,U,_,U,v,t,dv,pa,ll,rl,la,Tb,zs,day,g,x,legs,U,lT,ok,hv,sH,px,hL,oz,Jr,fun H1 b ps s1 hb hR=> ?_⟩
 refine⟨_,_,U, .inl (aW.of hR.lst),_,U,_,_,_,_,_,U,s1 _ _ hv,T.aE,T.bC,U,_,_,U, .inl (aW.of (s1 _ _ hL.lst)),_,_,U,U, ?_⟩
 have:=k H1 s1
 rw[hR.cz,hL.cz]
 have e:decide ((legs.length:Int)<(((places Tb day x legs).length:Nat):Int))=decide (legs.length<(places Tb day x legs).length):=by
  by_cases c:legs.length<(places Tb day x legs).length
  . rw[decide_eq_true c,decide_eq_true (by lia)]
  rw[decide_eq_false c,decide_eq_false (by lia)]
 show Q (.bl (decide ((legs.length:Int)<(((places Tb day x legs).length:Nat):Int)))) H1
 rw[e]
 exact this
def zi(A:Ad):Sp:=fun vs H Q _=>∃(v t dv pa ll rl:Addr)(la ra:List Addr)(T:Sg45.Table)(zs:List Nat)(day g:Nat)(legs:List Sg45.Leg)(R:List R3),vs=[.ref v, .ref t]/\TabAt A H t T zs day/\dQ T day/\H v=some (.ins A.aN dv (fL pa g ll rl))/\Rep ji H ll la legs/\(∀l∈legs,FP T day l)/\(∀z∈zs,z<=8)/\legs.length<=100000/\Rep (iJ A) H rl ra R/\R.length<=100000/\
 ∀(H':Hp)(b:Addr)(rb:List Addr),ak H H'->H b=none->Rep (iJ A) H' b rb (R++legs.flatMap (dW T zs day))->Q (.ref b) H'
abbrev gi:Stmt:=inClass (top 62) 4
theorem pQ:aB ["self","timetable"] ["self","timetable"] (ao gi):=sm
theorem pR{f:Addr}{fd:FuncData}(F:eH K "all_rides" "Traveller.all_rides" gi f fd)(T:Txt K mg A)(iU:FnAt P w K mg base 5 "rides_now" ["timetable","legs"] (tX A)):bq P w K mg base eD 6 f fd ["self","timetable"] (zi A):=by
 refine F.ok pQ (fun vs H Q E h=> ?_) (fun dz Ar outer s H vs Q E hr h=> ?_)
 . obtain⟨_,_,_,_,_,_,_,_,_,_,_,_,_,_,rfl,_⟩:=h
   rfl
 obtain⟨v,t,dv,pa,ll,rl,la,ra,Tb,zs,day,g,legs,R,rfl,lT,ok,hv,hL,QN,He,Jr,hR,ZL,k⟩:=h
 refine⟨_,(ah (aA (bA lY (ai (pv 0) rfl) (aO iU hr rfl (aa (pv 1) (aa (ai (pv 0) rfl) ag)))))), ?_⟩
 refine⟨_,U,_,_,_,_,_,U,hv,T.aE,T.dU,U,_,U,_,U,_,_,_,_,_,U,hv,T.aE,T.bC,U,t,ll,la,Tb,zs,day,legs,U,lT,ok,hL,QN,He,Jr,fun H1 b rb s1 hb Lz=> ?_⟩
 refine⟨rl,b,_,_,U,U,s1 _ _ hR.lst,Lz.lst, ?_,fun c hc=> ?_⟩
 . rw[hR.cz,Lz.cz]
   have:=mr (T:=Tb) (zs:=zs) (day:=day) (l:=legs)
   exact abk (show R.length+(legs.flatMap (dW Tb zs day)).length<=200000 by lia) (by decide)
 have s2:=ak.upd (o:= .lst (ra.map V.ref++rb.map V.ref)) hc
 refine k _ c (ra++rb) (s1.trans s2) (s1.free hc) ⟨by rw[af,acX],by simp[hR.len,Lz.len],fun i y hy=> ?_⟩
 by_cases ci:i<R.length
 . rw[abU ci]at hy
   obtain⟨e,e1,e2⟩:=hR.at_ i y hy
   exact⟨e,by rw[abU (by rw[hR.len];exact ci)];exact e1,gX A _ _ _ _ (c8 (s1.trans s2)) e2⟩
 rw[abT (by lia)]at hy
 obtain⟨e,e1,e2⟩:=Lz.at_ _ y hy
 exact⟨e,by rw[abT (by rw[hR.len];lia),hR.len];exact e1,gX A _ _ _ _ (c8 s2) e2⟩
end
theorem jt{f:Str}{v x:V}{r:aV}:bc f v ((f,x)::r)=(f,v)::r:=by
 show(if f=f then(f,v)::r else(f,x)::bc f v r)=_
 rw[if_pos rfl]
theorem fq{f g:Str}{v x:V}{r:aV}(h:g≠f):bc f v ((g,x)::r)=(g,x)::bc f v r:=by
 show(if g=f then(g,v)::r else(g,x)::bc f v r)=_
 rw[if_neg h]
structure AB(sl wl tl:Addr)(ts:List Addr):Prop where
 sw:sl≠wl
 st:sl≠tl
 wt:wl≠tl
 nd:ts.Nodup
theorem gu.BE {H H':Hp} {l:Addr} {xs:List V} (k:gu H H' l) (h:H l=some (.lst xs)):qd H H':=fun b C dx fs e=>k _ _ e (bH e h (by intro q;cases q))
theorem su{A:Ad}{H:Hp}{cl l:Addr}{cs as:List Addr}{calls:List Sg45.At}{α:Type}{P:Hp->Addr->α->Prop}{xs:List α}(hc:Rep (gE A) H cl cs calls)(ir:calls≠[])(hl:Rep P H l as xs)(Wt:∀a x y,gE A H a x->P H a y->False):cl≠l:=by
 intro q
 subst q
 have e:cs.map V.ref=as.map V.ref:=by
  have:=hc.lst.symm.trans hl.lst
  injection this with this
  injection this
 have e:cs=as:=by
  have inj:∀(a b:List Addr),a.map V.ref=b.map V.ref->a=b:=by
   intro a
   induction a with
   |nil=>intro b h;cases b with|nil=>rfl|cons _ _=>simp at h
   |cons x a ih=>
    intro b h
    cases b with
    |nil=>simp at h
    |cons y b=>
     simp only[abH,List.cons.injEq,V.ref.injEq]at h
     rw[h.1,ih b h.2]
  exact inj _ _ e
 subst e
 cases calls with
 |nil=>exact ir rfl
 |cons c calls=>
  obtain⟨a,h1,h2⟩:=hc.at_ 0 c rfl
  have hlen:=hl.len
  have:0<xs.length:=by
   rw[<-hlen]
   exact(abt.mp h1).1
  obtain⟨b,h3,h4⟩:=hl.at_ 0 _ (acf this)
  rw[h1]at h3
  cases h3
  exact Wt _ _ _ h2 h4
theorem fQ{f g:Str}{v u:V}{r s:aV}(h:f≠g):((f,v)::r)≠((g,u)::s):=by
 intro q
 injection q with q
 injection q with q
 exact h q
theorem sO{A:Ad}{H:Hp}(a:Addr)(x:Sg45.At)(y:Nat×Nat)(h1:gE A H a x)(h2:y9 A H a y):False:=by
 obtain⟨d1,h1⟩:=h1
 obtain⟨d2,h2⟩:=h2
 rw[h1]at h2
 injection h2 with h2
 injection h2 with _ _ h2
 exact fQ (by decide+kernel) h2
theorem AD{A:Ad}{H:Hp}(a:Addr)(x:Sg45.At)(y:Sg45.Walk)(h1:gE A H a x)(h2:WalkAt A H a y):False:=by
 obtain⟨d1,h1⟩:=h1
 obtain⟨d2,h2⟩:=h2
 rw[h1]at h2
 injection h2 with h2
 injection h2 with _ _ h2
 exact fQ (by decide+kernel) h2
theorem sP{A:Ad}{H:Hp}{day:Nat}(a:Addr)(x:Sg45.At)(y:Sg45.Trip)(h1:gE A H a x)(h2:jh A day H a y):False:=by
 obtain⟨d1,h1⟩:=h1
 obtain⟨d2,_,_,h2,_⟩:=h2.ex
 rw[h1]at h2
 injection h2 with h2
 injection h2 with _ _ h2
 exact fQ (by decide+kernel) h2
theorem jh.uU {A:Ad} {H H':Hp} {day:Nat} {a l:Addr} {p:Sg45.Trip} {xs:List V} (h:jh A day H a p) (hl:H l=some (.lst xs)) (k:gu H H' l) (GO:∀cl cs,Rep (gE A) H cl cs p.calls->cl≠l):jh A day H' a p:=by
 obtain⟨dx,cl,cs,h1,h2⟩:=h.ex
 refine⟨dx,cl,cs,k.BE hl _ _ _ _ h1,h2.keep (lS A) ?_ (k.BE hl)⟩
 rw[h2.lst]
 exact k _ _ h2.lst (GO cl cs h2)
noncomputable def nJ(ns:Nat):Nat->List Sg45.At->Bool
 |_,[]=>true
 |g,a::l=>(decide (a.halt_<ns)&&(decide (g<=a.comes)&&(decide (a.comes<=a.goes)&&decide (a.goes<2880))))&&nJ ns a.goes l
theorem BF{T:Sg45.Table}:∀{l:List Sg45.At}{g:Nat}{a:Sg45.At},nJ T.stops.length g (a::l)=(decide (g<=a.comes)&&Sg45.callsOk T (a::l))
 |[],g,a=>by
  unfold nJ Sg45.callsOk
  simp only[nJ,List.all_cons,List.all_nil,List.tail_cons,List.zip_nil_right,Bool.and_true]
  cases decide (a.halt_<T.stops.length)<;>cases decide (g<=a.comes)<;>simp
 |b::l,g,a=>by
  have ih:=BF (T:=T) (l:=l) (g:=a.goes) (a:=b)
  rw[nJ,ih]
  unfold Sg45.callsOk
  simp only[List.all_cons,List.tail_cons,List.zip_cons_cons]
  generalize(l.all fun a=>decide (a.halt_<T.stops.length)&&(decide (a.comes<=a.goes)&&decide (a.goes<2880)))=X
  generalize(((b::l).zip l).all fun x=>decide (x.1.goes<=x.2.comes))=Y
  cases decide (a.halt_<T.stops.length)<;>cases decide (g<=a.comes)<;>cases decide (a.comes<=a.goes)<;>cases decide (a.goes<2880)<;>cases decide (a.goes<=b.comes)<;>cases X<;>cases Y<;>simp
theorem xg{T:Sg45.Table}{l:List Sg45.At}:nJ T.stops.length 0 l=Sg45.callsOk T l:=by
 cases l with
 |nil=>rfl
 |cons a l=>
  rw[BF,decide_eq_true (abE _),acR]
section
variable{P:Program}{w:World}{K:PySem.W.Frag}{mg:Str->Option Value}{base:Heap}{A:Ad}
def zj(A:Ad):Sp:=fun vs H Q _=>∃(p dx:Addr)(u v:V),vs=[.ref p,u,v]/\H p=some (.ins A.Trip dx [])/\Q .dR (upd H p (.ins A.Trip dx [("days",u),("calls",v),("late_call", .int 0),("late_minutes", .int 0)]))
abbrev rE:Stmt:=inClass (top 17) 0
theorem CL:aB ["self","days","calls"] ["self","days","calls"] (ao rE):=sm
theorem CM{f:Addr}{fd:FuncData}(F:eH K "__init__" "Trip.__init__" rE f fd)(T:Txt K mg A):bq P w K mg base eD 1 f fd ["self","days","calls"] (zj A):=by
 refine F.ok CL (fun vs H Q E h=> ?_) (fun dz Ar outer s H vs Q E hr h=> ?_)
 . obtain⟨_,_,_,_,rfl,_⟩:=h
   rfl
 obtain⟨p,dx,u,v,rfl,hp,k⟩:=h
 refine⟨_,(ae (aU (pv 0) (pv 1) rfl)
  (ae (aU (pv 0) (pv 2) rfl)
  (ae (aU (pv 0) aj rfl)
  (ah (aU (pv 0) aj rfl))))), ?_⟩
 refine⟨_,U,_,U,p,_,dx,_,U,hp,T.fo,T.wQ,Ud, ?_⟩
 rw[show bc "days" u ([]:aV)=([("days",u)]:aV)from rfl]
 refine⟨_,U,_,U,p,_,dx,_,U,af,T.fo,T.uE,Ud, ?_⟩
 rw[aL,show bc "calls" v ([("days",u)]:aV)=([("days",u),("calls",v)]:aV)from aI (ns:=["days"]) rfl (by decide+kernel)]
 refine⟨_,U,p,_,dx,_,U,af,T.fo,T.fz,Ud, ?_⟩
 rw[aL,show bc "late_call" (.int 0) ([("days",u),("calls",v)]:aV)=([("days",u),("calls",v),("late_call", .int 0)]:aV)from aI (ns:=["days","calls"]) rfl (by decide+kernel)]
 refine⟨_,U,p,_,dx,_,U,af,T.fo,T.hG,Ud, ?_⟩
 rw[aL,show bc "late_minutes" (.int 0) ([("days",u),("calls",v),("late_call", .int 0)]:aV)=([("days",u),("calls",v),("late_call", .int 0),("late_minutes", .int 0)]:aV)from aI (ns:=["days","calls","late_call"]) rfl (by decide+kernel)]
 exact k
def BG(A:Ad):Sp:=fun vs H Q _=>∃(p dx:Addr)(day:Nat)(H0:Hp),vs=[.ref p, .int (day:Nat)]/\H0 p=none/\H0 dx=none/\dx≠p/\H=upd (upd H0 dx (.own p)) p (.ins A.aJ dx [])/\
 ∀(H':Hp)(sl wl tl:Addr),ak H0 H'->H0 sl=none->H0 wl=none->H0 tl=none->AB sl wl tl []->iZ A H' p sl wl tl [] [] [] Sg45.empty [] day->Q .dR H'
abbrev jZ:Stmt:=inClass (top 19) 0
theorem uV:aB ["self","weekday"] ["self","weekday"] (ao jZ):=sm
theorem uW{f:Addr}{fd:FuncData}(F:eH K "__init__" "Timetable.__init__" jZ f fd)(T:Txt K mg A):bq P w K mg base eD 1 f fd ["self","weekday"] (BG A):=by
 refine F.ok uV (fun vs H Q E h=> ?_) (fun dz Ar outer s H vs Q E hr h=> ?_)
 . obtain⟨_,_,_,_,rfl,_⟩:=h
   rfl
 obtain⟨p,dx,day,H0,rfl,FK,MH,ir,rfl,k⟩:=h
 refine⟨_,(ae (aU (pv 0) (pv 1) rfl)
  (ae (aU (pv 0) (bb ag) rfl)
  (ae (aU (pv 0) (bb ag) rfl)
  (ah (aU (pv 0) (bb ag) rfl))))), ?_⟩
 refine⟨_,U,_,U,p,_,dx,_,U,af,T.az,T.lh,Ud, ?_⟩
 rw[aL,show bc "weekday" (.int (day:Nat)) ([]:aV)=([("weekday", .int (day:Nat))]:aV)from rfl]
 have s1:ak H0 (upd (upd H0 dx (.own p)) p (.ins A.aJ dx [("weekday", .int (day:Nat))])):=dE FK MH
 have p1:(upd (upd H0 dx (.own p)) p (.ins A.aJ dx [("weekday", .int (day:Nat))])) p=some (.ins A.aJ dx [("weekday", .int (day:Nat))]):=af
 generalize upd (upd H0 dx (.own p)) p (.ins A.aJ dx [("weekday", .int (day:Nat))])=H1 at s1 p1⊢
 refine⟨abE _,fun sl Ac=> ?_⟩
 have n1:p≠sl:=aw p1 Ac
 refine⟨_,U,p,_,dx,_,U,(by rw[au n1];exact p1),T.az,T.aS,Ud, ?_⟩
 rw[show bc "stops" (.ref sl) ([("weekday", .int (day:Nat))]:aV)=([("weekday", .int (day:Nat)),("stops", .ref sl)]:aV)from aI (ns:=["weekday"]) rfl (by decide+kernel)]
 have z1:H0 sl=none:=s1.free Ac
 have s2:ak H0 (upd (upd H1 sl (.lst [])) p (.ins A.aJ dx [("weekday", .int (day:Nat)),("stops", .ref sl)])):=ak.fy (ak.fy s1 z1) FK
 have p2:(upd (upd H1 sl (.lst [])) p (.ins A.aJ dx [("weekday", .int (day:Nat)),("stops", .ref sl)])) p=some (.ins A.aJ dx [("weekday", .int (day:Nat)),("stops", .ref sl)]):=af
 have l2:(upd (upd H1 sl (.lst [])) p (.ins A.aJ dx [("weekday", .int (day:Nat)),("stops", .ref sl)])) sl=some (.lst []):=by rw[au (abp n1),af]
 generalize upd (upd H1 sl (.lst [])) p (.ins A.aJ dx [("weekday", .int (day:Nat)),("stops", .ref sl)])=H2 at s2 p2 l2⊢
 refine⟨abE _,fun wl Mb=> ?_⟩
 have n2:p≠wl:=aw p2 Mb
 have m2:sl≠wl:=aw l2 Mb
 refine⟨_,U,p,_,dx,_,U,(by rw[au n2];exact p2),T.az,T.cg,Ud, ?_⟩
 rw[show bc "walks" (.ref wl) ([("weekday", .int (day:Nat)),("stops", .ref sl)]:aV)=([("weekday", .int (day:Nat)),("stops", .ref sl),("walks", .ref wl)]:aV)from aI (ns:=["weekday","stops"]) rfl (by decide+kernel)]
 have z2:H0 wl=none:=s2.free Mb
 have s3:ak H0 (upd (upd H2 wl (.lst [])) p (.ins A.aJ dx [("weekday", .int (day:Nat)),("stops", .ref sl),("walks", .ref wl)])):=ak.fy (ak.fy s2 z2) FK
 have p3:(upd (upd H2 wl (.lst [])) p (.ins A.aJ dx [("weekday", .int (day:Nat)),("stops", .ref sl),("walks", .ref wl)])) p=some (.ins A.aJ dx [("weekday", .int (day:Nat)),("stops", .ref sl),("walks", .ref wl)]):=af
 have l3:(upd (upd H2 wl (.lst [])) p (.ins A.aJ dx [("weekday", .int (day:Nat)),("stops", .ref sl),("walks", .ref wl)])) sl=some (.lst []):=by rw[au (abp n1),au m2];exact l2
 have w3:(upd (upd H2 wl (.lst [])) p (.ins A.aJ dx [("weekday", .int (day:Nat)),("stops", .ref sl),("walks", .ref wl)])) wl=some (.lst []):=by rw[au (abp n2),af]
 generalize upd (upd H2 wl (.lst [])) p (.ins A.aJ dx [("weekday", .int (day:Nat)),("stops", .ref sl),("walks", .ref wl)])=H3 at s3 p3 l3 w3⊢
 refine⟨abE _,fun tl Uz=> ?_⟩
 have n3:p≠tl:=aw p3 Uz
 have m3:sl≠tl:=aw l3 Uz
 have m4:wl≠tl:=aw w3 Uz
 refine⟨_,U,p,_,dx,_,U,(by rw[au n3];exact p3),T.az,T.ck,Ud, ?_⟩
 rw[show bc "trips" (.ref tl) ([("weekday", .int (day:Nat)),("stops", .ref sl),("walks", .ref wl)]:aV)=([("weekday", .int (day:Nat)),("stops", .ref sl),("walks", .ref wl),("trips", .ref tl)]:aV)from aI (ns:=["weekday","stops","walks"]) rfl (by decide+kernel)]
 have z3:H0 tl=none:=s3.free Uz
 refine k _ sl wl tl (ak.fy (ak.fy s3 z3) FK) z1 z2 z3 ⟨m2,m3,m4,List.nodup_nil⟩ ⟨⟨dx,af⟩,Rep.nil ?_,Rep.nil ?_,Rep.nil ?_,rfl⟩
 . rw[au (abp n1),au m3];exact l3
 . rw[au (abp n2),au m4];exact w3
 rw[au (abp n3),af]
def BH(A:Ad):Sp:=fun vs H Q _=>∃(t cl:Addr)(cs:List Addr)(T:Sg45.Table)(zs:List Nat)(day:Nat)(calls:List Sg45.At),vs=[.ref t, .ref cl]/\TabAt A H t T zs day/\Rep (gE A) H cl cs calls/\Q (.bl (Sg45.callsOk T calls)) H
abbrev dg:Stmt:=inClass (top 19) 3
theorem bX:aB ["self","calls","gone","call"] ["self","calls"] (ao dg):=sm
theorem jE{f:Addr}{fd:FuncData}(F:eH K "are_calls_in_order" "Timetable.are_calls_in_order" dg f fd)(T:Txt K mg A):bq P w K mg base eD 1 f fd ["self","calls"] (BH A):=by
 refine F.ok bX (fun vs H Q E h=> ?_) (fun dz Ar outer s H vs Q E hr h=> ?_)
 . obtain⟨_,_,_,_,_,_,_,rfl,_⟩:=h
   rfl
 obtain⟨t,cl,cs,Tb,zs,day,calls,rfl,lT,kP,k⟩:=h
 obtain⟨sl,wl,tl,ss,ws,ts,hT⟩:=lT
 obtain⟨dt,hi⟩:=hT.ins
 have Ac:(ss.map V.ref).length=Tb.stops.length:=by rw[hT.st.cz,kj hT.zl]
 refine⟨_,(ae (aC (i:=2) bX.nd rfl oi aj)
  (ae (dI acZ rfl (cG (pv 1)) (aX (i:=3) bX.nd rfl oi) (ae (bg (ay iR (ai (pv 3) rfl) (aP aD (by rfl) T.dF ada (aa (ai (pv 0) rfl) ag)) nk) (ah (aA p0)) aF)
  (ae (bg (PW.pt (gn (ay lV (ai (pv 3) rfl) (pv 2) nk) (gn (ay lV (ai (pv 3) rfl) (ai (pv 3) rfl) nk) (gw (ay iR (ai (pv 3) rfl) (bj rfl T.ja) nk))))) (ah (aA p0)) aF)
  (ah (aC (i:=2) bX.nd rfl oi (ai (pv 3) rfl))))))
  (ah (aA p0)))), ?_⟩
 refine⟨_,U,cl,U,⟨_,aW.of kP.lst⟩, ?_⟩
 refine eQ (K:=K) (a:=cl) (xs:=cs.map V.ref) (fun i σ H'=>∃(g:Nat)(o3:Option V),σ=[some (.ref t),some (.ref cl),some (.int (g:Nat)),o3]/\H'=H/\nJ Tb.stops.length 0 calls=nJ Tb.stops.length g (calls.drop i))
  ⟨0,none,rfl,rfl,rfl⟩ (fun i σ H' _⟨_,_,_,e,_⟩=>by rw[e];exact aW.of kP.lst) ?_ ?_
 . rintro i v σ H' hv ⟨g,o3,rfl,rfl,dD⟩
   obtain⟨ca,c,rfl,C8,⟨dc,Av⟩⟩:=kP.turn hv
   have hd:calls.drop i=c::calls.drop (i+1):=by
    obtain⟨h1,h2⟩:=abt.mp C8
    rw[<-h2,ade]
   rw[hd,nJ]at dD
   have no:(decide (c.halt_<Tb.stops.length)&&(decide (g<=c.comes)&&(decide (c.comes<=c.goes)&&decide (c.goes<2880))))=false->Q (.bl false) H':=fun q=>by
    rw[q,aby,xg]at dD
    rw[dD]at k
    exact k
   refine⟨_,U,_,_,_,_,_,U,Av,T.bw,T.cC,U,_,U,_,_,_,_,_,U,hi,T.az,T.aS,U,_,_,U, .inl (aW.of hT.st.lst),_,_,U,U,_,U, ?_⟩
   refine aK (fun q=> ?_) (fun q=> ?_)
   . have q:(((ss.map V.ref).length:Nat):Int)<=(c.halt_:Int):=of_decide_eq_true q
     rw[Ac]at q
     exact no (by rw[decide_eq_false (by lia),aby])
   have q1:c.halt_<Tb.stops.length:=by
    apply acp
    intro z
    apply q
    show decide ((((ss.map V.ref).length:Nat):Int)<=(c.halt_:Int))=true
    rw[Ac]
    exact decide_eq_true (by lia)
   refine⟨_,U,_,_,_,_,_,U,Av,T.bw,T.dq,U,_,U,_,_,U,U,_,U, ?_⟩
   refine aK (fun q=> ?_) (fun q=> ?_)
   . have q:(c.comes:Int)<(g:Int):=of_decide_eq_true q
     refine aK (fun _=> ?_) (fun z=>(z rfl).elim)
     exact no (by rw[decide_eq_false (show¬g<=c.comes by lia),aby,ab2])
   have q2:g<=c.comes:=by
    apply acp
    intro z
    exact q (decide_eq_true (show(c.comes:Int)<(g:Int) by lia))
   refine⟨_,U,_,_,_,_,_,U,Av,T.bw,T.dY,U,_,U,_,_,_,_,_,U,Av,T.bw,T.dq,U,_,_,U,U,_,U, ?_⟩
   refine aK (fun q=> ?_) (fun q=> ?_)
   . have q:(c.goes:Int)<(c.comes:Int):=of_decide_eq_true q
     refine aK (fun _=> ?_) (fun z=>(z rfl).elim)
     exact no (by rw[decide_eq_false (show¬c.comes<=c.goes by lia),aby,ab2,ab2])
   have q3:c.comes<=c.goes:=by
    apply acp
    intro z
    exact q (decide_eq_true (show(c.goes:Int)<(c.comes:Int) by lia))
   refine⟨_,U,_,_,_,_,_,U,Av,T.bw,T.dY,U,_,_,U,U,_,U, ?_⟩
   refine aK (fun q=> ?_) (fun q=> ?_)
   . have q:(2880:Int)<=(c.goes:Int):=of_decide_eq_true q
     exact no (by rw[decide_eq_false (show¬c.goes<2880 by lia),ab2,ab2,ab2])
   have q4:c.goes<2880:=by
    apply acp
    intro z
    exact q (decide_eq_true (show(2880:Int)<=(c.goes:Int) by lia))
   rw[decide_eq_true q1,decide_eq_true q2,decide_eq_true q3,decide_eq_true q4]at dD
   simp only[acR]at dD
   refine⟨_,U,_,_,_,_,_,U,Av,T.bw,T.dY,U, ?_⟩
   exact⟨c.goes,_,U,U,dD⟩
 rintro σ H' ⟨g,o3,rfl,rfl,dD⟩
 rw[kP.cz,List.drop_length,nJ,xg]at dD
 rw[dD]at k
 exact k
end
theorem uX{ns day:Nat}{p:Sg45.Trip}(h:kO ns day p):p.calls≠[]:=fun q=>by
 have:=h.n2
 rw[q]at this
 simp at this
theorem sub_one{n:Nat}:(((n+1:Nat):Int)-1)=(n:Int):=by lia
theorem iZ.Wu {A:Ad} {H H':Hp} {t sl wl tl:Addr} {ss ws ts:List Addr} {T:Sg45.Table} {zs:List Nat} {day:Nat} (h:iZ A H t sl wl tl ss ws ts T zs day) (S:AB sl wl tl ts) (ok:dQ T day) (k:gu H H' sl) {Si:List Addr} {T':Sg45.Table} {zs':List Nat} (ew:T'.walks=T.walks) (et:T'.trips=T.trips) (st:Rep (y9 A) H' sl Si (T'.stops.zip zs')) (zl:zs'.length=T'.stops.length):iZ A H' t sl wl tl Si ws ts T' zs' day:=by
 obtain⟨dx,hi⟩:=h.ins
 have kI:=k.BE h.st.lst
 refine⟨⟨dx,kI _ _ _ _ hi⟩,st, ?_, ?_,zl⟩
 . rw[ew]
   exact h.wk.keep (ox A) (by rw[h.wk.lst];exact k _ _ h.wk.lst (abp S.sw)) kI
 rw[et]
 refine h.tp.mono (by rw[h.tp.lst];exact k _ _ h.tp.lst (abp S.st)) fun a p ha q=> ?_
 by_cases c:p∈T.trips
 . exact q.uU h.st.lst k fun cl cs hc=>su hc (uX (ok.tp p c)) h.st fun a x y=>sO a x y
 obtain⟨d1,cl,cs,h1,h2⟩:=q.ex
 by_cases e:p.calls=[]
 . exact False.elim (c (by
    obtain⟨i,hi⟩:=acv.mp ha
    have di:=(abt.mp hi).1
    rw[h.tp.len]at di
    obtain⟨b,C7,EY⟩:=h.tp.at_ i _ (acf di)
    rw[hi]at C7
    cases C7
    obtain⟨d2,Wv,Ww,g1,g2⟩:=EY.ex
    rw[h1]at g1
    injection g1 with g1
    injection g1 with _ _ g1
    have e2:cl=Wv:=by
     simp only[List.cons.injEq,Prod.mk.injEq,V.ref.injEq,V.int.injEq]at g1
     exact g1.2.1.2
    subst e2
    have l1:=h2.lst.symm.trans g2.lst
    have:cs.length=Ww.length:=by
     injection l1 with l1
     injection l1 with l1
     have:=congrArg List.length l1
     simpa using this
    rw[h2.len,g2.len,e]at this
    have n2:=(ok.tp _ (List.getElem_mem di)).n2
    simp at this
    lia))
 exact q.uU h.st.lst k fun cl cs hc=>su hc e h.st fun a x y=>sO a x y
theorem iZ.Wx {A:Ad} {H H':Hp} {t sl wl tl:Addr} {ss ws ts:List Addr} {T:Sg45.Table} {zs:List Nat} {day:Nat} (h:iZ A H t sl wl tl ss ws ts T zs day) (S:AB sl wl tl ts) (ok:dQ T day) (k:gu H H' wl) {Sj:List Addr} {T':Sg45.Table} (es:T'.stops=T.stops) (et:T'.trips=T.trips) (wk:Rep (WalkAt A) H' wl Sj T'.walks):iZ A H' t sl wl tl ss Sj ts T' zs day:=by
 obtain⟨dx,hi⟩:=h.ins
 have kI:=k.BE h.wk.lst
 refine⟨⟨dx,kI _ _ _ _ hi⟩, ?_,wk, ?_,by rw[es];exact h.zl⟩
 . rw[es]
   exact h.st.keep (ow A) (by rw[h.st.lst];exact k _ _ h.st.lst S.sw) kI
 rw[et]
 refine⟨by rw[<-h.tp.lst];rw[h.tp.lst];exact k _ _ h.tp.lst (abp S.wt),h.tp.len,fun i p hp=> ?_⟩
 obtain⟨a,h1,h2⟩:=h.tp.at_ i p hp
 exact⟨a,h1,h2.uU h.wk.lst k fun cl cs hc=>su hc (uX (ok.tp p (abW hp))) h.wk fun a x y=>AD a x y⟩
section
variable{P:Program}{w:World}{K:PySem.W.Frag}{mg:Str->Option Value}{base:Heap}{A:Ad}
def BI(A:Ad):Sp:=fun vs H Q _=>∃(t sl wl tl:Addr)(ss ws ts:List Addr)(T:Sg45.Table)(zs:List Nat)(day c z zn:Nat),vs=[.ref t, .int (c:Nat), .int (z:Nat), .int (zn:Nat)]/\iZ A H t sl wl tl ss ws ts T zs day/\AB sl wl tl ts/\dQ T day/\
 (zn<=z->Q (.int (-2)) H)/\(z<zn->10<=T.stops.length->Q (.int (-5)) H)/\(z<zn->T.stops.length<10->120<c->Q (.int (-2)) H)/\(z<zn->T.stops.length<10->c<=120->∀(H':Hp)(a:Addr),gu H H' sl->iZ A H' t sl wl tl (ss++[a]) ws ts {T with stops:=T.stops++[c]} (zs++[z]) day->Q (.int (T.stops.length:Nat)) H')
abbrev gH:Stmt:=inClass (top 19) 1
theorem qr:aB ["self","change","zone","zones"] ["self","change","zone","zones"] (ao gH):=sm
theorem qt{f:Addr}{fd:FuncData}(F:eH K "add_stop" "Timetable.add_stop" gH f fd)(T:Txt K mg A)(FR:eG P w K mg base 1 "Stop" A.Stop ["self","change","zone"] (uD A.Stop ["change","zone"])):bq P w K mg base eD 3 f fd ["self","change","zone","zones"] (BI A):=by
 refine F.ok qr (fun vs H Q E h=> ?_) (fun dz Ar outer s H vs Q E hr h=> ?_)
 . obtain⟨_,_,_,_,_,_,_,_,_,_,_,_,_,rfl,_⟩:=h
   rfl
 obtain⟨t,sl,wl,tl,ss,ws,ts,Tb,zs,day,c,z,zn,rfl,hT,S,ok,k1,k2,k3,k4⟩:=h
 obtain⟨dt,hi⟩:=hT.ins
 have Ac:(ss.map V.ref).length=Tb.stops.length:=by rw[hT.st.cz,kj hT.zl]
 refine⟨_,(ae (bg (ay iR (pv 2) (pv 3) nk) (ah (aA (cJ bS aj))) aF)
  (ae (bg (ay iR (aP aD (by rfl) T.dF ada (aa (ai (pv 0) rfl) ag)) (bj rfl T.lI) nk) (ah (aA (cJ bS aj))) aF)
  (ae (bg (ay jF (pv 1) (bj rfl T.j9) nk) (ah (aA (cJ bS aj))) aF)
  (ae (cF (k0 ac0 ac1 ac2 fu (ai (pv 0) rfl) (aa (cv FR hr rfl (aa (pv 1) (aa (pv 2) ag))) ag)))
  (ah (aA (bA qG (aP aD (by rfl) T.dF ada (aa (ai (pv 0) rfl) ag)) aj))))))), ?_⟩
 refine⟨_,U,_,U,_,_,U,U,_,U, ?_⟩
 refine aK (fun q=> ?_) (fun q=> ?_)
 . have q:(zn:Int)<=(z:Int):=of_decide_eq_true q
   exact⟨_,U,k1 (by lia)⟩
 have q1:z<zn:=by
  apply acp
  intro e
  exact q (decide_eq_true (show(zn:Int)<=(z:Int) by lia))
 refine⟨_,U,_,_,_,_,_,U,hi,T.az,T.aS,U,_,_,U, .inl (aW.of hT.st.lst),_,_,U,U,_,U, ?_⟩
 refine aK (fun q=> ?_) (fun q=> ?_)
 . have q:(10:Int)<=(((ss.map V.ref).length:Nat):Int):=of_decide_eq_true q
   rw[Ac]at q
   exact⟨_,U,k2 q1 (by lia)⟩
 have q2:Tb.stops.length<10:=by
  apply acp
  intro e
  apply q
  show decide ((10:Int)<=(((ss.map V.ref).length:Nat):Int))=true
  rw[Ac]
  exact decide_eq_true (by lia)
 refine⟨_,U,_,_,U,U,_,U, ?_⟩
 refine aK (fun q=> ?_) (fun q=> ?_)
 . have q:(120:Int)<(c:Int):=of_decide_eq_true q
   exact⟨_,U,k3 q1 q2 (by lia)⟩
 have q3:c<=120:=by
  apply acp
  intro e
  exact q (decide_eq_true (show(120:Int)<(c:Int) by lia))
 refine⟨_,U,_,_,_,_,_,U,hi,T.az,T.aS,U, .inl ⟨U,_,aW.of hT.st.lst⟩,_,U,_,U, ?_⟩
 intro x dx hx hd ir
 refine⟨x,dx,_,U,U,af,U, ?_⟩
 rw[aL]
 have s1:=dE (C:=A.Stop) (fs:=[("change", .int (c:Nat)),("zone", .int (z:Nat))]) hx hd
 have yl:=s1 _ _ hT.st.lst
 refine⟨sl,_,_,U,U,yl, ?_, ?_⟩
 . rw[Ac]
   exact Nat.lt_trans q2 (by decide)
 have R:Rep (y9 A) (upd (mk H x dx A.Stop [("change", .int (c:Nat)),("zone", .int (z:Nat))]) sl (.lst (ss.map V.ref++[V.ref x]))) sl (ss++[x]) ((Tb.stops++[c]).zip (zs++[z])):=by
  rw[List.zip_append (by exact hT.zl.symm)]
  exact hT.st.push (ow A) (c8 s1) (by rw[hT.st.lst];exact yl) ⟨dx,k9⟩
 have kk:gu H (upd (mk H x dx A.Stop [("change", .int (c:Nat)),("zone", .int (z:Nat))]) sl (.lst (ss.map V.ref++[V.ref x]))) sl:=fun b o e hb=>by
  rw[au hb]
  exact s1 _ _ e
 have N:=hT.Wu S ok kk (T':={Tb with stops:=Tb.stops++[c]}) (zs':=zs++[z]) rfl rfl R (by simp[hT.zl])
 obtain⟨dn,GQ⟩:=N.ins
 refine⟨_,U,_,_,_,_,_,U,GQ,T.az,T.aS,U,_,_,U, .inl (aW.of N.st.lst),_,_,U,U, ?_⟩
 have e:((((ss++[x]).map V.ref).length:Nat):Int)-1=(Tb.stops.length:Int):=by
  rw[abI,abX,ab1,<-abI (as:=ss) (f:=V.ref),Ac]
  exact sub_one
 show Q (.int (((((ss++[x]).map V.ref).length:Nat):Int)-1)) _
 rw[e]
 exact k4 q1 q2 q3 _ x kk N
def BJ(A:Ad):Sp:=fun vs H Q _=>∃(t sl wl tl:Addr)(ss ws ts:List Addr)(T:Sg45.Table)(zs:List Nat)(day a b n:Nat),vs=[.ref t, .int (a:Nat), .int (b:Nat), .int (n:Nat)]/\iZ A H t sl wl tl ss ws ts T zs day/\AB sl wl tl ts/\dQ T day/\
 (12<=T.walks.length->Q (.int (-5)) H)/\(T.walks.length<12->(T.stops.length<=a\/T.stops.length<=b\/240<n)->Q (.int (-2)) H)/\(T.walks.length<12->a<T.stops.length->b<T.stops.length->n<=240->∀(H':Hp)(x:Addr),gu H H' wl->iZ A H' t sl wl tl ss (ws++[x]) ts {T with walks:=T.walks++[⟨a,b,n⟩]} zs day->Q (.int (T.walks.length:Nat)) H')
abbrev gI:Stmt:=inClass (top 19) 4
theorem qu:aB ["self","start","end","minutes"] ["self","start","end","minutes"] (ao gI):=sm
theorem qv{f:Addr}{fd:FuncData}(F:eH K "add_walk" "Timetable.add_walk" gI f fd)(T:Txt K mg A)(FT:eG P w K mg base 1 "Walk" A.Walk ["self","start","end","minutes"] (uD A.Walk ["start","end","minutes"])):bq P w K mg base eD 3 f fd ["self","start","end","minutes"] (BJ A):=by
 refine F.ok qu (fun vs H Q E h=> ?_) (fun dz Ar outer s H vs Q E hr h=> ?_)
 . obtain⟨_,_,_,_,_,_,_,_,_,_,_,_,_,rfl,_⟩:=h
   rfl
 obtain⟨t,sl,wl,tl,ss,ws,ts,Tb,zs,day,a,b,n,rfl,hT,S,ok,k1,k2,k3⟩:=h
 obtain⟨dt,hi⟩:=hT.ins
 have Ac:(ss.map V.ref).length=Tb.stops.length:=by rw[hT.st.cz,kj hT.zl]
 refine⟨_,(ae (bg (ay iR (aP aD (by rfl) T.dF ada (aa (ai (pv 0) rfl) ag)) (bj rfl T.lK) nk) (ah (aA (cJ bS aj))) aF)
  (ae (bg (PW.pt (gn (ay iR (pv 1) (aP aD (by rfl) T.dF ada (aa (ai (pv 0) rfl) ag)) nk) (gn (ay iR (pv 2) (aP aD (by rfl) T.dF ada (aa (ai (pv 0) rfl) ag)) nk) (gw (ay jF (pv 3) (bj rfl T.fi) nk))))) (ah (aA (cJ bS aj))) aF)
  (ae (cF (k0 ac0 ac1 ac2 fu (ai (pv 0) rfl) (aa (cv FT hr rfl (aa (pv 1) (aa (pv 2) (aa (pv 3) ag)))) ag)))
  (ah (aA (bA qG (aP aD (by rfl) T.dF ada (aa (ai (pv 0) rfl) ag)) aj)))))), ?_⟩
 refine⟨_,U,_,_,_,_,_,U,hi,T.az,T.cg,U,_,_,U, .inl (aW.of hT.wk.lst),_,_,U,U,_,U, ?_⟩
 refine aK (fun q=> ?_) (fun q=> ?_)
 . have q:(12:Int)<=(((ws.map V.ref).length:Nat):Int):=of_decide_eq_true q
   rw[hT.wk.cz]at q
   exact⟨_,U,k1 (by lia)⟩
 have q1:Tb.walks.length<12:=by
  apply acp
  intro e
  apply q
  show decide ((12:Int)<=(((ws.map V.ref).length:Nat):Int))=true
  rw[hT.wk.cz]
  exact decide_eq_true (by lia)
 refine⟨_,U,_,U,_,_,_,_,_,U,hi,T.az,T.aS,U,_,_,U, .inl (aW.of hT.st.lst),_,_,U,U,_,U, ?_⟩
 refine aK (fun q=> ?_) (fun q=> ?_)
 . have q:(((ss.map V.ref).length:Nat):Int)<=(a:Int):=of_decide_eq_true q
   rw[Ac]at q
   refine aK (fun _=> ?_) (fun z=>(z rfl).elim)
   exact⟨_,U,k2 q1 (.inl (by lia))⟩
 have q2:a<Tb.stops.length:=by
  apply acp
  intro e
  apply q
  show decide ((((ss.map V.ref).length:Nat):Int)<=(a:Int))=true
  rw[Ac]
  exact decide_eq_true (by lia)
 refine⟨_,U,_,U,_,_,_,_,_,U,hi,T.az,T.aS,U,_,_,U, .inl (aW.of hT.st.lst),_,_,U,U,_,U, ?_⟩
 refine aK (fun q=> ?_) (fun q=> ?_)
 . have q:(((ss.map V.ref).length:Nat):Int)<=(b:Int):=of_decide_eq_true q
   rw[Ac]at q
   refine aK (fun _=> ?_) (fun z=>(z rfl).elim)
   exact⟨_,U,k2 q1 (.inr (.inl (by lia)))⟩
 have q3:b<Tb.stops.length:=by
  apply acp
  intro e
  apply q
  show decide ((((ss.map V.ref).length:Nat):Int)<=(b:Int))=true
  rw[Ac]
  exact decide_eq_true (by lia)
 refine⟨_,U,_,_,U,U,_,U, ?_⟩
 refine aK (fun q=> ?_) (fun q=> ?_)
 . have q:(240:Int)<(n:Int):=of_decide_eq_true q
   exact⟨_,U,k2 q1 (.inr (.inr (by lia)))⟩
 have q4:n<=240:=by
  apply acp
  intro e
  exact q (decide_eq_true (show(240:Int)<(n:Int) by lia))
 refine⟨_,U,_,_,_,_,_,U,hi,T.az,T.cg,U, .inl ⟨U,_,aW.of hT.wk.lst⟩,_,U,_,U,_,U, ?_⟩
 intro x dx hx hd ir
 refine⟨x,dx,_,U,U,af,U, ?_⟩
 rw[aL]
 have s1:=dE (C:=A.Walk) (fs:=[("start", .int (a:Nat)),("end", .int (b:Nat)),("minutes", .int (n:Nat))]) hx hd
 have yl:=s1 _ _ hT.wk.lst
 refine⟨wl,_,_,U,U,yl, ?_, ?_⟩
 . rw[hT.wk.cz]
   exact Nat.lt_trans q1 (by decide)
 have R:Rep (WalkAt A) (upd (mk H x dx A.Walk [("start", .int (a:Nat)),("end", .int (b:Nat)),("minutes", .int (n:Nat))]) wl (.lst (ws.map V.ref++[V.ref x]))) wl (ws++[x]) (Tb.walks++[⟨a,b,n⟩]):=hT.wk.push (ox A) (c8 s1) (by rw[hT.wk.lst];exact yl) ⟨dx,k9⟩
 have kk:gu H (upd (mk H x dx A.Walk [("start", .int (a:Nat)),("end", .int (b:Nat)),("minutes", .int (n:Nat))]) wl (.lst (ws.map V.ref++[V.ref x]))) wl:=fun b o e hb=>by
  rw[au hb]
  exact s1 _ _ e
 have N:=hT.Wx S ok kk (T':={Tb with walks:=Tb.walks++[⟨a,b,n⟩]}) rfl rfl R
 obtain⟨dn,GQ⟩:=N.ins
 refine⟨_,U,_,_,_,_,_,U,GQ,T.az,T.cg,U,_,_,U, .inl (aW.of N.wk.lst),_,_,U,U, ?_⟩
 have e:((((ws++[x]).map V.ref).length:Nat):Int)-1=(Tb.walks.length:Int):=by
  rw[abI,abX,ab1,<-abI (as:=ws) (f:=V.ref),hT.wk.cz]
  exact sub_one
 show Q (.int (((((ws++[x]).map V.ref).length:Nat):Int)-1)) _
 rw[e]
 exact k3 q1 q2 q3 q4 _ x kk N
end
noncomputable def iD(d:Nat)(calls:List Sg45.At):Sg45.Trip:=⟨d,calls,List.replicate 7 (0,0)⟩
theorem uY{d day:Nat}{calls:List Sg45.At}:lc (iD d calls) day=0/\lm (iD d calls) day=0:=by
 have:(iD d calls).late.getD day (0,0)=(0,0):=by
  unfold iD
  rw[acd]
  cases e:(List.replicate 7 ((0,0):Nat×Nat))[day]?with
  |none=>rfl
  |some l=>exact List.eq_of_mem_replicate (abW e)
 unfold lc lm
 rw[this]
 exact⟨U,U⟩
theorem uZ{a b:Nat}(q:¬decide ((b:Int)<=(a:Int))=true):a<b:=by
 apply acp
 intro e
 exact q (decide_eq_true (by lia))
theorem lp{a b:Nat}(q:¬decide ((b:Int)<(a:Int))=true):a<=b:=by
 apply acp
 intro e
 exact q (decide_eq_true (by lia))
noncomputable def gJ(day c m:Nat)(x:Sg45.Trip):Sg45.Trip:={x with late:=x.late.set day (c,m)}
def tZ(T:Sg45.Table)(day n c m:Nat):Sg45.Table:={T with trips:=T.trips.mapIdx fun k x=>if k=n then gJ day c m x else x}
theorem xh{ns day c m:Nat}{p:Sg45.Trip}(ok:kO ns day p)(hd:day<=6):lc (gJ day c m p) day=c/\lm (gJ day c m p) day=m:=by
 have:(gJ day c m p).late.getD day (0,0)=(c,m):=by
  unfold gJ
  rw[oh,if_pos ⟨rfl,by rw[ok.ll];lia⟩]
 unfold lc lm
 rw[this]
 exact⟨U,U⟩
section
variable{P:Program}{w:World}{K:PySem.W.Frag}{mg:Str->Option Value}{base:Heap}{A:Ad}
def BK(A:Ad):Sp:=fun vs H Q _=>∃(t sl wl tl cl:Addr)(ss ws ts cs:List Addr)(T:Sg45.Table)(zs:List Nat)(day d:Nat)(calls:List Sg45.At),vs=[.ref t, .int (d:Nat), .ref cl]/\iZ A H t sl wl tl ss ws ts T zs day/\AB sl wl tl ts/\dQ T day/\Rep (gE A) H cl cs calls/\
 (12<=T.trips.length->Q (.int (-5)) H)/\(T.trips.length<12->(d<1\/127<d)->Q (.int (-2)) H)/\(T.trips.length<12->1<=d->d<=127->(calls.length<2\/64<calls.length)->Q (.int (-2)) H)/\(T.trips.length<12->1<=d->d<=127->2<=calls.length->calls.length<=64->Sg45.callsOk T calls=false->Q (.int (-4)) H)/\
 (T.trips.length<12->1<=d->d<=127->2<=calls.length->calls.length<=64->Sg45.callsOk T calls=true->∀(H':Hp)(x:Addr),gu H H' tl->(ts++[x]).Nodup->iZ A H' t sl wl tl ss ws (ts++[x]) {T with trips:=T.trips++[iD d calls]} zs day->Q (.int (T.trips.length:Nat)) H')
abbrev gK:Stmt:=inClass (top 19) 2
theorem qw:aB ["self","days","calls"] ["self","days","calls"] (ao gK):=sm
theorem qx{f:Addr}{fd:FuncData}(F:eH K "add_trip" "Timetable.add_trip" gK f fd)(T:Txt K mg A)(FU:eG P w K mg base 1 "Trip" A.Trip ["self","days","calls"] (zj A))(dh:MethAt P w K mg base 1 A.aJ "are_calls_in_order" ["self","calls"] (BH A)):bq P w K mg base eD 3 f fd ["self","days","calls"] (BK A):=by
 refine F.ok qw (fun vs H Q E h=> ?_) (fun dz Ar outer s H vs Q E hr h=> ?_)
 . obtain⟨_,_,_,_,_,_,_,_,_,_,_,_,_,_,rfl,_⟩:=h
   rfl
 obtain⟨t,sl,wl,tl,cl,ss,ws,ts,cs,Tb,zs,day,d,calls,rfl,hT,S,ok,kP,k1,k2,k3,k4,k5⟩:=h
 obtain⟨dt,hi⟩:=hT.ins
 refine⟨_,(ae (bg (ay iR (aP aD (by rfl) T.dF ada (aa (ai (pv 0) rfl) ag)) (bj rfl T.lL) nk) (ah (aA (cJ bS aj))) aF)
  (ae (bg (PW.pt (gn (ay lV (pv 1) aj nk) (gw (ay jF (pv 1) (bj rfl T.mT) nk)))) (ah (aA (cJ bS aj))) aF)
  (ae (bg (PW.pt (gn (ay lV (aP aD (by rfl) T.dF ada (aa (pv 2) ag)) (bj rfl T.i9) nk) (gw (ay jF (aP aD (by rfl) T.dF ada (aa (pv 2) ag)) (bj rfl T.lM) nk)))) (ah (aA (cJ bS aj))) aF)
  (ae (bg (sY (lU (bB (pv 0) dh hr (aa (pv 2) ag)))) (ah (aA (cJ bS aj))) aF)
  (ae (cF (k0 ac0 ac1 ac2 fu (ai (pv 0) rfl) (aa (cv FU hr rfl (aa (pv 1) (aa (pv 2) ag))) ag)))
  (ah (aA (bA qG (aP aD (by rfl) T.dF ada (aa (ai (pv 0) rfl) ag)) aj)))))))), ?_⟩
 refine⟨_,U,_,_,_,_,_,U,hi,T.az,T.ck,U,_,_,U, .inl (aW.of hT.tp.lst),_,_,U,U,_,U, ?_⟩
 rw[hT.tp.cz]
 refine aK (fun q=> ?_) (fun q=> ?_)
 . have q:(12:Int)<=(Tb.trips.length:Int):=of_decide_eq_true q
   exact⟨_,U,k1 (by lia)⟩
 have q1:Tb.trips.length<12:=uZ (b:=12) q
 refine⟨_,U,_,_,U,U,_,U, ?_⟩
 refine aK (fun q=> ?_) (fun q=> ?_)
 . have q:(d:Int)<1:=of_decide_eq_true q
   refine aK (fun _=> ?_) (fun z=>(z rfl).elim)
   exact⟨_,U,k2 q1 (.inl (by lia))⟩
 have q2:1<=d:=lp (a:=1) (b:=d) q
 refine⟨_,U,_,_,U,U,_,U, ?_⟩
 refine aK (fun q=> ?_) (fun q=> ?_)
 . have q:(127:Int)<(d:Int):=of_decide_eq_true q
   exact⟨_,U,k2 q1 (.inr (by lia))⟩
 have q3:d<=127:=lp (a:=d) (b:=127) q
 refine⟨_,U,_,_,U, .inl (aW.of kP.lst),_,_,U,U,_,U, ?_⟩
 rw[kP.cz]
 refine aK (fun q=> ?_) (fun q=> ?_)
 . have q:(calls.length:Int)<2:=of_decide_eq_true q
   refine aK (fun _=> ?_) (fun z=>(z rfl).elim)
   exact⟨_,U,k3 q1 q2 q3 (.inl (by lia))⟩
 have q4:2<=calls.length:=lp (a:=2) q
 refine⟨_,U,_,_,U, .inl (aW.of kP.lst),_,_,U,U,_,U, ?_⟩
 rw[kP.cz]
 refine aK (fun q=> ?_) (fun q=> ?_)
 . have q:(64:Int)<(calls.length:Int):=of_decide_eq_true q
   exact⟨_,U,k3 q1 q2 q3 (.inr (by lia))⟩
 have q5:calls.length<=64:=lp (b:=64) q
 refine⟨_,U,t,dt,_,U,hi,U,_,U,t,cl,cs,Tb,zs,day,calls,U,⟨sl,wl,tl,ss,ws,ts,hT⟩,kP,_,U, ?_⟩
 cases X9:Sg45.callsOk Tb calls with
 |false=>exact⟨_,rfl,k4 q1 q2 q3 q4 q5 X9⟩
 |true=>
  refine⟨_,U,_,_,_,_,_,U,hi,T.az,T.ck,U, .inl ⟨U,_,aW.of hT.tp.lst⟩,_,U,_,U, ?_⟩
  intro x dx hx hd ir
  refine⟨x,dx,_,_,U,af,U, ?_⟩
  rw[aL]
  have s1:=dE (C:=A.Trip) (fs:=[("days", .int (d:Nat)),("calls", .ref cl),("late_call", .int 0),("late_minutes", .int 0)]) hx hd
  have yl:=s1 _ _ hT.tp.lst
  refine⟨tl,_,_,U,U,yl, ?_, ?_⟩
  . rw[hT.tp.cz]
    exact Nat.lt_trans q1 (by decide)
  have kk:gu H (upd (mk H x dx A.Trip [("days", .int (d:Nat)),("calls", .ref cl),("late_call", .int 0),("late_minutes", .int 0)]) tl (.lst (ts.map V.ref++[V.ref x]))) tl:=fun b o e hb=>by
   rw[au hb]
   exact s1 _ _ e
  have kI:=kk.BE hT.tp.lst
  have nc:calls≠[]:=fun q=>by rw[q]at q4;simp at q4
  have Wy:cl≠tl:=su kP nc hT.tp fun a x y=>sP a x y
  have R:Rep (jh A day) (upd (mk H x dx A.Trip [("days", .int (d:Nat)),("calls", .ref cl),("late_call", .int 0),("late_minutes", .int 0)]) tl (.lst (ts.map V.ref++[V.ref x]))) tl (ts++[x]) (Tb.trips++[iD d calls]):=by
   refine⟨by rw[af,acX];rfl,by simp[hT.tp.len],fun i p hp=> ?_⟩
   by_cases ci:i<Tb.trips.length
   . rw[abU ci]at hp
     obtain⟨b,e1,e2⟩:=hT.tp.at_ i p hp
     refine⟨b,by rw[abU (by rw[hT.tp.len];exact ci)];exact e1, ?_⟩
     exact e2.uU hT.tp.lst kk fun UA UB hc=>su hc (uX (ok.tp p (abW hp))) hT.tp fun a x y=>sP a x y
   have di:=(abt.mp hp).1
   rw[abX,ab1]at di
   have e:i=Tb.trips.length:=by lia
   subst e
   rw[abT (abB _),acY]at hp
   have hp:iD d calls=p:=Option.some.inj hp
   subst hp
   refine⟨x, ?_,⟨dx,cl,cs, ?_, ?_⟩⟩
   . rw[<-hT.tp.len,abT (abB _),acY]
     rfl
   . rw[uY.1,uY.2,au (abp (aw hT.tp.lst hx))]
     exact k9
   refine kP.keep (lS A) ?_ kI
   rw[kP.lst]
   exact kk _ _ kP.lst Wy
  have N:iZ A (upd (mk H x dx A.Trip [("days", .int (d:Nat)),("calls", .ref cl),("late_call", .int 0),("late_minutes", .int 0)]) tl (.lst (ts.map V.ref++[V.ref x]))) t sl wl tl ss ws (ts++[x]) {Tb with trips:=Tb.trips++[iD d calls]} zs day:=by
   refine⟨⟨dt,kI _ _ _ _ hi⟩, ?_, ?_,R,hT.zl⟩
   . exact hT.st.keep (ow A) (by rw[hT.st.lst];exact kk _ _ hT.st.lst S.st) kI
   exact hT.wk.keep (ox A) (by rw[hT.wk.lst];exact kk _ _ hT.wk.lst S.wt) kI
  have nd:(ts++[x]).Nodup:=by
   refine List.nodup_append.mpr ⟨S.nd,by simp,fun a ha b hb=> ?_⟩
   simp only[acT]at hb
   subst hb
   intro q
   subst q
   obtain⟨i,QL⟩:=acv.mp ha
   have di:=(abt.mp QL).1
   rw[hT.tp.len]at di
   obtain⟨b',C7,EY⟩:=hT.tp.at_ i _ (acf di)
   rw[QL]at C7
   cases C7
   obtain⟨_,_,_,g1,_⟩:=EY.ex
   rw[g1]at hx
   cases hx
  refine⟨_,U,_,_,_,_,_,U,kI _ _ _ _ hi,T.az,T.ck,U,_,_,U, .inl (aW.of N.tp.lst),_,_,U,U, ?_⟩
  have e:((((ts++[x]).map V.ref).length:Nat):Int)-1=(Tb.trips.length:Int):=by
   rw[abI,abX,ab1,hT.tp.len]
   exact sub_one
  show Q (.int (((((ts++[x]).map V.ref).length:Nat):Int)-1)) _
  rw[e]
  exact k5 q1 q2 q3 q4 q5 X9 _ x kk nd N
def KL(A:Ad):Sp:=fun vs H Q _=>∃(t sl wl tl:Addr)(ss ws ts:List Addr)(T:Sg45.Table)(zs:List Nat)(day n c m:Nat),vs=[.ref t, .int (n:Nat), .int (c:Nat), .int (m:Nat)]/\iZ A H t sl wl tl ss ws ts T zs day/\AB sl wl tl ts/\dQ T day/\
 ((T.trips.length<=n\/63<c\/240<m)->Q (.int (-2)) H)/\(n<T.trips.length->c<=63->m<=240->∀(H':Hp)(x:Addr),(∃p,jh A day H x p)->gu H H' x->iZ A H' t sl wl tl ss ws ts (tZ T day n c m) zs day->Q (.int 0) H')
abbrev gj:Stmt:=inClass (top 19) 5
theorem ju:aB ["self","number","call","minutes","trip"] ["self","number","call","minutes"] (ao gj):=sm
theorem pS{f:Addr}{fd:FuncData}(F:eH K "tell_late" "Timetable.tell_late" gj f fd)(T:Txt K mg A):bq P w K mg base eD 1 f fd ["self","number","call","minutes"] (KL A):=by
 refine F.ok ju (fun vs H Q E h=> ?_) (fun dz Ar outer s H vs Q E hr h=> ?_)
 . obtain⟨_,_,_,_,_,_,_,_,_,_,_,_,_,rfl,_⟩:=h
   rfl
 obtain⟨t,sl,wl,tl,ss,ws,ts,Tb,zs,day,n,c,m,rfl,hT,S,ok,k1,k2⟩:=h
 obtain⟨dt,hi⟩:=hT.ins
 refine⟨_,(ae (bg (PW.pt (gn (ay iR (pv 1) (aP aD (by rfl) T.dF ada (aa (ai (pv 0) rfl) ag)) nk) (gn (ay jF (pv 2) (bj rfl T.gT) nk) (gw (ay jF (pv 3) (bj rfl T.fj) nk))))) (ah (aA (cJ bS aj))) aF)
  (ae (aC (i:=4) ju.nd rfl oi (aM ax (ai (pv 0) rfl) (pv 1) (fun _ _=>rfl)))
  (ae (aU (pv 4) (pv 2) rfl)
  (ae (aU (pv 4) (pv 3) rfl)
  (ah (aA aj)))))), ?_⟩
 refine⟨_,U,_,U,_,_,_,_,_,U,hi,T.az,T.ck,U,_,_,U, .inl (aW.of hT.tp.lst),_,_,U,U,_,U, ?_⟩
 rw[hT.tp.cz]
 refine aK (fun q=> ?_) (fun q=> ?_)
 . have q:(Tb.trips.length:Int)<=(n:Int):=of_decide_eq_true q
   refine aK (fun _=> ?_) (fun z=>(z rfl).elim)
   exact⟨_,U,k1 (.inl (by lia))⟩
 have q1:n<Tb.trips.length:=uZ q
 refine⟨_,U,_,_,U,U,_,U, ?_⟩
 refine aK (fun q=> ?_) (fun q=> ?_)
 . have q:(63:Int)<(c:Int):=of_decide_eq_true q
   refine aK (fun _=> ?_) (fun z=>(z rfl).elim)
   exact⟨_,U,k1 (.inr (.inl (by lia)))⟩
 have q2:c<=63:=lp (b:=63) q
 refine⟨_,U,_,_,U,U,_,U, ?_⟩
 refine aK (fun q=> ?_) (fun q=> ?_)
 . have q:(240:Int)<(m:Int):=of_decide_eq_true q
   exact⟨_,U,k1 (.inr (.inr (by lia)))⟩
 have q3:m<=240:=lp (b:=240) q
 have hp:=acf q1
 generalize Tb.trips[n]=p at hp
 have po:=ok.tp p (abW hp)
 obtain⟨x,Wz,QK⟩:=hT.tp.at_ n p hp
 have MG:(ts.map V.ref)[n]?=some (.ref x):=by rw[abV,Wz];rfl
 obtain⟨dx,cl,cs,WA,kP⟩:=QK.ex
 refine⟨_,U,_,_,_,_,_,U,hi,T.az,T.ck,U,_,U,_,_,_,_,U,U,aW.of hT.tp.lst,c9 MG, ?_⟩
 refine⟨_,U,_,U,x,_,dx,_,U,WA,T.fo,T.fz,Ud, ?_⟩
 rw[fq (by decide+kernel),fq (by decide+kernel),jt]
 refine⟨_,U,_,U,x,_,dx,_,U,af,T.fo,T.hG,Ud, ?_⟩
 rw[fq (by decide+kernel),fq (by decide+kernel),fq (by decide+kernel),jt,aL]
 refine k2 q1 q2 q3 _ x ⟨p,QK⟩ (fun b o e hb=>by rw[au hb];exact e) ?_
 have Hg:∀(b C d2:Addr)(f:Str)(v:V)(fs:aV),f≠"days"->H b=some (.ins C d2 ((f,v)::fs))->(upd H x (.ins A.Trip dx [("days", .int (p.days:Nat)),("calls", .ref cl),("late_call", .int (c:Nat)),("late_minutes", .int (m:Nat))])) b=some (.ins C d2 ((f,v)::fs)):=fun b C d2 f v fs hf hb=>by
  rw[au (bH hb WA (by
   intro q
   injection q with _ _ q
   exact fQ hf q))]
  exact hb
 have uU:∀(b:Addr)(xs:List V),H b=some (.lst xs)->(upd H x (.ins A.Trip dx [("days", .int (p.days:Nat)),("calls", .ref cl),("late_call", .int (c:Nat)),("late_minutes", .int (m:Nat))])) b=some (.lst xs):=fun b xs hb=>by
  rw[au (bH hb WA (by intro q;cases q))]
  exact hb
 refine⟨⟨dt,Hg _ _ _ _ _ _ (by decide+kernel) hi⟩, ?_, ?_, ?_,hT.zl⟩
 . refine hT.st.mono (by rw[hT.st.lst];exact uU _ _ hT.st.lst) fun a y _ h=> ?_
   obtain⟨d2,h⟩:=h
   exact⟨d2,Hg _ _ _ _ _ _ (by decide+kernel) h⟩
 . refine hT.wk.mono (by rw[hT.wk.lst];exact uU _ _ hT.wk.lst) fun a y _ h=> ?_
   obtain⟨d2,h⟩:=h
   exact⟨d2,Hg _ _ _ _ _ _ (by decide+kernel) h⟩
 have KN:∀UA UB calls,Rep (gE A) H UA UB calls->Rep (gE A) (upd H x (.ins A.Trip dx [("days", .int (p.days:Nat)),("calls", .ref cl),("late_call", .int (c:Nat)),("late_minutes", .int (m:Nat))])) UA UB calls:=fun UA UB calls h=>by
  refine h.mono (by rw[h.lst];exact uU _ _ h.lst) fun a y _ h=> ?_
  obtain⟨d2,h⟩:=h
  exact⟨d2,Hg _ _ _ _ _ _ (by decide+kernel) h⟩
 refine⟨uU _ _ hT.tp.lst,by simp[tZ,hT.tp.len],fun i q hq=> ?_⟩
 have hq:(Tb.trips[i]?).map (fun y=>if i=n then gJ day c m y else y)=some q:=by
  have hq:(Tb.trips.mapIdx fun k x=>if k=n then gJ day c m x else x)[i]?=some q:=hq
  rw[List.getElem?_mapIdx]at hq
  exact hq
 cases e:Tb.trips[i]?with
 |none=>rw[e]at hq;cases hq
 |some y=>
  rw[e]at hq
  obtain⟨b,C7,EY⟩:=hT.tp.at_ i y e
  refine⟨b,C7, ?_⟩
  have hq:(if i=n then gJ day c m y else y)=q:=Option.some.inj hq
  by_cases ci:i=n
  . subst ci
    rw[hp]at e
    cases e
    rw[Wz]at C7
    cases C7
    rw[if_pos rfl]at hq
    subst hq
    refine⟨dx,cl,cs, ?_,KN _ _ _ kP⟩
    rw[(xh po ok.dy).1,(xh po ok.dy).2]
    exact af
  rw[if_neg ci]at hq
  subst hq
  have ir:b≠x:=fun z=>by
   subst z
   exact ci (RL S.nd C7 Wz)
  obtain⟨d2,Wv,Ww,g1,g2⟩:=EY.ex
  exact⟨d2,Wv,Ww,by rw[au ir];exact g1,KN _ _ _ g2⟩
def zk(A:Ad):Sp:=fun vs H Q _=>∃(p dx pa ll:Addr)(g:Nat)(H0:Hp),vs=[.ref p, .ref pa, .int (g:Nat), .ref ll]/\H0 p=none/\H0 dx=none/\dx≠p/\H=upd (upd H0 dx (.own p)) p (.ins A.aN dx [])/\
 ∀(H':Hp)(rl:Addr),ak H0 H'->H0 rl=none->H' rl=some (.lst [])->H' p=some (.ins A.aN dx (fL pa g ll rl))->Q .dR H'
abbrev j0:Stmt:=inClass (top 62) 0
theorem u0:aB ["self","place","goal","legs"] ["self","place","goal","legs"] (ao j0):=sm
theorem u1{f:Addr}{fd:FuncData}(F:eH K "__init__" "Traveller.__init__" j0 f fd)(T:Txt K mg A):bq P w K mg base eD 1 f fd ["self","place","goal","legs"] (zk A):=by
 refine F.ok u0 (fun vs H Q E h=> ?_) (fun dz Ar outer s H vs Q E hr h=> ?_)
 . obtain⟨_,_,_,_,_,_,rfl,_⟩:=h
   rfl
 obtain⟨p,dx,pa,ll,g,H0,rfl,FK,MH,ir,rfl,k⟩:=h
 refine⟨_,(ae (aU (pv 0) (pv 1) rfl)
  (ae (aU (pv 0) (pv 2) rfl)
  (ae (aU (pv 0) (pv 3) rfl)
  (ah (aU (pv 0) (bb ag) rfl))))), ?_⟩
 refine⟨_,U,_,U,p,_,dx,_,U,af,T.aE,T.cn,Ud, ?_⟩
 rw[aL,show bc "place" (.ref pa) ([]:aV)=([("place", .ref pa)]:aV)from rfl]
 refine⟨_,U,_,U,p,_,dx,_,U,af,T.aE,T.ou,Ud, ?_⟩
 rw[aL,show bc "goal" (.int (g:Nat)) ([("place", .ref pa)]:aV)=([("place", .ref pa),("goal", .int (g:Nat))]:aV)from aI (ns:=["place"]) rfl (by decide+kernel)]
 refine⟨_,U,_,U,p,_,dx,_,U,af,T.aE,T.bC,Ud, ?_⟩
 rw[aL,show bc "legs" (.ref ll) ([("place", .ref pa),("goal", .int (g:Nat))]:aV)=([("place", .ref pa),("goal", .int (g:Nat)),("legs", .ref ll)]:aV)from aI (ns:=["place","goal"]) rfl (by decide+kernel)]
 have s1:ak H0 (upd (upd H0 dx (.own p)) p (.ins A.aN dx [("place", .ref pa),("goal", .int (g:Nat)),("legs", .ref ll)])):=dE FK MH
 have p1:(upd (upd H0 dx (.own p)) p (.ins A.aN dx [("place", .ref pa),("goal", .int (g:Nat)),("legs", .ref ll)])) p=some (.ins A.aN dx [("place", .ref pa),("goal", .int (g:Nat)),("legs", .ref ll)]):=af
 generalize upd (upd H0 dx (.own p)) p (.ins A.aN dx [("place", .ref pa),("goal", .int (g:Nat)),("legs", .ref ll)])=H1 at s1 p1⊢
 refine⟨abE _,fun rl QM=> ?_⟩
 have n1:p≠rl:=aw p1 QM
 refine⟨_,U,p,_,dx,_,U,(by rw[au n1];exact p1),T.aE,T.dU,Ud, ?_⟩
 rw[show bc "rides_made" (.ref rl) ([("place", .ref pa),("goal", .int (g:Nat)),("legs", .ref ll)]:aV)=fL pa g ll rl from aI (ns:=["place","goal","legs"]) rfl (by decide+kernel)]
 have z1:H0 rl=none:=s1.free QM
 exact k _ rl (ak.fy (ak.fy s1 z1) FK) z1 (by rw[au (abp n1),af]) af
theorem Pd{H:Hp}{a l:Addr}{as:List Addr}{g:Sg45.Leg}(h:ji H a g)(hl:H l=some (.lst (as.map V.ref))):a≠l:=by
 obtain⟨f,t,m,h⟩:=h
 refine bH h hl ?_
 intro q
 injection q with q
 cases g<;>cases as<;>simp[OT]at q
def Hh(A:Ad):Sp:=fun vs H Q _=>∃(v t dv pa ll rl a0:Addr)(la ra:List Addr)(T:Sg45.Table)(zs:List Nat)(day g:Nat)(x:Sg45.Place)(l:Sg45.Leg)(legs:List Sg45.Leg)(R:List R3),vs=[.ref v, .ref t]/\TabAt A H t T zs day/\dQ T day/\H v=some (.ins A.aN dv (fL pa g ll rl))/\cY A H pa x/\x.halt_<T.stops.length/\Rep ji H ll (a0::la) (l::legs)/\Fits T day x.halt_ x.way (l::legs)/\Rep (iJ A) H rl ra R/\ll≠rl/\(∀z∈zs,z<=8)/\R.length<=100000/\legs.length<=100000/\
 (Sg45.go T day x l=none->∀H',ak H H'->Q (.bl false) H')/\
 (∀y,Sg45.go T day x l=some y->∀(H':Hp)(pb lb:Addr)(WB:List Addr),g8 H H' v rl->H lb=none->H' v=some (.ins A.aN dv (fL pb g lb rl))->cY A H' pb y->Rep ji H' lb la legs->Rep (iJ A) H' rl WB (R++dW T zs day l)->Q (.bl true) H')
abbrev iN:Stmt:=inClass (top 62) 1
theorem lq:aB ["self","timetable","place"] ["self","timetable"] (ao iN):=sm
theorem sE{f:Addr}{fd:FuncData}(F:eH K "go_leg" "Traveller.go_leg" iN f fd)(T:Txt K mg A)(du:FnAt P w K mg base 4 "place_after" ["timetable","place","leg"] (gY A))(iU:FnAt P w K mg base 5 "rides_now" ["timetable","legs"] (tX A)):bq P w K mg base eD 6 f fd ["self","timetable"] (Hh A):=by
 refine F.ok lq (fun vs H Q E h=> ?_) (fun dz Ar outer s H vs Q E hr h=> ?_)
 . obtain⟨_,_,_,_,_,_,_,_,_,_,_,_,_,_,_,_,_,rfl,_⟩:=h
   rfl
 obtain⟨v,t,dv,pa,ll,rl,a0,la,ra,Tb,zs,day,g,x,l,legs,R,rfl,lT,ok,hv,sH,hx,hL,oz,hR,ir,He,ZL,Jr,k1,k2⟩:=h
 have Uy:Fits Tb day x.halt_ x.way [l]:=vS (pre:=[]) (rest:=legs) (x:=x) oz rfl
 have NK:ji H a0 l:=by
  obtain⟨b,h1,h2⟩:=hL.at_ 0 l rfl
  cases h1
  exact h2
 refine⟨_,(ae (aC (i:=2) lq.nd rfl oi (aO du hr rfl (aa (pv 1) (aa (ai (pv 0) rfl) (aa (aM ax (ai (pv 0) rfl) aj (fun _ _=>rfl)) ag)))))
  (ae (bg (ay hE (pv 2) cI nk) (ah (aA p0)) aF)
  (ae (cF (k0 ac0 adf adg n9 (ai (pv 0) rfl) (aa (aO iU hr rfl (aa (pv 1) (aa (lX oO (ai (pv 0) rfl) xX (j8 aj)) ag))) ag)))
  (ae (aU (pv 0) (pv 2) rfl)
  (ae (aU (pv 0) (lX oO (ai (pv 0) rfl) (j8 aj) xX) rfl)
  (ah (aA p0))))))), ?_⟩
 refine⟨_,U,_,U,_,_,_,_,_,U,hv,T.aE,T.cn,U,_,U,_,_,_,_,_,U,hv,T.aE,T.bC,U,_,_,_,_,U,U,aW.of hL.lst,c9 (n:=0) (v:= .ref a0) rfl,t,pa,a0,Tb,zs,day,x,l,U,lT,ok,sH,hx,NK,Uy,fun lG H1 s1=> ?_,fun y lG H1 pb s1 ZM NH=> ?_⟩
 . refine⟨_,U,U,_,U, ?_⟩
   refine aK (fun _=> ?_) (fun q=>(q (by decide)).elim)
   exact k1 lG H1 s1
 refine⟨_,U,U,_,U, ?_⟩
 refine aK (fun q=>absurd (of_decide_eq_true q) (by intro z;cases z)) (fun _=> ?_)
 refine⟨_,U,_,_,_,_,_,U,s1 _ _ hv,T.aE,T.dU,U, .inl ⟨U,_,aW.of (s1 _ _ hR.lst)⟩,_,U,_,U,_,_,_,_,_,U,s1 _ _ hv,T.aE,T.bC,U,_,U,ll,_,U,aW.of (s1 _ _ hL.lst),fun S hS=> ?_⟩
 have MP:lB ((a0::la).map V.ref) none (some 1)=[V.ref a0]:=by
  unfold lB
  rw[show(1:Int)=((1:Nat):Int)from rfl,uT]
  simp[HT.Bd]
 rw[MP]
 have s2:=ak.upd (o:= .lst [.ref a0]) hS
 have ZN:Rep ji (upd H1 S (.lst [.ref a0])) S [a0] [l]:=by
  refine⟨af,U,fun i y' hy=> ?_⟩
  have:i=0:=by
   have:=(abt.mp hy).1
   simpa using this
  subst this
  cases hy
  exact⟨a0,U,NK.same (s1.trans s2)⟩
 refine⟨t,S,[a0],Tb,zs,day,[l],U,lT.same (s1.trans s2),ok,ZN,pN Uy,He,(by show 1<=100000;decide),fun H3 rb KO s3 X8 Sk=> ?_⟩
 have BL:=(s1.trans s2).trans s3
 have ef:List.flatMap (dW Tb zs day) [l]=dW Tb zs day l:=by simp
 rw[ef]at Sk
 refine⟨rl,rb,_,_,U,U,BL _ _ hR.lst,Sk.lst, ?_, ?_⟩
 . rw[hR.cz,Sk.cz]
   have:=mr (T:=Tb) (zs:=zs) (day:=day) (l:=[l])
   rw[ef]at this
   exact abk (show R.length+(dW Tb zs day l).length<=100001 by simp at this;lia) (by decide)
 have MQ:=BL _ _ hR.lst
 have k4:g8 H (upd H3 rl (.lst (ra.map V.ref++KO.map V.ref))) v rl:=fun b o e _ h2=>by
  rw[au h2]
  exact BL _ _ e
 have Pe:(upd H3 rl (.lst (ra.map V.ref++KO.map V.ref))) v=some (.ins A.aN dv (fL pa g ll rl)):=by
  rw[au (bH (BL _ _ hv) MQ (by intro q;cases q))]
  exact BL _ _ hv
 have Sl:cY A (upd H3 rl (.lst (ra.map V.ref++KO.map V.ref))) pb y:=iK A _ _ _ _ ((c8 (s2.trans s3)).trans (fD MQ)) NH
 have Pf:(upd H3 rl (.lst (ra.map V.ref++KO.map V.ref))) ll=some (.lst ((a0::la).map V.ref)):=by
  rw[au ir]
  exact BL _ _ hL.lst
 have Sm:∀b q,ji H b q->ji (upd H3 rl (.lst (ra.map V.ref++KO.map V.ref))) b q:=fun b q hb=>by
  have ZO:=Pd hb hR.lst
  obtain⟨f0,t0,m0,hb⟩:=hb
  exact⟨f0,t0,m0,by rw[au ZO];exact BL _ _ hb⟩
 have ML:Rep (iJ A) (upd H3 rl (.lst (ra.map V.ref++KO.map V.ref))) rl (ra++KO) (R++dW Tb zs day l):=by
  refine⟨by rw[af,acX],by simp[hR.len,Sk.len],fun i y' hy=> ?_⟩
  by_cases ci:i<R.length
  . rw[abU ci]at hy
    obtain⟨e,e1,e2⟩:=hR.at_ i y' hy
    exact⟨e,by rw[abU (by rw[hR.len];exact ci)];exact e1,gX A _ _ _ _ ((c8 BL).trans (fD MQ)) e2⟩
  rw[abT (by lia)]at hy
  obtain⟨e,e1,e2⟩:=Sk.at_ _ y' hy
  exact⟨e,by rw[abT (by rw[hR.len];lia),hR.len];exact e1,gX A _ _ _ _ (fD MQ) e2⟩
 have Pg:(upd H3 rl (.lst (ra.map V.ref++KO.map V.ref))) rl=some (.lst (ra.map V.ref++KO.map V.ref)):=af
 generalize upd H3 rl (.lst (ra.map V.ref++KO.map V.ref))=H4 at k4 Pe Sl Pf Sm ML Pg⊢
 refine⟨_,U,_,U,v,_,dv,_,U,Pe,T.aE,T.cn,Ud, ?_⟩
 rw[show bc "place" (.ref pb) (fL pa g ll rl)=fL pb g ll rl from jt]
 have vr:v≠rl:=bH Pe Pg (by intro q;cases q)
 have vl:v≠ll:=bH Pe Pf (by intro q;cases q)
 have WC:(upd H4 v (.ins A.aN dv (fL pb g ll rl))) ll=some (.lst ((a0::la).map V.ref)):=by rw[au (abp vl)];exact Pf
 refine⟨_,U,_,_,_,_,_,U,af,T.aE,T.bC,U,_,U,ll,_,U,aW.of WC,fun lb Ph=> ?_⟩
 have Sn:lB ((a0::la).map V.ref) (some 1) none=la.map V.ref:=by
  unfold lB
  rw[show(1:Int)=((1:Nat):Int)from rfl,uT]
  simp only[HT.Bd,abH,abG,abI]
  rw[show min 1 (la.length+1)=1 by lia,List.drop_one,List.tail_cons,ac4 (by simp)]
 rw[Sn]
 have UC:v≠lb:=aw (H:=upd H4 v (.ins A.aN dv (fL pb g ll rl))) af Ph
 have KP:H4 lb=none:=by
  rw[au (abp UC)]at Ph
  exact Ph
 refine⟨_,U,v,_,dv,_,U,(by rw[au UC];exact af),T.aE,T.bC,Ud, ?_⟩
 rw[show bc "legs" (.ref lb) (fL pb g ll rl)=fL pb g lb rl from by
  unfold fL
  rw[fq (by decide+kernel),fq (by decide+kernel),jt]]
 have uh:∀b o,H4 b=some o->b≠v->(upd (upd (upd H4 v (.ins A.aN dv (fL pb g ll rl))) lb (.lst (la.map V.ref))) v (.ins A.aN dv (fL pb g lb rl))) b=some o:=fun b o e hb=>by
  rw[au hb,au (aw e KP),au hb]
  exact e
 have WD:H lb=none:=by
  cases e:H lb with
  |none=>rfl
  |some o=>
   by_cases c1:lb=rl
   . rw[c1,Pg]at KP
     cases KP
   have:=k4 lb o e (abp UC) c1
   rw[this]at KP
   cases KP
 refine k2 y lG _ pb lb (ra++KO) (fun b o e h1 h2=>uh _ _ (k4 b o e h1 h2) h1) WD af ?_ ?_ ?_
 . obtain⟨dp,hp⟩:=Sl
   refine⟨dp,uh _ _ hp ?_⟩
   refine bH hp Pe ?_
   intro q
   injection q with _ _ q
   exact fQ (by decide+kernel) q
 . refine⟨by rw[au (abp UC),af], ?_,fun i q hq=> ?_⟩
   . have:=hL.len
     simpa using this
   obtain⟨b,e1,e2⟩:=hL.at_ (i+1) q (by simpa using hq)
   refine⟨b,by simpa using e1, ?_⟩
   have e3:=Sm b q e2
   obtain⟨f0,t0,m0,e3⟩:=e3
   exact⟨f0,t0,m0,uh _ _ e3 (bH e3 Pe (by intro z;cases z))⟩
 refine ML.mono (by rw[ML.lst];exact uh _ _ ML.lst (abp vr)) fun a' r' _ h=> ?_
 obtain⟨d',h⟩:=h
 refine⟨d',uh _ _ h ?_⟩
 refine bH h Pe ?_
 intro q
 injection q with _ _ q
 exact fQ (by decide+kernel) q
end
noncomputable def Hi:Option Nat->V
 |none=> .dR
 |some h=> .int (h:Nat)
noncomputable def kU(p m n x y:Nat):Bool:=decide (p<=1000000/\1<=m/\m<=1000000/\1<=n/\n<=9/\x<y/\y<=1440)
section
variable{P:Program}{w:World}{K:PySem.W.Frag}{mg:Str->Option Value}{base:Heap}{A:Ad}
def CN:Sp:=fun vs H Q _=>∃n:Nat,vs=[.int n]/\bl n<=1000/\∀p,H p=none->Q (.int ((mem n).length:Nat)) (upd H p (.lst (b9 (mem n))))
abbrev mv:Stmt:=top 27
theorem xI:aB ["numbers"] ["numbers"] (ao mv):=sm
theorem xJ{f:Addr}{fd:FuncData}(F:eH K "member_count" "member_count" mv f fd)(T:Txt K mg A)(dH:FnAt P w K mg base 1 "members" ["numbers"] lR):bq P w K mg base eD 2 f fd ["numbers"] CN:=by
 refine F.ok xI (fun vs H Q E h=> ?_) (fun dz Ar outer s H vs Q E hr h=> ?_)
 . obtain⟨n,rfl,_⟩:=h
   rfl
 obtain⟨n,rfl,hn,k⟩:=h
 refine⟨_,(ah (aA (aP aD (by rfl) T.dF ada (aa (aO dH hr rfl (aa (pv 0) ag)) ag)))), ?_⟩
 refine⟨_,U,n,U,hn,fun p hp=>⟨_,_,U, .inl (aW.of af), ?_⟩⟩
 rw[cX]
 exact k p hp
def Hj:Sp:=fun vs H Q _=>∃p m n x y:Nat,vs=[.int p, .int m, .int n, .int x, .int y]/\Q (.bl (kU p m n x y)) H
abbrev jv:Stmt:=top 33
theorem t6:aB ["price","minutes","persons","begin","end"] ["price","minutes","persons","begin","end"] (ao jv):=sm
theorem t7{f:Addr}{fd:FuncData}(F:eH K "are_terms_right" "are_terms_right" jv f fd)(T:Txt K mg A):bq P w K mg base eD 1 f fd ["price","minutes","persons","begin","end"] Hj:=by
 refine F.ok t6 (fun vs H Q E h=> ?_) (fun dz Ar outer s H vs Q E hr h=> ?_)
 . obtain⟨_,_,_,_,_,rfl,_⟩:=h
   rfl
 obtain⟨p,m,n,x,y,rfl,k⟩:=h
 have no:¬(p<=1000000/\1<=m/\m<=1000000/\1<=n/\n<=9/\x<y/\y<=1440)->Q (.bl false) H:=fun c=>by
  unfold kU at k
  rw[decide_eq_false c]at k
  exact k
 refine⟨_,(ae (bg (PW.pt (gn (ay jF (pv 0) (bj rfl T.lN) nk) (gn (ay lV (pv 1) aj nk) (gw (ay jF (pv 1) (bj rfl T.jc) nk))))) (ah (aA p0)) aF)
  (ae (bg (PW.pt (gn (ay lV (pv 2) aj nk) (gw (ay jF (pv 2) (bj rfl T.jd) nk)))) (ah (aA p0)) aF)
  (ah (aA (Jz (oN lV (pv 3) (pv 4) nk) (Jy (oN AW (pv 4) (bj rfl T.d8) nk))))))), ?_⟩
 refine⟨_,U,_,_,U,U,_,U, ?_⟩
 refine aK (fun q=> ?_) (fun q=> ?_)
 . have q:(1000000:Int)<(p:Int):=of_decide_eq_true q
   refine aK (fun _=> ?_) (fun z=>(z rfl).elim)
   exact no (by lia)
 have q1:p<=1000000:=lp (b:=1000000) q
 refine⟨_,U,_,_,U,U,_,U, ?_⟩
 refine aK (fun q=> ?_) (fun q=> ?_)
 . have q:(m:Int)<1:=of_decide_eq_true q
   refine aK (fun _=> ?_) (fun z=>(z rfl).elim)
   exact no (by lia)
 have q2:1<=m:=lp (a:=1) (b:=m) q
 refine⟨_,U,_,_,U,U,_,U, ?_⟩
 refine aK (fun q=> ?_) (fun q=> ?_)
 . have q:(1000000:Int)<(m:Int):=of_decide_eq_true q
   exact no (by lia)
 have q3:m<=1000000:=lp (b:=1000000) q
 refine⟨_,U,_,_,U,U,_,U, ?_⟩
 refine aK (fun q=> ?_) (fun q=> ?_)
 . have q:(n:Int)<1:=of_decide_eq_true q
   refine aK (fun _=> ?_) (fun z=>(z rfl).elim)
   exact no (by lia)
 have q4:1<=n:=lp (a:=1) (b:=n) q
 refine⟨_,U,_,_,U,U,_,U, ?_⟩
 refine aK (fun q=> ?_) (fun q=> ?_)
 . have q:(9:Int)<(n:Int):=of_decide_eq_true q
   exact no (by lia)
 have q5:n<=9:=lp (b:=9) q
 refine⟨_,U,_,U,_,_,U,U,_,U, ?_⟩
 refine aK (fun q=> ?_) (fun q=> ?_)
 . have q6:(x:Int)<(y:Int):=of_decide_eq_true q
   refine⟨_,U,_,_,U,U, ?_⟩
   have e:kU p m n x y=decide ((y:Int)<=1440):=by
    unfold kU
    by_cases c:y<=1440
    . rw[decide_eq_true (by lia),decide_eq_true (by lia)]
    rw[decide_eq_false (by lia),decide_eq_false (by lia)]
   rw[e]at k
   exact k
 have q6:¬(x:Int)<(y:Int):=fun z=>q (decide_eq_true z)
 exact no (by lia)
def Eh(A:Ad):Sp:=fun vs H Q _=>∃(a:Addr)(p:Sw76.Product)(gs co:Int)(zs:Nat)(hull:Option Nat),vs=[.ref a, .int gs, .int co, .int (zs:Nat),Hi hull]/\za A H a p/\Q (.bl (qY p gs co zs hull)) H
abbrev jw:Stmt:=inClass (top 29) 1
theorem mw:aB ["self","goes","comes","zones","hull","minute"] ["self","goes","comes","zones","hull"] (ao jw):=sm
theorem t8{f:Addr}{fd:FuncData}(F:eH K "is_good" "Product.is_good" jw f fd)(T:Txt K mg A)(gf:FnAt P w K mg base 1 "has_all" ["numbers","wanted"] uK):bq P w K mg base eD 2 f fd ["self","goes","comes","zones","hull"] (Eh A):=by
 refine F.ok mw (fun vs H Q E h=> ?_) (fun dz Ar outer s H vs Q E hr h=> ?_)
 . obtain⟨_,_,_,_,_,_,rfl,_⟩:=h
   rfl
 obtain⟨a,p,gs,co,zs,hull,rfl,⟨dx,ha⟩,k⟩:=h
 have no:(gs+(p.long:Int)<co\/gs%1440<(p.low:Int)\/(p.high:Int)<=gs%1440)->Q (.bl false) H:=fun c=>by
  unfold qY at k
  rw[if_pos c]at k
  exact k
 refine⟨_,(ae (aC (i:=5) mw.nd rfl oi (bA JH (pv 1) (bj rfl T.d8)))
  (ae (bg (PW.pt (gn (ay jF (pv 2) (bA ft (pv 1) (ai (pv 0) rfl)) nk) (gn (ay lV (pv 5) (ai (pv 0) rfl) nk) (gw (ay iR (pv 5) (ai (pv 0) rfl) nk))))) (ah (aA p0)) aF)
  (ae (bg (ay hE (ai (pv 0) rfl) cI nk) (ah (aA (aO gf hr rfl (aa (ai (pv 0) rfl) (aa (pv 3) ag))))) aF)
  (ah (aA (Jz (oN GK (pv 4) cI nk) (Jy (oN AW (pv 4) (ai (pv 0) rfl) nk)))))))), ?_⟩
 refine⟨_,U,_,_,U,U,(by show(0:Int)<1440;decide), ?_⟩
 refine⟨_,U,_,U,_,U,_,_,_,_,_,U,ha,T.bL,T.mU,U,_,_,U,U,_,_,U,U,_,U, ?_⟩
 refine aK (fun q=> ?_) (fun q=> ?_)
 . have q:gs+(p.long:Int)<co:=of_decide_eq_true q
   refine aK (fun _=> ?_) (fun z=>(z rfl).elim)
   exact no (.inl q)
 have q1:¬gs+(p.long:Int)<co:=fun z=>q (decide_eq_true z)
 refine⟨_,U,_,U,_,_,_,_,_,U,ha,T.bL,T.qb,U,_,_,U,U,_,U, ?_⟩
 refine aK (fun q=> ?_) (fun q=> ?_)
 . have q:gs%1440<(p.low:Int):=of_decide_eq_true q
   refine aK (fun _=> ?_) (fun z=>(z rfl).elim)
   exact no (.inr (.inl q))
 have q2:¬gs%1440<(p.low:Int):=fun z=>q (decide_eq_true z)
 refine⟨_,U,_,U,_,_,_,_,_,U,ha,T.bL,T.sJ,U,_,_,U,U,_,U, ?_⟩
 refine aK (fun q=> ?_) (fun q=> ?_)
 . have q:(p.high:Int)<=gs%1440:=of_decide_eq_true q
   exact no (.inr (.inr q))
 have q3:¬(p.high:Int)<=gs%1440:=fun z=>q (decide_eq_true z)
 unfold qY at k
 rw[if_neg (by lia)]at k
 refine⟨_,U,_,_,_,_,_,U,ha,T.bL,T.hU,U,U,_,U, ?_⟩
 cases ep:p.area with
 |any n=>
  rw[ep]at k ha
  refine aK (fun q=> ?_) (fun q=> ?_)
  . cases of_decide_eq_true q
  cases hull with
  |none=>
   refine⟨_,U,U,_,U, ?_⟩
   exact k
  |some h=>
   refine⟨_,U,U,_,U, ?_⟩
   refine aK (fun _=> ?_) (fun z=>(z rfl).elim)
   refine⟨_,U,_,U,_,_,_,_,_,U,ha,T.bL,T.hU,U,_,_,U,U, ?_⟩
   have e:decide ((h:Int)<=(n:Int))=(some h).any fun h=>decide (h<=n):=by
    rw[acg]
    by_cases c:h<=n
    . rw[decide_eq_true c,decide_eq_true (by lia)]
    rw[decide_eq_false c,decide_eq_false (by lia)]
   show Q (.bl (decide ((h:Int)<=(n:Int)))) H
   rw[e]
   exact k
 |these z=>
  rw[ep]at k ha
  refine aK (fun q=> ?_) (fun q=>(q rfl).elim)
  refine⟨_,U,_,_,_,_,_,U,ha,T.bL,T.qa,U,_,U,z,zs,U, ?_⟩
  exact k
def KQ:Sp:=fun vs H Q _=>∃(z:Nat)(jl:Addr)(js:List Nat),vs=[.int (z:Nat), .ref jl]/\H jl=some (.lst (b9 js))/\(∀t∈js,bl t<=1000)/\∀H',ak H H'->Q (Hi (l8 z js)) H'
abbrev vT:Stmt:=top 35
theorem zm:aB ["zones","joined","zones_joined"] ["zones","joined"] (ao vT):=sm
theorem FV{f:Addr}{fd:FuncData}(F:eH K "hull_of" "hull_of" vT f fd)(T:Txt K mg A)(gf:FnAt P w K mg base 1 "has_all" ["numbers","wanted"] uK)(fG:FnAt P w K mg base 2 "member_count" ["numbers"] CN):bq P w K mg base eD 3 f fd ["zones","joined"] KQ:=by
 refine F.ok zm (fun vs H Q E h=> ?_) (fun dz Ar outer s H vs Q E hr h=> ?_)
 . obtain⟨_,_,_,rfl,_⟩:=h
   rfl
 obtain⟨z,jl,js,rfl,hj,hb,k⟩:=h
 refine⟨_,(ae (dI acZ rfl (cG (pv 1)) (aX (i:=2) zm.nd rfl oi) (ah (bg (lU (aO gf hr rfl (aa (pv 2) (aa (pv 0) ag)))) (ah (aA (aO fG hr rfl (aa (pv 2) ag)))) aF)))
  (ah (aA cI))), ?_⟩
 refine⟨_,U,_,U,⟨_,aW.of hj⟩, ?_⟩
 refine eQ (K:=K) (a:=jl) (xs:=b9 js) (fun i σ H'=>∃o2,σ=[some (.int (z:Nat)),some (.ref jl),o2]/\H'=H/\l8 z js=l8 z (js.drop i))
  ⟨none,rfl,rfl,by rw[List.drop_zero]⟩ (fun i σ H' _⟨_,_,e,_⟩=>by rw[e];exact aW.of hj) ?_ ?_
 . rintro i v σ H' hv ⟨o2,rfl,rfl,e⟩
   have di:i<js.length:=by
    have:=(abt.mp hv).1
    rw[cX]at this
    exact this
   have et:=acf di
   generalize js[i]=t at et
   have hm:=abW et
   rw[mX et]at hv
   cases hv
   have ed:js.drop i=t::js.drop (i+1):=by
    rw[abt]at et
    obtain⟨h1,h2⟩:=et
    rw[<-h2]
    exact List.drop_eq_getElem_cons h1
   rw[ed,l8]at e
   refine⟨_,U,_,U,t,z,U,_,U, ?_⟩
   refine aK (fun c=> ?_) (fun c=> ?_)
   . refine⟨_,U,t,U,hb t hm,fun p hp=> ?_⟩
     have:=k _ (ak.upd (o:= .lst (b9 (mem t))) hp)
     rw[e,if_pos c]at this
     exact this
   rw[if_neg c]at e
   exact⟨_,U,U,e⟩
 rintro σ H' ⟨o2,rfl,rfl,e⟩
 rw[cX,List.drop_length]at e
 have:=k H' (fun _ _ h=>h)
 rw[e]at this
 exact this
end
structure MR(bs:List Nat)(m:Sw76.Map):Prop where
 len:bs.length=m.zones
 bit:∀i j,i<m.zones->(bs.getD i 0).testBit j=m.beside i j
structure nM(A:Ad)(H:Hp)(f fb pl:Addr)(bs:List Nat)(ps:List Addr)(D:Sw76.Desk):Prop where
 ins:∃dx,H f=some (.ins A.c7 dx [("zones", .int (D.map.zones:Nat)),("borders", .ref fb),("products", .ref pl)])
 bd:H fb=some (.lst (b9 bs))
 bo:MR bs D.map
 pr:Rep (za A) H pl ps D.products
 ne:fb≠pl
theorem nM.same {A:Ad} {H H':Hp} {f fb pl:Addr} {bs:List Nat} {ps:List Addr} {D:Sw76.Desk} (h:nM A H f fb pl bs ps D) (s:ak H H'):nM A H' f fb pl bs ps D:=by
 obtain⟨dx,hi⟩:=h.ins
 exact⟨⟨dx,s _ _ hi⟩,s _ _ h.bd,h.bo,h.pr.same (sr A) s,h.ne⟩
theorem II(z:Nat):MR (List.replicate z 0) ⟨z,[]⟩:=⟨by simp,fun i j h=>by
 rw[acd,List.getElem?_replicate]
 have h:i<z:=h
 rw[if_pos h]
 show(0:Nat).testBit j=false
 simp⟩
theorem Ei{m:Sw76.Map}{i j a b:Nat}:(({m with pairs:=m.pairs++[(i,j)]}:Sw76.Map).beside a b)=(m.beside a b||((i==a&&j==b)||(i==b&&j==a))):=by
 unfold Sw76.Map.beside
 rw[List.any_append]
 simp
theorem vU{l:List Nat}{k i v:Nat}(hk:k<l.length):(l.set k v).getD i 0=if k=i then v else l.getD i 0:=by
 rw[acd,ace]
 by_cases c:k=i
 . subst c
   rw[if_pos rfl,if_pos hk,if_pos rfl]
   rfl
 rw[if_neg c,if_neg c,acd]
theorem KR{bs:List Nat}{m:Sw76.Map}{i j:Nat}(h:MR bs m)(hi:i<m.zones)(hj:j<m.zones)(ir:i≠j):MR ((bs.set i (bs.getD i 0|||2^j)).set j (bs.getD j 0|||2^i)) {m with pairs:=m.pairs++[(i,j)]}:=by
 refine⟨by simp[h.len],fun a b ha=> ?_⟩
 have ha:a<m.zones:=ha
 rw[Ei,vU (by simp[h.len];exact hj),vU (by rw[h.len];exact hi)]
 have hb:=h.bit a b ha
 by_cases c1:j=a
 . subst c1
   rw[if_pos rfl,acD,hb,acE]
   have:(i==j)=false:=by simpa using ir
   rw[this]
   by_cases c2:i=b
   . subst c2
     simp
   have:(i==b)=false:=by simpa using c2
   rw[this]
   simp[c2]
 rw[if_neg c1]
 have e1:(j==a)=false:=by simpa using c1
 by_cases c2:i=a
 . subst c2
   rw[if_pos rfl,acD,hb,acE,e1]
   by_cases c3:j=b
   . subst c3
     simp
   have:(j==b)=false:=by simpa using c3
   rw[this]
   simp[c3]
 rw[if_neg c2,hb,e1]
 have:(i==a)=false:=by simpa using c2
 rw[this]
 simp
theorem MS{D:Sw76.Desk}{n p m k x y:Nat}:D.productOk ⟨.any n,p,m,k,x,y⟩=(decide (1<=n/\n<=8)&&kU p m k x y):=by
 unfold Sw76.Desk.productOk kU Sw76.ZONES Sw76.MOST Sw76.DAY
 dsimp only
 rw[abF]
 simp only[ab6,decide_eq_true_eq]
theorem MT{n:Nat}{zs:List Nat}:(decide (Sw76.bitsOf zs<2^n)&&Sw76.bitsOf zs !=0)=decide (zs≠[]/\∀z∈zs,z<n):=by
 rw[sk]
 have key:(dX zs 0<2^n/\dX zs 0≠0)↔(zs≠[]/\∀z∈zs,z<n):=by
  constructor
  . rintro⟨h1,h2⟩
    refine⟨fun q=>h2 (by rw[q];rfl),fun z hz=> ?_⟩
    apply acp
    intro c
    have e:(dX zs 0).testBit z=true:=by rw[jP];simp[hz]
    rw[fx h1 (by lia)]at e
    cases e
  rintro⟨h1,h2⟩
  refine⟨pd fun i hi=> ?_,fun q=> ?_⟩
  . rw[jP]at hi
    simp at hi
    exact h2 i hi
  cases zs with
  |nil=>exact h1 rfl
  |cons z l=>
   have e:(dX (z::l) 0).testBit z=true:=by rw[jP];simp
   rw[q]at e
   simp at e
 by_cases c:zs≠[]/\∀z∈zs,z<n
 . obtain⟨k1,k2⟩:=key.mpr c
   rw[decide_eq_true c,decide_eq_true k1]
   simp[k2]
 rw[decide_eq_false c]
 by_cases c1:dX zs 0<2^n
 . have:dX zs 0=0:=by
    apply acp
    intro q
    exact c (key.mp ⟨c1,q⟩)
   rw[this]
   simp
 rw[decide_eq_false c1]
 rfl
theorem KS{D:Sw76.Desk}{zs:List Nat}{p m k x y:Nat}:D.productOk ⟨.these (Sw76.bitsOf zs),p,m,k,x,y⟩=(decide (zs≠[]/\∀z∈zs,z<D.map.zones)&&kU p m k x y):=by
 rw[<-MT]
 unfold Sw76.Desk.productOk Sw76.Desk.zonesOk kU Sw76.MOST Sw76.DAY
 dsimp only
 rw[abF]
 simp only[ab6,decide_eq_true_eq]
section
variable{P:Program}{w:World}{K:PySem.W.Frag}{mg:Str->Option Value}{base:Heap}{A:Ad}
def BM(A:Ad):Sp:=fun vs H Q _=>∃(p dx:Addr)(z:Nat)(H0:Hp),vs=[.ref p, .int (z:Nat)]/\z<=8/\H0 p=none/\H0 dx=none/\dx≠p/\H=upd (upd H0 dx (.own p)) p (.ins A.c7 dx [])/\
 ∀(H':Hp)(fb pl:Addr),ak H0 H'->H0 fb=none->H0 pl=none->nM A H' p fb pl (List.replicate z 0) [] ⟨⟨z,[]⟩,[],[]⟩->Q .dR H'
abbrev pT:Stmt:=inClass (top 34) 0
theorem nN:aB ["self","zones","zone"] ["self","zones"] (ao pT):=sm
theorem AE{f:Addr}{fd:FuncData}(F:eH K "__init__" "Fares.__init__" pT f fd)(T:Txt K mg A):bq P w K mg base eD 1 f fd ["self","zones"] (BM A):=by
 refine F.ok nN (fun vs H Q E h=> ?_) (fun dz Ar outer s H vs Q E hr h=> ?_)
 . obtain⟨_,_,_,_,rfl,_⟩:=h
   rfl
 obtain⟨p,dx,z,H0,rfl,hz,FK,MH,ir,rfl,k⟩:=h
 refine⟨_,(ae (aU (pv 0) (pv 1) rfl)
  (ae (aU (pv 0) (wB rfl nN.nd (AV rfl T.pq (aa (pv 1) ag)) (ee (own:=[("zone",2)]) (by rfl)) (fun _ _ _ _ _=>(aX (i:=2) nN.nd rfl oi)) (fun _ _ _ _ _=>iu) (fun _ _ _ _ _=>aj)) rfl)
  (ah (aU (pv 0) (bb ag) rfl)))), ?_⟩
 refine⟨_,U,_,U,p,_,dx,_,U,af,T.bI,T.fY,Ud, ?_⟩
 rw[aL,show bc "zones" (.int (z:Nat)) ([]:aV)=([("zones", .int (z:Nat))]:aV)from rfl]
 have s1:ak H0 (upd (upd H0 dx (.own p)) p (.ins A.c7 dx [("zones", .int (z:Nat))])):=dE FK MH
 have p1:(upd (upd H0 dx (.own p)) p (.ins A.c7 dx [("zones", .int (z:Nat))])) p=some (.ins A.c7 dx [("zones", .int (z:Nat))]):=af
 generalize upd (upd H0 dx (.own p)) p (.ins A.c7 dx [("zones", .int (z:Nat))])=H1 at s1 p1⊢
 refine⟨_,U,_,U,(by lia),(by lia), ?_⟩
 intro fb Pj
 rw[abY]
 refine yE (fun i H'=>H'=upd H1 fb (.lst (b9 (List.replicate i 0)))) rfl ?_ ?_
 . rintro i H' hi rfl
   refine⟨U, ?_⟩
   refine⟨_,af, ?_, ?_⟩
   . rw[cX,List.length_replicate]
     exact abe hi (abk hz (by decide))
   rw[aL]
   have:b9 (List.replicate i 0)++[V.int 0]=b9 (List.replicate (i+1) 0):=by
    rw[List.replicate_succ']
    unfold b9
    rw[acX]
    rfl
   rw[this]
 rintro H' rfl
 have n1:p≠fb:=aw p1 Pj
 have z1:H0 fb=none:=s1.free Pj
 refine⟨_,U,p,_,dx,_,U,(by rw[au n1];exact p1),T.bI,T.fV,Ud, ?_⟩
 rw[show bc "borders" (.ref fb) ([("zones", .int (z:Nat))]:aV)=([("zones", .int (z:Nat)),("borders", .ref fb)]:aV)from aI (ns:=["zones"]) rfl (by decide+kernel)]
 have s2:ak H0 (upd (upd H1 fb (.lst (b9 (List.replicate z 0)))) p (.ins A.c7 dx [("zones", .int (z:Nat)),("borders", .ref fb)])):=ak.fy (ak.fy s1 z1) FK
 have p2:(upd (upd H1 fb (.lst (b9 (List.replicate z 0)))) p (.ins A.c7 dx [("zones", .int (z:Nat)),("borders", .ref fb)])) p=some (.ins A.c7 dx [("zones", .int (z:Nat)),("borders", .ref fb)]):=af
 have l2:(upd (upd H1 fb (.lst (b9 (List.replicate z 0)))) p (.ins A.c7 dx [("zones", .int (z:Nat)),("borders", .ref fb)])) fb=some (.lst (b9 (List.replicate z 0))):=by rw[au (abp n1),af]
 generalize upd (upd H1 fb (.lst (b9 (List.replicate z 0)))) p (.ins A.c7 dx [("zones", .int (z:Nat)),("borders", .ref fb)])=H2 at s2 p2 l2⊢
 refine⟨abE _,fun pl qJ=> ?_⟩
 have n2:p≠pl:=aw p2 qJ
 have m2:fb≠pl:=aw l2 qJ
 refine⟨_,U,p,_,dx,_,U,(by rw[au n2];exact p2),T.bI,T.fC,Ud, ?_⟩
 rw[show bc "products" (.ref pl) ([("zones", .int (z:Nat)),("borders", .ref fb)]:aV)=([("zones", .int (z:Nat)),("borders", .ref fb),("products", .ref pl)]:aV)from aI (ns:=["zones","borders"]) rfl (by decide+kernel)]
 have z2:H0 pl=none:=s2.free qJ
 refine k _ fb pl (ak.fy (ak.fy s2 z2) FK) z1 z2 ⟨⟨dx,af⟩, ?_,II z,Rep.nil ?_,m2⟩
 . rw[au (abp n1),au m2];exact l2
 rw[au (abp n2),af]
def Ej(A:Ad):Sp:=fun vs H Q _=>∃(f fb pl:Addr)(bs:List Nat)(ps:List Addr)(D:Sw76.Desk)(i j:Nat),vs=[.ref f, .int (i:Nat), .int (j:Nat)]/\nM A H f fb pl bs ps D/\D.map.zones<=8/\
 ((D.map.zones<=i\/D.map.zones<=j)->Q (.int (-2)) H)/\(i<D.map.zones->j<D.map.zones->(i=j\/D.map.beside i j=true)->Q (.int (-3)) H)/\
 (i<D.map.zones->j<D.map.zones->i≠j->D.map.beside i j=false->∀(H':Hp)(So:List Nat),gu H H' fb->nM A H' f fb pl So ps {D with map:={D.map with pairs:=D.map.pairs++[(i,j)]}}->Q (.int 0) H')
theorem Hk{l:List Nat}{k n:Nat}:(b9 l).set k (.int (n:Nat))=b9 (l.set k n):=by
 unfold b9
 rw[List.map_set]
theorem u4{l:List Nat}{i:Nat}(h:i<l.length):(b9 l)[i]?=some (.int (l.getD i 0:Nat)):=by
 apply mX
 rw[acd,acf h]
 rfl
abbrev iO:Stmt:=inClass (top 34) 1
theorem sF:aB ["self","i","j"] ["self","i","j"] (ao iO):=sm
theorem sG{f:Addr}{fd:FuncData}(F:eH K "add_border" "Fares.add_border" iO f fd)(T:Txt K mg A):bq P w K mg base eD 1 f fd ["self","i","j"] (Ej A):=by
 refine F.ok sF (fun vs H Q E h=> ?_) (fun dz Ar outer s H vs Q E hr h=> ?_)
 . obtain⟨_,_,_,_,_,_,_,_,rfl,_⟩:=h
   rfl
 obtain⟨f',fb,pl,bs,ps,D,i,j,rfl,hF,hz,k1,k2,k3⟩:=h
 obtain⟨dx,hi⟩:=hF.ins
 refine⟨_,(ae (bg (PW.pt (gn (ay iR (pv 1) (ai (pv 0) rfl) nk) (gw (ay iR (pv 2) (ai (pv 0) rfl) nk)))) (ah (aA (cJ bS aj))) aF)
  (ae (bg (PW.pt (gn (ay ku (pv 1) (pv 2) nk) (gw (ay ku (bA vz (bA Fb (aM ax (ai (pv 0) rfl) (pv 1) (fun _ _=>rfl)) (pv 2)) aj) aj nk)))) (ah (aA (cJ bS aj))) aF)
  (ae (GC (ai (pv 0) rfl) (pv 1) DY (bA qH aj (pv 2)) Bx set_list)
  (ae (GC (ai (pv 0) rfl) (pv 2) DY (bA qH aj (pv 1)) Bx set_list)
  (ah (aA aj)))))), ?_⟩
 refine⟨_,U,_,U,_,_,_,_,_,U,hi,T.bI,T.fY,U,_,_,U,U,_,U, ?_⟩
 refine aK (fun q=> ?_) (fun q=> ?_)
 . have q:(D.map.zones:Int)<=(i:Int):=of_decide_eq_true q
   refine aK (fun _=> ?_) (fun z=>(z rfl).elim)
   exact⟨_,U,k1 (.inl (by lia))⟩
 have q1:i<D.map.zones:=uZ q
 refine⟨_,U,_,U,_,_,_,_,_,U,hi,T.bI,T.fY,U,_,_,U,U,_,U, ?_⟩
 refine aK (fun q=> ?_) (fun q=> ?_)
 . have q:(D.map.zones:Int)<=(j:Int):=of_decide_eq_true q
   exact⟨_,U,k1 (.inr (by lia))⟩
 have q2:j<D.map.zones:=uZ q
 have li:i<bs.length:=by rw[hF.bo.len];exact q1
 have lj:j<bs.length:=by rw[hF.bo.len];exact q2
 refine⟨_,U,_,U,U,_,U, ?_⟩
 refine aK (fun q=> ?_) (fun q=> ?_)
 . have q:i=j:=by
    have q:=of_decide_eq_true q
    injection q with q
    lia
   refine aK (fun _=> ?_) (fun z=>(z rfl).elim)
   exact⟨_,U,k2 q1 q2 (.inl q)⟩
 have q3:i≠j:=fun e=>by
  apply q
  rw[e]
  exact decide_eq_true rfl
 refine⟨_,U,_,_,_,_,_,U,hi,T.bI,T.fV,U,_,U,_,_,_,_,U,U,aW.of hF.bd,c9 (u4 li),_,U,_,_,U,U, ?_,_,_,U,U,U,_,U, ?_⟩
 . show(0:Int)<=(j:Int)
   lia
 rw[CA,hF.bo.bit i j q1]
 refine aK (fun q=> ?_) (fun q=> ?_)
 . exact⟨_,U,k2 q1 q2 (.inr q)⟩
 have q4:D.map.beside i j=false:=by simpa using q
 refine⟨_,U,_,_,_,_,_,U,hi,T.bI,T.fV,U,_,U,fb,_,_,_,U,U,(by lia),aW.of hF.bd,(by rw[abY];exact u4 li),_,U,_,_,U,U,⟨(by lia),(by lia),(by decide)⟩,_,_,U,U,fb,_,_,_,U,U,hF.bd,CC (by rw[cX];exact li), ?_⟩
 rw[mW]
 dsimp only
 rw[pB,Hk]
 have nf:f'≠fb:=bH hi hF.bd (by intro q;cases q)
 refine⟨_,U,_,_,_,_,_,U,(by rw[au nf];exact hi),T.bI,T.fV,U,_,U,fb,_,_,_,U,U,(by lia),aW.of af,(by rw[abY];exact u4 (by rw[ab0];exact lj)),_,U,_,_,U,U,⟨(by lia),(by lia),(by decide)⟩,_,_,U,U,fb,_,_,_,U,U,af,CC (by rw[cX,ab0];exact lj), ?_⟩
 rw[mW]
 dsimp only
 rw[pB,Hk,aL,vU li,if_neg q3]
 have kk:gu H (upd H fb (.lst (b9 ((bs.set i (bs.getD i 0|||2^j)).set j (bs.getD j 0|||2^i))))) fb:=fun b o e hb=>by
  rw[au hb]
  exact e
 refine k3 q1 q2 q3 q4 _ _ kk ⟨⟨dx,kk _ _ hi nf⟩,af,KR hF.bo q1 q2 q3, ?_,hF.ne⟩
 exact hF.pr.keep (sr A) (by rw[hF.pr.lst];exact kk _ _ hF.pr.lst (abp hF.ne)) (kk.BE hF.bd)
def vV(A:Ad):Sp:=fun vs H Q _=>∃(f fb pl tl:Addr)(bs:List Nat)(ps:List Addr)(D:Sw76.Desk)(ar:Sw76.Area)(p m n x y:Nat),vs=[.ref f,FF ar,FG ar, .ref tl]/\nM A H f fb pl bs ps D/\H tl=some (.lst (b9 [p,m,n,x,y]))/\
 (kU p m n x y=false->Q (.int (-1)) H)/\(kU p m n x y=true->8<=D.products.length->Q (.int (-5)) H)/\
 (kU p m n x y=true->D.products.length<8->∀(H':Hp)(a:Addr),gu H H' pl->nM A H' f fb pl bs (ps++[a]) {D with products:=D.products++[⟨ar,p,m,n,x,y⟩]}->Q (.int (D.products.length:Nat)) H')
abbrev hX:Stmt:=inClass (top 34) 4
theorem rF:aB ["self","any_zones","zones","terms"] ["self","any_zones","zones","terms"] (ao hX):=sm
theorem rG{f:Addr}{fd:FuncData}(F:eH K "add_product" "Fares.add_product" hX f fd)(T:Txt K mg A)(jx:FnAt P w K mg base 1 "are_terms_right" ["price","minutes","persons","begin","end"] Hj)(vW:eG P w K mg base 1 "Product" A.Product ["self","any_zones","zones","price","minutes","begin","end"] (uD A.Product ["any_zones","zones","price","minutes","begin","end"])):bq P w K mg base eD 3 f fd ["self","any_zones","zones","terms"] (vV A):=by
 refine F.ok rF (fun vs H Q E h=> ?_) (fun dz Ar outer s H vs Q E hr h=> ?_)
 . obtain⟨_,_,_,_,_,_,_,_,_,_,_,_,_,rfl,_⟩:=h
   rfl
 obtain⟨f',fb,pl,tl,bs,ps,D,ar,p,m,n,x,y,rfl,hF,ht,k1,k2,k3⟩:=h
 obtain⟨dx,hi⟩:=hF.ins
 have g0:oJ (b9 [p,m,n,x,y]) 0=some (.int (p:Nat)):=c9 (n:=0) rfl
 have g1:oJ (b9 [p,m,n,x,y]) 1=some (.int (m:Nat)):=c9 (n:=1) rfl
 have g2:oJ (b9 [p,m,n,x,y]) 2=some (.int (n:Nat)):=c9 (n:=2) rfl
 have g3:oJ (b9 [p,m,n,x,y]) 3=some (.int (x:Nat)):=c9 (n:=3) rfl
 have g4:oJ (b9 [p,m,n,x,y]) 4=some (.int (y:Nat)):=c9 (n:=4) rfl
 have S:=aW.of (K:=K) ht
 refine⟨_,(ae (bg (sY (lU (aO jx hr rfl (aa (aM ax (pv 3) aj (fun _ _=>rfl)) (aa (aM ax (pv 3) aj (fun _ _=>rfl)) (aa (aM ax (pv 3) aj (fun _ _=>rfl)) (aa (aM ax (pv 3) aj (fun _ _=>rfl)) (aa (aM ax (pv 3) aj (fun _ _=>rfl)) ag)))))))) (ah (aA (cJ bS aj))) aF)
  (ae (bg (ay iR (aP aD (by rfl) T.dF ada (aa (ai (pv 0) rfl) ag)) (bj rfl T.iz) nk) (ah (aA (cJ bS aj))) aF)
  (ae (cF (k0 ac0 ac1 ac2 fu (ai (pv 0) rfl) (aa (cv vW hr rfl (aa (pv 1) (aa (pv 2) (aa (aM ax (pv 3) aj (fun _ _=>rfl)) (aa (aM ax (pv 3) aj (fun _ _=>rfl)) (aa (aM ax (pv 3) aj (fun _ _=>rfl)) (aa (aM ax (pv 3) aj (fun _ _=>rfl)) ag))))))) ag)))
  (ah (aA (bA qG (aP aD (by rfl) T.dF ada (aa (ai (pv 0) rfl) ag)) aj)))))), ?_⟩
 refine⟨_,U,_,_,_,_,U,U,S,g0,_,U,_,_,_,_,U,U,S,g1,_,U,_,_,_,_,U,U,S,g2,_,U,_,_,_,_,U,U,S,g3,_,U,_,_,_,_,U,U,S,g4,p,m,n,x,y,U,_,U, ?_⟩
 cases et:kU p m n x y with
 |false=>exact⟨_,rfl,k1 et⟩
 |true=>
  refine⟨_,U,_,_,_,_,_,U,hi,T.bI,T.fC,U,_,_,U, .inl (aW.of hF.pr.lst),_,_,U,U,_,U, ?_⟩
  rw[hF.pr.cz]
  refine aK (fun q=> ?_) (fun q=> ?_)
  . have q:(8:Int)<=(D.products.length:Int):=of_decide_eq_true q
    exact⟨_,U,k2 et (by lia)⟩
  have q1:D.products.length<8:=uZ (b:=8) q
  refine⟨_,U,_,_,_,_,_,U,hi,T.bI,T.fC,U, .inl ⟨U,_,aW.of hF.pr.lst⟩, ?_⟩
  refine⟨_,U,_,U,_,U,_,_,_,_,U,U,S,g0,_,U,_,_,_,_,U,U,S,g1,_,U,_,_,_,_,U,U,S,g3,_,U,_,_,_,_,U,U,S,g4, ?_⟩
  intro a da ha hd ir
  refine⟨a,da,_,U,U,af,U, ?_⟩
  rw[aL]
  have s1:=dE (C:=A.Product) (fs:=[("any_zones",FF ar),("zones",FG ar),("price", .int (p:Nat)),("minutes", .int (m:Nat)),("begin", .int (x:Nat)),("end", .int (y:Nat))]) ha hd
  have a1:(mk H a da A.Product [("any_zones",FF ar),("zones",FG ar),("price", .int (p:Nat)),("minutes", .int (m:Nat)),("begin", .int (x:Nat)),("end", .int (y:Nat))]) a=some (.ins A.Product da [("any_zones",FF ar),("zones",FG ar),("price", .int (p:Nat)),("minutes", .int (m:Nat)),("begin", .int (x:Nat)),("end", .int (y:Nat))]):=k9
  have yl:=s1 _ _ hF.pr.lst
  refine⟨pl,_,_,U,U,yl, ?_, ?_⟩
  . rw[hF.pr.cz]
    exact Nat.lt_trans q1 (by decide)
  have kk:gu H (upd (mk H a da A.Product [("any_zones",FF ar),("zones",FG ar),("price", .int (p:Nat)),("minutes", .int (m:Nat)),("begin", .int (x:Nat)),("end", .int (y:Nat))]) pl (.lst (ps.map V.ref++[V.ref a]))) pl:=fun b o e hb=>by
   rw[au hb]
   exact s1 _ _ e
  have nf:f'≠pl:=bH hi hF.pr.lst (by intro q;cases q)
  have R:Rep (za A) (upd (mk H a da A.Product [("any_zones",FF ar),("zones",FG ar),("price", .int (p:Nat)),("minutes", .int (m:Nat)),("begin", .int (x:Nat)),("end", .int (y:Nat))]) pl (.lst (ps.map V.ref++[V.ref a]))) pl (ps++[a]) (D.products++[⟨ar,p,m,n,x,y⟩]):=by
   refine hF.pr.push (sr A) (c8 s1) ?_ ⟨da,a1⟩
   rw[hF.pr.lst]
   exact yl
  refine⟨_,U,_,_,_,_,_,U,kk _ _ hi nf,T.bI,T.fC,U,_,_,U, .inl (aW.of R.lst),_,_,U,U, ?_⟩
  have e:((((ps++[a]).map V.ref).length:Nat):Int)-1=(D.products.length:Int):=by
   rw[abI,abX,ab1,hF.pr.len]
   exact sub_one
  show Q (.int (((((ps++[a]).map V.ref).length:Nat):Int)-1)) _
  rw[e]
  exact k3 et q1 _ a kk ⟨⟨dx,kk _ _ hi nf⟩,kk _ _ hF.bd hF.ne,hF.bo,R,hF.ne⟩
def FW(A:Ad)(H:Hp)(Q:VK)(f fb pl:Addr)(bs:List Nat)(ps:List Addr)(D:Sw76.Desk)(x:Sw76.Product):Prop:=
 (D.productOk x=false->Q (.int (-1)) H)/\(D.productOk x=true->8<=D.products.length->Q (.int (-5)) H)/\
 (D.productOk x=true->D.products.length<8->∀(H':Hp)(a:Addr),gu H H' pl->nM A H' f fb pl bs (ps++[a]) {D with products:=D.products++[x]}->Q (.int (D.products.length:Nat)) H')
def Ek(A:Ad):Sp:=fun vs H Q _=>∃(f fb pl tl:Addr)(bs:List Nat)(ps:List Addr)(D:Sw76.Desk)(z p m n x y:Nat),vs=[.ref f, .int (z:Nat), .ref tl]/\nM A H f fb pl bs ps D/\H tl=some (.lst (b9 [p,m,n,x,y]))/\FW A H Q f fb pl bs ps D ⟨.any z,p,m,n,x,y⟩
abbrev fH:Stmt:=inClass (top 34) 2
theorem nQ:aB ["self","any_zones","terms"] ["self","any_zones","terms"] (ao fH):=sm
theorem nR{f:Addr}{fd:FuncData}(F:eH K "add_any_product" "Fares.add_any_product" fH f fd)(T:Txt K mg A)(cS:MethAt P w K mg base 3 A.c7 "add_product" ["self","any_zones","zones","terms"] (vV A)):bq P w K mg base eD 4 f fd ["self","any_zones","terms"] (Ek A):=by
 refine F.ok nQ (fun vs H Q E h=> ?_) (fun dz Ar outer s H vs Q E hr h=> ?_)
 . obtain⟨_,_,_,_,_,_,_,_,_,_,_,_,_,rfl,_⟩:=h
   rfl
 obtain⟨f',fb,pl,tl,bs,ps,D,z,p,m,n,x,y,rfl,hF,ht,k1,k2,k3⟩:=h
 obtain⟨dx,hi⟩:=hF.ins
 rw[MS]at k1 k2 k3
 refine⟨_,(ae (bg (PW.pt (gn (ay lV (pv 1) aj nk) (gw (ay jF (pv 1) (bj rfl T.jb) nk)))) (ah (aA (cJ bS aj))) aF)
  (ah (aA (bB (pv 0) cS hr (aa (pv 1) (aa aj (aa (pv 2) ag))))))), ?_⟩
 refine⟨_,U,_,_,U,U,_,U, ?_⟩
 refine aK (fun q=> ?_) (fun q=> ?_)
 . have q:(z:Int)<1:=of_decide_eq_true q
   refine aK (fun _=> ?_) (fun z=>(z rfl).elim)
   exact⟨_,U,k1 (by rw[decide_eq_false (by lia)];rfl)⟩
 have q1:1<=z:=lp (a:=1) (b:=z) q
 refine⟨_,U,_,_,U,U,_,U, ?_⟩
 refine aK (fun q=> ?_) (fun q=> ?_)
 . have q:(8:Int)<(z:Int):=of_decide_eq_true q
   exact⟨_,U,k1 (by rw[decide_eq_false (by lia)];rfl)⟩
 have q2:z<=8:=lp (a:=z) (b:=8) q
 rw[decide_eq_true (show 1<=z/\z<=8 from⟨q1,q2⟩),acR]at k1 k2 k3
 refine⟨_,U,f',dx,_,U,hi,U,_,U,_,U,f',fb,pl,tl,bs,ps,D, .any z,p,m,n,x,y,U,hF,ht,k1,k2,k3⟩
def BN(A:Ad):Sp:=fun vs H Q _=>∃(f fb pl zl tl:Addr)(bs zs:List Nat)(ps:List Addr)(D:Sw76.Desk)(p m n x y:Nat),vs=[.ref f, .ref zl, .ref tl]/\nM A H f fb pl bs ps D/\D.map.zones<=8/\H zl=some (.lst (b9 zs))/\H tl=some (.lst (b9 [p,m,n,x,y]))/\FW A H Q f fb pl bs ps D ⟨.these (Sw76.bitsOf zs),p,m,n,x,y⟩
theorem drop_cons{α:Type}{l:List α}{i:Nat}{x:α}(h:l[i]?=some x):l.drop i=x::l.drop (i+1):=by
 obtain⟨h1,h2⟩:=abt.mp h
 rw[<-h2]
 exact List.drop_eq_getElem_cons h1
abbrev eX:Stmt:=inClass (top 34) 3
theorem cZ:aB ["self","told","terms","zones","zone"] ["self","told","terms"] (ao eX):=sm
theorem mO{f:Addr}{fd:FuncData}(F:eH K "add_told_product" "Fares.add_told_product" eX f fd)(T:Txt K mg A)(cS:MethAt P w K mg base 3 A.c7 "add_product" ["self","any_zones","zones","terms"] (vV A)):bq P w K mg base eD 4 f fd ["self","told","terms"] (BN A):=by
 refine F.ok cZ (fun vs H Q E h=> ?_) (fun dz Ar outer s H vs Q E hr h=> ?_)
 . obtain⟨_,_,_,_,_,_,_,_,_,_,_,_,_,_,rfl,_⟩:=h
   rfl
 obtain⟨f',fb,pl,zl,tl,bs,zs,ps,D,p,m,n,x,y,rfl,hF,He,UD,ht,k1,k2,k3⟩:=h
 obtain⟨dx,hi⟩:=hF.ins
 rw[KS]at k1 k2 k3
 refine⟨_,(ae (bg (ay ku (aP aD (by rfl) T.dF ada (aa (pv 1) ag)) aj nk) (ah (aA (cJ bS aj))) aF)
  (ae (aC (i:=3) cZ.nd rfl oi aj)
  (ae (dI acZ rfl (cG (pv 1)) (aX (i:=4) cZ.nd rfl oi) (ae (bg (ay iR (pv 4) (ai (pv 0) rfl) nk) (ah (aA (cJ bS aj))) aF)
  (ah (qE (i:=3) cZ.nd rfl oi (bA qH aj (pv 4)) Bx))))
  (ah (aA (bB (pv 0) cS hr (aa cI (aa (pv 3) (aa (pv 2) ag))))))))), ?_⟩
 refine⟨_,U,_,_,U, .inl (aW.of UD),U,_,U, ?_⟩
 rw[cX]
 refine aK (fun q=> ?_) (fun q=> ?_)
 . have q:zs.length=0:=by
    have q:=of_decide_eq_true q
    injection q with q
    lia
   refine⟨_,U,k1 ?_⟩
   rw[decide_eq_false (fun c=>c.1 (List.length_eq_zero_iff.mp q))]
   rfl
 have q1:zs≠[]:=fun e=>by
  apply q
  rw[e]
  exact decide_eq_true rfl
 refine⟨_,U,_,U,⟨_,aW.of UD⟩, ?_⟩
 refine eQ (K:=K) (a:=zl) (xs:=b9 zs) (fun i σ H'=>∃o4,σ=[some (.ref f'),some (.ref zl),some (.ref tl),some (.int ((dX (zs.take i) 0:Nat):Int)),o4]/\H'=H/\∀z∈zs.take i,z<D.map.zones)
  ⟨none,rfl,rfl,fun z hz=>by rw[List.take_zero]at hz;cases hz⟩ (fun i σ H' _⟨_,_,e,_⟩=>by rw[e];exact aW.of UD) ?_ ?_
 . rintro i v σ H' hv ⟨o4,rfl,rfl,di⟩
   have QL:i<zs.length:=by
    have:=(abt.mp hv).1
    rw[cX]at this
    exact this
   have ez:=acf QL
   generalize zs[i]=z at ez
   have hm:=abW ez
   rw[mX ez]at hv
   cases hv
   refine⟨_,U,_,U,_,_,_,_,_,U,hi,T.bI,T.fY,U,_,_,U,U,_,U, ?_⟩
   refine aK (fun q=> ?_) (fun q=> ?_)
   . have q:(D.map.zones:Int)<=(z:Int):=of_decide_eq_true q
     refine⟨_,U,k1 ?_⟩
     rw[decide_eq_false (fun c=>by have:=c.2 z hm;lia)]
     rfl
   have q2:z<D.map.zones:=uZ q
   refine⟨_,U,_,U,_,_,U,U,⟨(by lia),(by lia),(by decide)⟩,_,_,U,U, ?_⟩
   dsimp only
   rw[mW,pB]
   refine⟨some (.int (z:Nat)), ?_,U, ?_⟩
   . have e:dX (zs.take (i+1)) 0=dX (zs.take i) 0|||2^z:=by
      unfold dX
      exact fM ez
     rw[e]
     rfl
   intro u hu
   rw[take_snoc ez]at hu
   rcases abq.mp hu with hu|hu
   . exact di u hu
   simp only[acT]at hu
   rw[hu]
   exact q2
 rintro σ H' ⟨o4,rfl,rfl,di⟩
 rw[cX,ac3]at di⊢
 rw[decide_eq_true (show zs≠[]/\∀z∈zs,z<D.map.zones from⟨q1,di⟩),acR]at k1 k2 k3
 rw[sk]at k3
 refine⟨_,U,f',dx,_,U,hi,U,_,U,_,U,f',fb,pl,tl,bs,ps,D, .these (dX zs 0),p,m,n,x,y,U,hF,ht,k1,k2,k3⟩
end
theorem zo{f n:Nat}(h:f<2^n):bl f<=n:=by
 unfold bl
 by_cases c:f=0
 . rw[if_pos c]
   exact abE _
 rw[if_neg c]
 exact(Nat.log2_lt c).mpr h
theorem WE{n:Nat}(h:n<=8):2^n<=256:=acI (n:=2) (by decide) h
theorem ym{l m:List Nat}:b9 (l++m)=b9 l++b9 m:=by unfold b9;rw[acX]
section
variable{P:Program}{w:World}{K:PySem.W.Frag}{mg:Str->Option Value}{base:Heap}{A:Ad}
def Hl(A:Ad):Sp:=fun vs H Q _=>∃(f fb pl:Addr)(bs:List Nat)(ps:List Addr)(D:Sw76.Desk)(z:Nat),vs=[.ref f, .int (z:Nat)]/\nM A H f fb pl bs ps D/\D.map.zones<=8/\z<2^D.map.zones/\z≠0/\∀H',ak H H'->Q (.bl (D.map.whole z)) H'
abbrev fR:Stmt:=inClass (top 34) 5
theorem cD:aB ["self","zones","reached","seen","fresh"] ["self","zones"] (ao fR):=sm
theorem oC{f:Addr}{fd:FuncData}(F:eH K "hangs_together" "Fares.hangs_together" fR f fd)(T:Txt K mg A)(dH:FnAt P w K mg base 1 "members" ["numbers"] lR):bq P w K mg base eD 2 f fd ["self","zones"] (Hl A):=by
 refine F.ok cD (fun vs H Q E h=> ?_) (fun dz Ar outer s H vs Q E hr h=> ?_)
 . obtain⟨_,_,_,_,_,_,_,rfl,_⟩:=h
   rfl
 obtain⟨f',fb,pl,bs,ps,D,z,rfl,hF,He,hz,Ul,k⟩:=h
 obtain⟨dx,hi⟩:=hF.ins
 obtain⟨a0,rest,hm⟩:=Ci Ul
 have h0:z.testBit a0=true:=mem_iff.mp (by rw[hm];simp)
 have Pk:∀j,z.testBit j=true->j<D.map.zones:=fun j hj=>by
  apply acp
  intro c
  rw[fx hz (by lia)]at hj
  cases hj
 have ha8:=Pk a0 h0
 have bz:bl z<=1000:=abk (zo hz) (by lia)
 refine⟨_,(ae (aC (i:=2) cD.nd rfl oi (bb (aa (aM ax (aO dH hr rfl (aa (pv 1) ag)) aj (fun _ _=>rfl)) ag)))
  (ae (aC (i:=3) cD.nd rfl oi (bA qH aj (aM ax (pv 2) aj (fun _ _=>rfl))))
  (ae (qF acZ (ay jF (aP aD (by rfl) T.dF ada (aa (pv 2) ag)) aj nk) (ae (aC (i:=4) cD.nd rfl oi (bA vz (bA vz (aM ax (ai (pv 0) rfl) (JT ac0 PySem.F.slot_list_pop PySem.F.type_list_pop Om (pv 2)) (fun _ _=>rfl)) (pv 1)) (cJ Oe (pv 3))))
  (ae (cF (k0 ac0 adf adg n9 (pv 2) (aa (aO dH hr rfl (aa (pv 4) ag)) ag)))
  (ah (qE (i:=3) cD.nd rfl oi (pv 4) Bx)))))
  (ah (aA (oN ku (pv 3) (pv 1) nk)))))), ?_⟩
 refine⟨_,U,z,U,bz,fun p hp=>⟨_,_,_,_,U,U,aW.of af,(c9 (n:=0) (v:= .int (a0:Nat)) (by rw[hm];rfl)),Ud,fun R hR=> ?_⟩⟩
 have s1:ak H (upd H p (.lst (b9 (mem z)))):=ak.upd hp
 have UE:H R=none:=s1.free hR
 have s2:ak H (upd (upd H p (.lst (b9 (mem z)))) R (.lst [V.int (a0:Nat)])):=ak.fy s1 UE
 have r2:(upd (upd H p (.lst (b9 (mem z)))) R (.lst [V.int (a0:Nat)])) R=some (.lst (b9 [a0])):=af
 generalize upd (upd H p (.lst (b9 (mem z)))) R (.lst [V.int (a0:Nat)])=H2 at s2 r2⊢
 refine⟨_,U,_,_,_,_,U,U,aW.of r2,(c9 (n:=0) (v:= .int (a0:Nat)) rfl),_,_,U,U,⟨(by lia),(by lia),(by decide)⟩, ?_⟩
 dsimp only
 rw[mW]
 refine⟨fun m σ H'=>∃(stack:List Nat)(seen:Nat)(o4:Option V),m=stack.length+(List.range D.map.zones).countP (fun j=> !seen.testBit j)/\m<=100/\σ=[some (.ref f'),some (.int (z:Nat)),some (.ref R),some (.int (seen:Nat)),o4]/\ak H H'/\H' R=some (.lst (b9 stack))/\Seen D.map z a0 stack seen,
  ⟨_,[a0],2^a0,none,rfl, ?_,rfl,s2,r2,Seen.start h0⟩, ?_⟩
 . have:=acq (p:=fun j=> !(2^a0).testBit j) (l:=List.range D.map.zones)
   rw[acL]at this
   show [a0].length+_<=100
   rw[ab1]
   lia
 rintro m σ H' ⟨stack,seen,o4,Sq,Ya,rfl,s3,r3,S⟩
 refine⟨_,U,_,_,U, .inl (aW.of r3),_,_,U,U,_,U, ?_⟩
 rw[cX]
 refine aK (fun q=> ?_) (fun q=> ?_)
 . have q:(0:Int)<(stack.length:Int):=of_decide_eq_true q
   have ir:stack≠[]:=fun e=>by rw[e]at q;simp at q
   obtain⟨Hm,i,rfl⟩:∃Hm i,stack=Hm++[i]:=⟨stack.dropLast,stack.getLast ir,(List.dropLast_concat_getLast ir).symm⟩
   have Sr:=S.LD i (by simp)
   have Yb:=Pk i (S.con i Sr).2
   have lb:i<bs.length:=by rw[hF.bo.len];exact Yb
   have Ss:(b9 (Hm++[i]))[(b9 (Hm++[i])).length-1]?=some (.int (i:Nat)):=by
    rw[cX,abX,ab1,Nat.add_sub_cancel]
    apply mX
    simp
   have Su:(b9 (Hm++[i])).dropLast=b9 Hm:=by
    rw[ym]
    show(b9 Hm++[V.int (i:Nat)]).dropLast=b9 Hm
    simp
   refine⟨fun ff H'=>∃m',m'<m/\∃(stack:List Nat)(seen:Nat)(o4:Option V),m'=stack.length+(List.range D.map.zones).countP (fun j=> !seen.testBit j)/\m'<=100/\ff=[some (.ref f'),some (.int (z:Nat)),some (.ref R),some (.int (seen:Nat)),o4]/\ak H H'/\H' R=some (.lst (b9 stack))/\Seen D.map z a0 stack seen,fun _ _ h=>h, ?_⟩
   have O5:fb≠R:=aw hF.bd UE
   refine⟨_,U,_,_,_,_,_,U,s3 _ _ hi,T.bI,T.fV,U,_,U, .inl ⟨U,_,aW.of r3⟩,R,_,_,U,U,r3,Ss,_,_,_,_,U,U,aW.of (by rw[au O5];exact s3 _ _ hF.bd),c9 (u4 lb),_,U,_,_,U,U,_,U,_,U,_,_,U,U, ?_⟩
   rw[Su]
   dsimp only
   rw[uI,D8]
   have Pj:∀j,(bs.getD i 0&&&z^^^(bs.getD i 0&&&z&&&seen)).testBit j=true↔(D.map.beside i j=true/\z.testBit j=true/\seen.testBit j=false):=fun j=>by
    rw[Nat.testBit_xor,acK,acK,acK,hF.bo.bit i j Yb]
    cases D.map.beside i j<;>cases z.testBit j<;>cases seen.testBit j<;>simp
   generalize(bs.getD i 0&&&z^^^(bs.getD i 0&&&z&&&seen))=fr at Pj⊢
   have Sv:fr<2^D.map.zones:=pd fun j hj=>Pk j ((Pj j).mp hj).2.1
   have MU:=Cf (n:=D.map.zones) (seen:=seen) (f:=fr) (fun j hj=>((Pj j).mp hj).2.2) Sv
   have r4:(upd H' R (.lst (b9 Hm))) R=some (.lst (b9 Hm)):=af
   have s4:ak H (upd H' R (.lst (b9 Hm))):=ak.fy s3 UE
   generalize upd H' R (.lst (b9 Hm))=H4 at s4 r4⊢
   rw[abX,ab1]at Sq
   refine⟨_,U, .inl ⟨U,_,aW.of r4⟩,_,U,fr,U,abk (zo Sv) (by lia),fun p' Lw=> ?_⟩
   have n4:R≠p':=aw r4 Lw
   refine⟨R,p',_,_,U,U,(by rw[au n4];exact r4),af, ?_, ?_⟩
   . rw[cX,cX]
     exact abk (show Hm.length+(mem fr).length<=100 by lia) (by decide)
   refine⟨_,U,_,U,_,_,U,U, ?_⟩
   dsimp only
   rw[pB,<-ym]
   refine⟨_, ?_,Hm++mem fr,seen|||fr,some (.int (fr:Nat)),U, ?_,U, ?_,af,S.turn (b:=0) hz Pj⟩
   . rw[abX]
     lia
   . rw[abX]
     lia
   exact ak.fy (ak.fy s4 (s4.free Lw)) UE
 have ir:stack=[]:=by
  cases stack with
  |nil=>rfl
  |cons a l=>
   exfalso
   apply q
   apply decide_eq_true
   show(0:Int)<(((a::l).length:Nat):Int)
   rw[abG]
   lia
 subst ir
 refine⟨_,U,_,U,U, ?_⟩
 have e:decide (V.int (seen:Int)=V.int (z:Int))=D.map.whole z:=by
  rw[<-S.done hz hm]
  by_cases c:seen=z
  . rw[c]
    simp
  rw[decide_eq_false c,decide_eq_false]
  intro q
  injection q with q
  lia
 rw[e]
 exact k H' s3
end
noncomputable def UG(X:Cx):Cx:={X with A:=X.A.in1.in1,xe:=fun _ _=>False}
section
variable{X:Cx}{pins:List (Addr×Obj)}{σ:L2.St}{H:Hp}{s:Shared}
theorem Pl(ok:X.Ok):(UG X).Ok:=⟨ok.mod,ok.kind,ok.glob,ok.blt,ok.above,ok.inj,ok.has,ok.Qy,ok.hd,ok.frames,ok.LD,ok.Q1,ok.bs,ok.Jv,ok.EZ,ok.HG,ok.vx,ok.Nq⟩
theorem Pn(I:Inv X pins σ H s):Inv (UG X) pins σ H s:=⟨Pl I.ok,I.os,I.bare,I.base,I.loc,I.cell,I.free,I.nZ,I.pin,I.dD,I.len⟩
theorem MV(ok:X.Ok)(I:Inv (UG X) pins σ H s):Inv X pins σ H s:=⟨ok,I.os,I.bare,I.base,I.loc,I.cell,I.free,I.nZ,I.pin,I.dD,I.len⟩
theorem Po{h:Heap}{L:Addr}{m m':Str->Option Value}(a:h.Ns L m)(b:h.Ns L m'):m=m':=by
 obtain⟨o,es,ep,e1,e2,_,e3⟩:=a
 obtain⟨o',T1,T2,f1,f2,_,f3⟩:=b
 rw[e1]at f1
 cases f1
 rw[e2]at f2
 cases f2
 funext x
 rw[<-e3,f3]
theorem IJ{h':Heap}{t':Nat}{ch:List Addr}{T:Addr}{ob:HO}(I:Inv X pins σ H s)(k:∀b o,b≠X.env.locals->b∉ch->s.heap.get? b=some o->h'.get? b=some o)(kn:∀m,s.heap.Ns X.env.locals m->h'.Ns X.env.locals m)(hf:∀b∈ch,n6 X pins H b)(hT:T∈ch)
 (new:i4 X.prog X.w (upd H T ob) h' T ob):Inv X pins σ (upd H T ob) {s with heap:=h',toks:=t'}:=by
 have hn:H T=none:=(hf T hT).1
 have Jw:∀b u,H b=some u->b∉ch:=fun b u e z=>by
  have q:=(hf b z).1
  rw[q]at e;cases e
 have nL:∀b u,H b=some u->b≠X.env.locals:=fun b u e z=>by
  rw[z,I.free]at e;cases e
 refine I.step (g':=s.gens) (d':=s.drawn) (ch:=ch) (fun b hb=>⟨(hf b hb).2.2.2.1,(hf b hb).2.1,(hf b hb).2.2.2.2.1,(hf b hb).2.2.2.2.2⟩) (fun b o hL _ hc e _=>k b o hL hc e) (fun b o hL _ hc e _=>⟨o.slots,k b o hL hc e⟩)
  (fun b o hc e n=> ?_) (fun b o hc e=> ?_) (fun b xs e=> ?_) (fun b o u e=> ?_) (fun b ps e=>⟨#[], ?_⟩) kn (fun b u e=> ?_) I.bare
 . rw[au (fun z=>hc (by rw[z];exact hT))];exact n
 . by_cases z:b=X.env.locals
   . subst z
     obtain⟨m,hm,_⟩:=I.loc
     obtain⟨o',_,_,Jm,_⟩:=kn m hm
     exact⟨o',Jm⟩
   exact⟨o,k b o z hc e⟩
 . rw[au (aw e hn)];exact e
 . rw[au (aw e hn)];exact e
 . rw[au (aw e hn),e];simp
 by_cases hb:b=T
 . subst hb
   rw[af]at e
   cases e
   exact new
 rw[au hb]at e
 refine(I.dD b u e).uh (fun c v hc q=>k c v ?_ ?_ q) (fun c q=>by rw[au (aw q hn)];exact q) fun c xs q=>by rw[au (aw q hn)];exact q
 . rcases hc with z|z
   . rw[z];exact nL b u e
   exact nL c _ z
 rcases hc with z|z
 . rw[z];exact Jw b u e
 exact Jw c _ z
end
def NL(g h:Heap)(L a b:Addr):List (Addr×Obj):=(xU g h L).filter fun p=>decide (p.1≠a/\p.1≠b)
theorem KU{ns:List Int}{bp out:List Value}{g:Int->Int}(hi:IntsAre bp ns)(ko:KskOutSt false (ns.map g) bp out):∃vw:List Int,IntsAre out vw/\vw.Perm ns/\vw.Pairwise (fun x y=>g x<=g y):=by
 obtain⟨ps,hp,ho,hs,_⟩:=ko
 have ez:(ns.map g).zip bp=bp.map fun v=>(g (numOf v),v):=by
  have:=List.zip_map' (f:=fun v=>g (numOf v)) (g:=fun v=>v) (l:=bp)
  rw[List.map_id']at this
  rw[<-this,<-hi.nums,acm]
  rfl
 rw[ez]at hp
 have Pp:∀p∈ps,p.1=g (numOf p.2)/\p.2∈bp:=fun p h=>by
  obtain⟨v,hv,rfl⟩:=ab8.mp (hp.mem_iff.mp h)
  exact⟨U,hv⟩
 refine⟨(ps.map Prod.snd).map numOf, ?_, ?_, ?_⟩
 . rw[ho]
   exact intsAre_map _ fun v hv=>by
    obtain⟨p,Lw,rfl⟩:=ab8.mp hv
    exact hi.all _ (Pp p Lw).2
 . have h1:=(hp.map Prod.snd).map numOf
   have e:(bp.map fun v=>(g (numOf v),v)).map Prod.snd=bp:=by
    rw[acm]
    exact List.map_id bp
   rw[e,hi.nums]at h1
   exact h1
 rw[List.pairwise_map,List.pairwise_map]
 refine hs.imp_of_mem fun{p q}Lw Og hr=> ?_
 have Yc:p.1<=q.1:=by simpa using hr
 rw[(Pp p Lw).1,(Pp q Og).1]at Yc
 exact Yc
theorem Hn{X:Cx}{pins:List (Addr×Obj)}{H:Hp}{b:Addr}(ok:X.Ok)(h:n6 X pins H b):X.base.get? b=none:=by
 cases e:X.base.get? b with
 |none=>rfl
 |some o=>
  exfalso
  rcases h.2.2.2.1 with z|z
  . exact ok.EZ b o e z
  exact absurd (abe (abd (ok.bs b o e).1) z) (abf _)
theorem KW{X:Cx}{pins:List (Addr×Obj)}{H H':Hp}{b:Addr}(h:n6 X pins H b)(hn:H' b=none):n6 X pins H' b:=⟨hn,h.2⟩
theorem FX{X:Cx}{pins:List (Addr×Obj)}{σ:L2.St}{H:Hp}{s:Shared}{f:Addr}{fd:FuncData}{k:Nat}{ps:List Str}{sp:Sp}{P:PySem.Fin->Shared->Prop}{E:Value->Shared->Prop}(F:bq X.prog X.w X.K X.mg X.base eD k f fd ps sp)(hb:Binds X.K fd ps [])(hr:gg (k+2) X.A)
 {a kS:Addr} {e1:Nat} (I:Inv X (pins++[(kS,seqObj "list" #[] 0),(a,seqObj "list" #[] e1)]) σ H s) (fk:n6 X pins H kS) (fa:n6 X pins H a) (Yd:kS≠a)
 {bp:List Value} {ns:List Int} {g:Int->Int} (hi:IntsAre bp ns) (hZ:bp.length<=sizeLine)
 (turn:∀n∈ns,∀H',ak H H'->∀Q':VK,(∀IK,ak H' IK->Q' (.int (g n)) IK)->sp [.int n] H' Q' E0)
 (done:∀(vw:List Int)(H':Hp)(s':Shared),vw.Perm ns->vw.Pairwise (fun x y=>g x<=g y)->ak H H'->H' a=some (.lst (vw.map V.int))->Inv X pins σ H' s'->P (.done (.ret .none)) s'):
 wpAny (model X.prog X.w) X.A.in1.in1 (ksk_rest a (.ref f) false bp.toArray e1 (.ref kS)) P E s:=by
 have hlen:bp.length=ns.length:=hi.length
 have ZP:bp.length<=16777216:=by
  have q:=hZ
  rwa[sizeLine_eq]at q
 unfold ksk_rest
 refine wpAny_bind (wpAny_rule ?_)
 first
  |rw[List.forIn_toArray]
  |(rw[<-Array.forIn_toList];simp only[List.toList_toArray])
  |rw[<-Array.forIn_toList]
 refine wpAny_bind (ksk_fold (fun i s'=>∃H' kA e,Inv X (pins++[(kS,seqObj "list" kA e),(a,seqObj "list" #[] e1)]) σ H' s'/\ak H H'/\IntsAre kA.toList ((ns.map g).take i)) bp 0 s
  ⟨H, #[],0,I,fun _ _ h=>h,by simpa using IntsAre.nil⟩ ?step ?done)
 case step=>
  rintro j x s' hx ⟨H',kA,e,I',S',hk⟩
  simp only[Nat.zero_add]at hk⊢
  have hj:j<bp.length:=(abt.mp hx).1
  have hn:=acf (show j<ns.length by lia)
  generalize ns[j]=n at hn
  obtain⟨t,Sw⟩:=hi.get j n hn
  rw[Sw]at hx
  cases hx
  have atK:(ns.map g)[j]?=some (g n):=by rw[abV,hn];rfl
  have hz:kA.size<=bp.length:=by
   have h1:=hk.length
   rw[abw,abR,abI]at h1
   lia
  have KY:=yB (X:=UG X) (CX:=eD) (E:=E0) (dvs:=[]) (ds:=[]) (us:=[.int n t]) (vs:=[.int n]) F hr.in1.in1 hb .nil Bf (Pn I') (.cons ⟨t,rfl⟩ .nil)
   (turn n (abW hn) H' S' (fun v IK=>v= .int (g n)/\ak H IK) fun IK ZQ=>⟨rfl,S'.trans ZQ⟩)
  refine wpAny_bind (wpAny_attempt (wpAny_mono KY (fun v Nu he=> ?_) fun _ _ hF=>hF.elim))
  obtain⟨v',IK,I2,rv,rfl,S2⟩:=he
  obtain⟨t2,rfl⟩:=rv
  have I2:=MV I.ok I2
  try dsimp only
  have zq:=I2.pin (kS,seqObj "list" kA e) (abD _ (abD _ (.head _)))
  have FY:=I2.pin (a,seqObj "list" #[] e1) (abD _ (abD _ (.tail _ (.head _))))
  have s1:=Heap.SameBut.update Nu.heap kS (Obj.mapSeq (·.push (.int (g n) t2)))
  obtain⟨WG,WH⟩:∃WG,(Nu.heap.update kS (Obj.mapSeq (·.push (.int (g n) t2)))).get? kS=some (seqObj "list" (kA.push (.int (g n) t2)) WG):=⟨_,get?_update_seq zq.1 (·.push (.int (g n) t2))⟩
  have Sx:(ns.map g).take (j+1)=(ns.map g).take j++[g n]:=by rw[List.take_add_one,atK];simp
  have Sy:(kA.push (Value.int (g n) t2)).toList=kA.toList++[Value.int (g n) t2]:=by simp
  refine wpAny_bind (listUpdate_at zq.1 rfl ?_ (by rw[sizeLine_eq];lia) (abk (abK (Array.size_push ..)) (by rw[sizeLine_eq];lia)))
  refine wpAny_pure ⟨rfl,IK,kA.push (.int (g n) t2),WG, ?_,S2,by rw[Sy,Sx];exact ksk_snoc hk⟩
  have I3:=(I2.n8).L5 (ch:=[kS]) (h':=Nu.heap.update kS (Obj.mapSeq (·.push (.int (g n) t2)))) (t':=Nu.toks) (fun b o hc e=>(s1.2 b (by simpa using hc)).trans e) (fun b Ow=>by
   have:b=kS:=by simpa using Ow
   subst this
   exact KW fk zq.2.1)
  refine I3.xV fun p hp=> ?_
  rcases abq.mp hp with hp|hp
  . exact I3.pin p (abD _ hp)
  rcases abo.mp hp with rfl|hp
  . exact⟨WH,zq.2.1,zq.2.2.1,zq.2.2.2.1,fun v q=>by cases q⟩
  rw[acT.mp hp]
  exact⟨(s1.2 a Yd.symm).trans FY.1,FY.2⟩
 case done=>
  rintro s' ⟨H',kA,e,I',S',hk⟩
  have Ou:IntsAre kA.toList (ns.map g):=by
   have e3:(ns.map g).take (0+bp.length)=ns.map g:=ac4 (by rw[abI];lia)
   rw[e3]at hk
   exact hk
  have zq:=I'.pin (kS,seqObj "list" kA e) (abD _ (abD _ (.head _)))
  have FY:=I'.pin (a,seqObj "list" #[] e1) (abD _ (abD _ (.tail _ (.head _))))
  try dsimp only
  refine wpAny_bind (listItems_at zq.1 rfl ?_)
  obtain⟨m,Fm⟩:=I'.fr
  have hN:∀p∈NL X.base s'.heap X.env.locals kS a,p.1≠kS/\p.1≠a:=fun p hp=>of_decide_eq_true (abh.mp hp).2
  refine ksk_end_St (kz:=ns.map g) (e:=e) (news:=NL X.base s'.heap X.env.locals kS a) Fm (fun p hp=> ?_) Yd (fun p hp=>(hN p hp).1) (fun p hp=>(hN p hp).2) Ou (by rw[abI];lia) hZ fun h3 ZR out c F3 N3 k3=> ?_
  . rcases abq.mp hp with hp|hp
    . exact Jt p (abh.mp hp).1
    rcases abo.mp hp with rfl|hp
    . exact⟨zq.1,zq.2.2.1,Hn I.ok fk⟩
    rw[acT.mp hp]
    exact⟨FY.1,FY.2.2.1,Hn I.ok fa⟩
  obtain⟨vw,i',p',o'⟩:=KU hi k3
  have ho:=(N3 (a,seqObj "list" out c) (.head _)).1
  have UY:(vw.map V.int).length<=sizeLine:=by
   rw[abI,p'.length_eq,<-hlen]
   exact hZ
  have I5:=IJ (h':=h3) (t':=ZR) (ch:=[kS,a]) (T:=a) (ob:= .lst (vw.map V.int)) I'.n8 (fun b o hL hc he=> ?_) (fun m' Uq=> ?_) (fun b Ow=> ?_) (by simp) ⟨UY,out.toList,c,um i',ho⟩
  . exact done vw _ _ p' o' (fun b u hu=>by rw[au (aw (S' b u hu) FY.2.1)];exact S' b u hu) af I5
  . cases q:X.base.get? b with
    |some u=>
     have:=I'.bk b u q
     rw[he]at this;cases this
     exact F3.keep b _ q
    |none=>
     have C8:b≠kS:=fun z=>hc (by simp[z])
     have WH:b≠a:=fun z=>hc (by simp[z])
     exact(N3 (b,o) (.tail _ (abh.mpr ⟨Df hL q he,decide_eq_true ⟨C8,WH⟩⟩))).1
  . rw[Po Uq Fm.ns]
    exact F3.ns
  rcases abo.mp Ow with rfl|Ow
  . exact KW fk zq.2.1
  rw[acT.mp Ow]
  exact KW fa FY.2.1
theorem FZ{X:Cx}{pins:List (Addr×Obj)}{σ:L2.St}{H:Hp}{s:Shared}{f:Addr}{fd:FuncData}{k:Nat}{ps:List Str}{sp:Sp}{Q:VK}(F:bq X.prog X.w X.K X.mg X.base eD k f fd ps sp)(hb:Binds X.K fd ps [])(hr:gg (k+2) X.A)(I:Inv X pins σ H s)
 {l:Addr} {ns:List Int} {g:Int->Int} (hl:aW X.K H l (ns.map V.int))
 (turn:∀n∈ns,∀H',ak H H'->∀Q':VK,(∀IK,ak H' IK->Q' (.int (g n)) IK)->sp [.int n] H' Q' E0)
 (done:∀(vw:List Int)(D:Addr)(H':Hp),vw.Perm ns->vw.Pairwise (fun x y=>g x<=g y)->ak H H'->H D=none->H' D=some (.lst (vw.map V.int))->Q (.ref D) H'):
 wpAny (model X.prog X.w) X.A (call (.builtin "sorted") [.ref l] [(Str.ofString "key", .ref f)]) (EP X pins σ Q) X.xe s:=by
 obtain⟨bp,rv,pl,hz⟩:=I.list hl
 have hi:IntsAre bp ns:=rv.ints
 have hlen:bp.length=ns.length:=hi.length
 have hZ:bp.length<=sizeLine:=by rw[<-rv.length];exact hz
 have ZP:bp.length<=16777216:=by
  have q:=hZ
  rwa[sizeLine_eq]at q
 refine call_function_entry_kw kind_sorted plain_sorted entry_sorted (ksk_s1 _ _) ?_
 unfold Builtin.«sorted»
 refine wpAny_bind (m:=checkCount "sorted" 1 1 _) (wpAny_pure ?_)
 refine wpAny_bind (collect_list pl.isList ?_ (by rw[sizeLine_eq];lia))
 refine wpAny_bind (wpAny_newList ?_ (by rw[sizeLine_eq];lia))
 have WI:((s.heap.push (seqObj "list" #[] 0)).update s.heap.objs.size (Obj.mapSeq (· ++bp.toArray))).objs.size=s.heap.objs.size+1:=by
  rw[Heap.size_update,size_push']
 have Pq:(((s.heap.push (seqObj "list" #[] 0)).update s.heap.objs.size (Obj.mapSeq (· ++bp.toArray))).push (seqObj "list" bp.toArray 0)).get? (s.heap.objs.size+1)=some (seqObj "list" bp.toArray 0):=by
  rw[<-WI];exact abA _ rfl
 have old:∀b o,s.heap.get? b=some o->(((s.heap.push (seqObj "list" #[] 0)).update s.heap.objs.size (Obj.mapSeq (· ++bp.toArray))).push (seqObj "list" bp.toArray 0)).get? b=some o:=fun b o q=>by
  have WJ:b<s.heap.objs.size:=abd q
  rw[Heap.get?_push_ne _ _ _ (by rw[WI];exact abg (ab5 WJ)),Heap.get?_update_ne _ _ _ _ (abg WJ),Heap.get?_push_ne _ _ _ (abg WJ)]
  exact q
 show wpAny _ _ _ _ _ {s with heap:=((s.heap.push (seqObj "list" #[] 0)).update s.heap.objs.size (Obj.mapSeq (· ++bp.toArray))).push (seqObj "list" bp.toArray 0)}
 rw[WI]
 have hD:s.heap.objs.size<=s.heap.objs.size+1:=abO _
 generalize s.heap.objs.size+1=D at Pq hD⊢
 generalize((s.heap.push (seqObj "list" #[] 0)).update s.heap.objs.size (Obj.mapSeq (· ++bp.toArray))).push (seqObj "list" bp.toArray 0)=h1 at Pq old⊢
 refine wpAny_bind (wpAny_holding (wpAny_call_entry_kw slot_list_sort ⟨_,Pq,rfl⟩ entry_list_sort ?body (ksk_l1 _ _)))
 show wpAny (model X.prog X.w) X.A.in1.in1 (Builtin.«list.sort» ⟨[.ref D],[(Str.ofString "key", .ref f)]⟩) _ _ _
 rw[ksk_t1]
 have s1:=Heap.SameBut.update h1 D (Obj.mapSeq fun _=>(#[]:Array Value))
 obtain⟨e1,Sz⟩:∃e1,(h1.update D (Obj.mapSeq fun _=>(#[]:Array Value))).get? D=some (seqObj "list" #[] e1):=⟨_,get?_update_seq Pq fun _=> #[]⟩
 have ZS:((h1.update D (Obj.mapSeq fun _=>(#[]:Array Value))).push (seqObj "tuple" bp.toArray 0)).objs.size=h1.objs.size+1:=by rw[size_push',Heap.size_update]
 have Ye:D<h1.objs.size:=abd Pq
 have Yf:s.heap.objs.size<=h1.objs.size:=abk hD (Nat.le_of_lt Ye)
 unfold ksk_tree
 refine wpAny_bind (listItems_at Pq rfl ?_)
 refine wpAny_bind (listUpdate_at Pq rfl ?_ (by rw[abZ,sizeLine_eq];lia) (abE _))
 refine wpAny_bind (seqEpoch_at Sz rfl ?_)
 refine wpAny_bind (wpAny_newTuple ?_ (by show bp.length<=_;rw[sizeLine_eq];lia))
 refine wpAny_bind (wpAny_newList ?_ (abE _))
 refine wpAny_holding ?_
 show wpAny _ _ (ksk_rest D (.ref f) false bp.toArray e1 (.ref ((h1.update D (Obj.mapSeq fun _=>(#[]:Array Value))).push (seqObj "tuple" bp.toArray 0)).objs.size)) _ _ {s with heap:=((h1.update D (Obj.mapSeq fun _=>(#[]:Array Value))).push (seqObj "tuple" bp.toArray 0)).push (seqObj "list" #[] 0)}
 have oldK:∀b o,s.heap.get? b=some o->(((h1.update D (Obj.mapSeq fun _=>(#[]:Array Value))).push (seqObj "tuple" bp.toArray 0)).push (seqObj "list" #[] 0)).get? b=some o:=fun b o q=>by
  have ir:b≠D:=abg (abe (abd q) hD)
  exact abz _ (abz _ ((s1.2 b ir).trans (old b o q)))
 have I2:=I.kept (h':=((h1.update D (Obj.mapSeq fun _=>(#[]:Array Value))).push (seqObj "tuple" bp.toArray 0)).push (seqObj "list" #[] 0)) (t':=s.toks) oldK
 have g1:(((h1.update D (Obj.mapSeq fun _=>(#[]:Array Value))).push (seqObj "tuple" bp.toArray 0)).push (seqObj "list" #[] 0)).get? ((h1.update D (Obj.mapSeq fun _=>(#[]:Array Value))).push (seqObj "tuple" bp.toArray 0)).objs.size=some (seqObj "list" #[] 0):=abA _ rfl
 have g2:(((h1.update D (Obj.mapSeq fun _=>(#[]:Array Value))).push (seqObj "tuple" bp.toArray 0)).push (seqObj "list" #[] 0)).get? D=some (seqObj "list" #[] e1):=abz _ (abz _ Sz)
 generalize((h1.update D (Obj.mapSeq fun _=>(#[]:Array Value))).push (seqObj "tuple" bp.toArray 0)).push (seqObj "list" #[] 0)=h2 at I2 g1 g2⊢
 rw[ZS]at g1⊢
 have fk:n6 X pins H (h1.objs.size+1):=I.Dj (Nat.le_succ_of_le Yf) (I.dD.fresh (Nat.le_succ_of_le Yf))
 have fa:n6 X pins H D:=I.Dj hD (I.dD.fresh hD)
 refine FX (a:=D) (kS:=h1.objs.size+1) (e1:=e1) (pins:=pins) F hb hr (I2.xV fun p hp=> ?_) fk fa (Nat.ne_of_gt (ab5 Ye)) hi hZ turn fun vw H' s' p1 p2 S' SA I'=>⟨_,rfl, ?_⟩
 . rcases abq.mp hp with hp|hp
   . exact I2.pin p (abD _ hp)
   rcases abo.mp hp with rfl|hp
   . exact⟨g1,fk.1,fk.2.1,fk.2.2.1,fun v q=>by cases q⟩
   rw[acT.mp hp]
   exact⟨g2,fa.1,fa.2.1,fa.2.2.1,fun v q=>by cases q⟩
 exact wpAny_pure ⟨_,rfl,⟨.ref D,H',I',rfl,done vw D H' p1 p2 S' fa.1 SA⟩⟩
def Pt(K:PySem.W.Frag)(sp:Sp)(ta:TA):TE:=fun σ H Q=>ta σ H fun vs H1=>∃(a:Addr)(ns:List Int)(g:Int->Int),vs=[.ref a]/\aW K H1 a (ns.map V.int)/\
 (∀n∈ns,∀H',ak H1 H'->∀Q':VK,(∀IK,ak H' IK->Q' (.int (g n)) IK)->sp [.int n] H' Q' E0)/\
 ∀(vw:List Int)(D:Addr)(H':Hp),vw.Perm ns->vw.Pairwise (fun x y=>g x<=g y)->ak H1 H'->H1 D=none->H' D=some (.lst (vw.map V.int))->Q (.ref D) H'
theorem CO:bootBuiltins "sorted"=some (.builtin "sorted"):=by decide+kernel
theorem KZ{X:Cx}{k j:Nat}{kf:Str}{ps:List Str}{sp:Sp}{e:Expr}{ta:TA}{p pos kp Ff:Pos}(F:FnAt X.prog X.w X.K X.mg X.base k kf ps sp)(hr:gg j X.A)(hg:Gl X "sorted")(hm:X.mg "sorted"=none)(ZT:Gl X kf)(ha:PA X [e] ta)
 (Ho:(kf==("__debug__":Str))=false:=by decide) (Mu:k+2<=j:=by decide)
 (ZU:(backToKw pos (keywordEach [⟨some (Str.ofString "key"), .Name kf kp,Ff⟩] X.env)).filterMap (·.1)=[Str.ofString "key"]:=by rfl)
 (ZV:backTo pos (starEach [e] X.env)=(false,eval e X.env)::backTo pos (starEach [] X.env):=by rfl)
 (Fj:(backTo pos (starEach [e] X.env)).any (·.1)=false:=by rfl)
 (tE:(backToKw pos (keywordEach [⟨some (Str.ofString "key"), .Name kf kp,Ff⟩] X.env)).all (·.1.isSome)=true:=by rfl)
 (KJ:(backToKw pos (keywordEach [⟨some (Str.ofString "key"), .Name kf kp,Ff⟩] X.env)).any (·.1.isNone)=false:=by rfl):
 PE X (.Call (.Name "sorted" p) [e] [⟨some (Str.ofString "key"), .Name kf kp,Ff⟩] pos) (Pt X.K sp ta):=by
 intro pins s σ H Q I h
 obtain⟨f,fd,F,ZW,hkf,hb⟩:=F.ex
 refine wpAny_Call_Name_kw (qz I hg hm CO ?_)
 refine callWith_kw (env:=X.env) ?_ ZV Fj tE KJ
 refine eO (ha pos pins s σ H _ I h) fun us s1⟨vs,H1,I1,r1,q1⟩=> ?_
 obtain⟨a,ns,g,rfl,h1,h2,h3⟩:=q1
 have hk:PK X [⟨some (Str.ofString "key"), .Name kf kp,Ff⟩] (cK (tC (.ref f)) lW):=LU (B1 ZT ZW (show RelV (.ref f) (.ref f)from rfl) Ho) Oh
 refine eO (hk pos pins s1 σ H1 (fun vs H2=>vs=[.ref f]/\H2=H1) I1 ⟨rfl,rfl⟩) fun ws s2⟨zs,H2,I2,r2,q2⟩=> ?_
 obtain⟨rfl,rfl⟩:=q2
 rw[ZU,Vals.L0 r1,Vals.L0 r2]
 exact FZ F hb (hr.mono Mu) I2 h1 h2 h3
def cnt(x:Int):Int:=((mem x.toNat).length:Nat)
noncomputable def Js(js:List Nat):List Int:=js.map fun n=>((n:Nat):Int)
theorem CP{js:List Nat}:b9 js=(Js js).map V.int:=by
 unfold b9 Js
 rw[acm]
 rfl
theorem K0{ns:List Int}{js:List Nat}(h:ns.Perm (Js js)):ns.map V.int=b9 (ns.map Int.toNat)/\(ns.map Int.toNat).Perm js:=by
 constructor
 . unfold b9
   rw[acm]
   apply acn
   intro n hn
   obtain⟨j,_,rfl⟩:=ab8.mp (h.mem_iff.mp hn)
   rfl
 have:=h.map Int.toNat
 have e:(Js js).map Int.toNat=js:=by
  unfold Js
  rw[acm]
  exact List.map_id'' (fun _=>rfl) js
 rw[e]at this
 exact this
noncomputable def mZ(m:Sw76.Map)(i:Nat):List Nat:=(List.range' 1 i).filter fun t=>m.whole t
theorem CQ{m:Sw76.Map}{i:Nat}:mZ m (i+1)=mZ m i++(if m.whole (1+i)=true then [1+i]else []):=by
 unfold mZ
 rw[List.range'_1_concat,acJ,acP,List.filter_nil]
theorem El{m:Sw76.Map}{i:Nat}:(mZ m i).length<=i:=by
 unfold mZ
 refine abk (acN _ _) ?_
 rw[List.length_range']
 exact abB _
section
variable{P:Program}{w:World}{K:PySem.W.Frag}{mg:Str->Option Value}{base:Heap}{A:Ad}
def Em(A:Ad):Sp:=fun vs H Q _=>∃(f fb pl:Addr)(bs:List Nat)(ps:List Addr)(D:Sw76.Desk),vs=[.ref f]/\nM A H f fb pl bs ps D/\D.map.zones<=8/\
 ∀(H':Hp)(jl:Addr)(js:List Nat),ak H H'->H jl=none->H' jl=some (.lst (b9 js))->(∀t,t∈js↔t≠0/\t<2^D.map.zones/\D.map.whole t=true)->js.Pairwise (fun a b=>(mem a).length<=(mem b).length)->Q (.ref jl) H'
abbrev h9:Stmt:=inClass (top 34) 6
theorem gL:aB ["self","joined","zones"] ["self"] (ao h9):=sm
theorem rH{f:Addr}{fd:FuncData}(F:eH K "joined_sets" "Fares.joined_sets" h9 f fd)(T:Txt K mg A)(fS:MethAt P w K mg base 2 A.c7 "hangs_together" ["self","zones"] (Hl A))(fG:FnAt P w K mg base 2 "member_count" ["numbers"] CN):bq P w K mg base eD 5 f fd ["self"] (Em A):=by
 refine F.ok gL (fun vs H Q E h=> ?_) (fun dz Ar outer s H vs Q E hr h=> ?_)
 . obtain⟨_,_,_,_,_,_,rfl,_⟩:=h
   rfl
 obtain⟨f',fb,pl,bs,ps,D,rfl,hF,He,k⟩:=h
 obtain⟨dx,hi⟩:=hF.ins
 have SD:=WE He
 have nF:0<2^D.map.zones:=acH _
 refine⟨_,(ae (lZ (i:=1) rfl gL.nd rfl rfl rfl (r8 rfl T.pq (aa aj (aa (bA qH aj (ai (pv 0) rfl)) ag))) (ee (own:=[("zones",2)]) (by rfl)) (fun _ _ _ _ _=>(aX (i:=2) gL.nd rfl oi)) (fun _ _ _ _ _=>B6 (lU (bB (pv 0) fS hr (aa (pv 2) ag)))) (fun _ _ _ _ _=>(pv 2)))
  (ah (aA (KZ fG hr rfl T.Kq rfl (aa (pv 1) ag))))), ?_⟩
 refine⟨_,U,_,_,_,_,_,U,hi,T.bI,T.fY,U,_,_,U,U,⟨(by lia),(by lia),(by decide)⟩, ?_⟩
 dsimp only
 rw[mW]
 generalize hN:2^D.map.zones=N at SD nF k⊢
 refine⟨_,_,U,⟨(by lia),(by lia),(by lia),(by lia)⟩, ?_⟩
 intro jl UH
 have en:((N:Int)-1).toNat=N-1:=by lia
 rw[en]
 refine yE (fun i H'=>ak H H'/\H' jl=some (.lst (b9 (mZ D.map i)))) ⟨ak.upd UH,af⟩ ?_ ?_
 . rintro i H' di ⟨s1,h1⟩
   rw[show(1:Int)+(i:Int)=((1+i:Nat):Int) by lia]
   refine⟨U,_,U,f',dx,_,U,s1 _ _ hi,U,_,U,f',fb,pl,bs,ps,D,1+i,U,hF.same s1,He,(by rw[hN];lia),(by lia),fun H2 s2=>⟨_,U, ?_⟩⟩
   rw[CQ]
   have h2:=s2 _ _ h1
   refine aK (fun c=> ?_) (fun c=> ?_)
   . refine⟨_,U,_,h2, ?_,ak.fy (s1.trans s2) UH, ?_⟩
     . rw[cX]
       have:=El (m:=D.map) (i:=i)
       exact acW (show _<=256 by lia) (by decide)
     rw[af,if_pos c,ym]
     rfl
   rw[if_neg c,abM]
   exact⟨s1.trans s2,h2⟩
 rintro H1 ⟨s1,h1⟩
 rw[CP]at h1
 refine⟨_,U,jl,Js (mZ D.map (N-1)),cnt,U,aW.of h1,fun n hn H2 s2 Q' q=> ?_,fun vw J H2 p1 p2 s2 hJ Yg=> ?_⟩
 . obtain⟨t,ht,rfl⟩:=ab8.mp hn
   have Sw:=(acO.mp (abh.mp ht).1).2
   exact⟨t,U,abk (zo (n:=8) (show t<2^8 by lia)) (by lia),fun p hp=>q _ (ak.upd hp)⟩
 obtain⟨e1,e2⟩:=K0 p1
 rw[e1]at Yg
 refine k H2 J _ (s1.trans s2) (s1.free hJ) Yg (fun t=> ?_) ?_
 . rw[e2.mem_iff]
   unfold mZ
   rw[abh,acO]
   constructor
   . rintro⟨⟨a,b⟩,c⟩
     exact⟨by lia,by lia,c⟩
   rintro⟨a,b,c⟩
   exact⟨⟨by lia,by lia⟩,c⟩
 rw[List.pairwise_map]
 refine p2.imp fun{a b}h=> ?_
 unfold cnt at h
 lia
end
end Td
namespace Td
open PySem PySem.Spec PyProof.Rows L2
theorem En:∀{l:List Int},l≠[]->minOf l∈l/\∀y∈l,minOf l<=y
 |[],h=>(h rfl).elim
 |[a],_=>⟨by simp[minOf],fun y hy=>by simp at hy;subst hy;exact acu _⟩
 |a::b::l,_=>by
  obtain⟨h1,h2⟩:=En (l:=b::l) (by simp)
  have e:minOf (a::b::l)=min a (minOf (b::l)):=rfl
  rw[e]
  refine⟨?_,fun y hy=> ?_⟩
  . by_cases c:a<=minOf (b::l)
    . rw[Int.min_eq_left c]
      simp
    rw[Int.min_eq_right (by lia)]
    exact abn _ h1
  rcases abo.mp hy with rfl|hy
  . lia
  have:=h2 y hy
  lia
theorem Eo:∀{l:List Int},l≠[]->maxOf l∈l/\∀y∈l,y<=maxOf l
 |[],h=>(h rfl).elim
 |[a],_=>⟨by simp[maxOf],fun y hy=>by simp at hy;subst hy;exact acu _⟩
 |a::b::l,_=>by
  obtain⟨h1,h2⟩:=Eo (l:=b::l) (by simp)
  have e:maxOf (a::b::l)=max a (maxOf (b::l)):=rfl
  rw[e]
  refine⟨?_,fun y hy=> ?_⟩
  . by_cases c:maxOf (b::l)<=a
    . rw[Int.max_eq_left c]
      simp
    rw[Int.max_eq_right (by lia)]
    exact abn _ h1
  rcases abo.mp hy with rfl|hy
  . lia
  have:=h2 y hy
  lia
theorem MW{l:List Int}(h:l≠[]){m:Int}(h1:m∈l)(h2:∀y∈l,m<=y):m=minOf l:=by
 obtain⟨a,b⟩:=En h
 have:=h2 _ a
 have:=b _ h1
 lia
theorem MX{l:List Int}(h:l≠[]){m:Int}(h1:m∈l)(h2:∀y∈l,y<=m):m=maxOf l:=by
 obtain⟨a,b⟩:=Eo h
 have:=h2 _ a
 have:=b _ h1
 lia
theorem Ep{A:Ad}{K:PySem.W.Frag}{rl D:Addr}{ra:List Addr}{R:List R3}{te:TE}{val:R3->Int}{n:Nat}{σ:L2.St}{H:Hp}{Qd:Hp->Prop}(hn:n<σ.length)(hR:Rep (iJ A) H rl ra R)(hlen:R.length<=1000)
 (V1:∀(σ:L2.St)(H:Hp)(a:Addr)(r:R3)(Q:VK),σ[n]?=some (some (.ref a))->iJ A H a r->Q (.int (val r)) H->te σ H Q) (hD:H D=none) (h:∀H',ak H H'->H' D=some (.lst ((R.map val).map V.int))->Qd H'):
 ∃W:Nat->Nat->Hp->Prop,(∃m,W 0 m (upd H D (.lst [])))/\∀i m H,W i m H->
  ((GF K rl).stop i H/\Qd H)\/((GF K rl).go i H/\∃Nx:Hp->Prop,(∀H',Nx H'->∃m',m'<m/\W (i+1) m' H')/\∀x H',(GF K rl).GD i H x H'->kr n x (wipe σ [n]) H' fun i5 H2=>wipe i5 [n]=wipe σ [n]/\Dy i5 H2 fun b H3=>
    if b=true then te i5 H3 fun y H4=>∃acc,H4 D=some (.lst acc)/\acc.length<sizeLine/\Nx (upd H4 D (.lst (acc++[y])))else Nx H3):=by
 refine xZ (xs:=ra.map V.ref) (fun i H'=>ak H H'/\H' D=some (.lst (((R.take i).map val).map V.int))) ⟨ak.upd hD,by rw[af];rfl⟩ (fun i H' _⟨s,_⟩=>aW.of (s _ _ hR.lst)) ?_ ?_
 . rintro i x H' hx ⟨s1,h1⟩
   obtain⟨a,r,rfl,wX,qy⟩:=(hR.same (gX A) s1).turn hx
   refine⟨?_, ?_⟩
   . show((σ.set n none).set n (some (V.ref a))).set n none=σ.set n none
     rw[ac8,ac8]
   unfold Dy
   refine aK (fun _=> ?_) (fun c=>(c rfl).elim)
   refine V1 _ _ a r _ ?_ qy ⟨_,h1, ?_,ak.fy s1 hD, ?_⟩
   . show((σ.set n none).set n (some (V.ref a)))[n]?=some (some (V.ref a))
     rw[ac8,ace,if_pos rfl,if_pos hn]
   . rw[abI,abI,abR]
     exact acW (abk (ac7 _ _) hlen) (by decide)
   rw[af,take_snoc wX,acX,acX]
   rfl
 rintro H' ⟨s1,h1⟩
 rw[hR.cz,ac3]at h1
 exact h H' s1 h1
def K1(A:Ad)(H:Hp)(a:Addr)(o:Off3):Prop:=∃dx,H a=some (.ins A.mS dx [("price", .int (o.price:Nat)),("ways", .int (o.yX:Nat)),("product", .int (o.product:Nat))])
def F0(A:Ad)(H0 H:Hp)(v:V):Option Off3->Prop
 |none=>v= .dR
 |some o=>∃a,v= .ref a/\H0 a=none/\K1 A H a o
theorem F0.same {A:Ad} {H0 H H':Hp} {v:V} {o:Option Off3} (h:F0 A H0 H v o) (s:ak H H'):F0 A H0 H' v o:=by
 cases o with
 |none=>exact h
 |some o=>
  obtain⟨a,e,h0,dx,h1⟩:=h
  exact⟨a,e,h0,dx,s _ _ h1⟩
noncomputable def F1(p:Sw76.Product)(i:Nat):Option Off3->Option Off3
 |none=>some ⟨p.price,1,i⟩
 |some y=>if p.price<y.price then some ⟨p.price,1,i⟩else if p.price=y.price then some ⟨y.price,y.yX+1,y.product⟩else some y
theorem CS{good:Sw76.Product->Bool}{o:Option Off3}{p:Sw76.Product}{i:Nat}(h:good p=true):eu good o (p,i)=F1 p i o:=by
 unfold eu
 rw[if_neg (by intro q;have q:good p=false:=q;rw[h]at q;cases q)]
 cases o<;>rfl
theorem Pu{ps:List Sw76.Product}{i:Nat}{p:Sw76.Product}(h:ps[i]?=some p):ps.zipIdx[i]?=some (p,i):=by
 rw[ac5,h]
 simp
section
variable{P:Program}{w:World}{K:PySem.W.Frag}{mg:Str->Option Value}{base:Heap}{A:Ad}
def CT(R:List R3)(js:List Nat)(D:Sw76.Desk):Option Off3:=gq (fun p=>qY p (minOf (R.map fun r=>r.gs)) (maxOf (R.map fun r=>r.co)) (Am R) (l8 (Am R) js)) D.products
def zr(A:Ad):Sp:=fun vs H Q _=>∃(f fb pl rl jl:Addr)(bs js:List Nat)(ps ra:List Addr)(D:Sw76.Desk)(R:List R3),vs=[.ref f, .ref rl, .ref jl]/\nM A H f fb pl bs ps D/\Rep (iJ A) H rl ra R/\R≠[]/\R.length<=1000/\H jl=some (.lst (b9 js))/\(∀t∈js,bl t<=1000)/\
 ∀(H':Hp)(v:V),ak H H'->F0 A H H' v (CT R js D)->Q v H'
abbrev jy:Stmt:=inClass (top 34) 7
theorem aR:aB ["self","rides","joined","goes","ride","comes","zones","hull","offer","number","product"] ["self","rides","joined"] (ao jy):=sm
theorem t9{f:Addr}{fd:FuncData}(F:eH K "offer_for" "Fares.offer_for" jy f fd)(T:Txt K mg A)(jz:MethAt P w K mg base 2 A.Product "is_good" ["self","goes","comes","zones","hull"] (Eh A))(vX:FnAt P w K mg base 3 "hull_of" ["zones","joined"] KQ)(CU:eG P w K mg base 1 "Offer" A.mS ["self","price","ways","product"] (uD A.mS ["price","ways","product"])):bq P w K mg base eD 4 f fd ["self","rides","joined"] (zr A):=by
 refine F.ok aR (fun vs H Q E h=> ?_) (fun dz Ar outer s H vs Q E hr h=> ?_)
 . obtain⟨_,_,_,_,_,_,_,_,_,_,_,rfl,_⟩:=h
   rfl
 obtain⟨f',fb,pl,rl,jl,bs,js,ps,ra,D,R,rfl,hF,hR,ir,hlen,hj,WK,k⟩:=h
 obtain⟨dx,hi⟩:=hF.ins
 have Mt:∀(v:R3->Int),R.map v≠[]:=fun v q=>ir (by simpa using q)
 refine⟨_,(ae (aC (i:=3) aR.nd rfl oi (aP (Oq rfl) (by rfl) T.G8 boot_min (aa (wB (te:=qI K (cT 4) "goes") rfl aR.nd (cG (pv 1)) (ee (own:=[("ride",4)]) (by rfl)) (fun _ _ _ _ _=>(aX (i:=4) aR.nd rfl oi)) (fun _ _ _ _ _=>iu) (fun _ _ _ _ _=>(ai (pv 4) rfl))) ag)))
  (ae (aC (i:=5) aR.nd rfl oi (aP (Oo rfl) (by rfl) T.D0 boot_max (aa (wB (te:=qI K (cT 4) "comes") rfl aR.nd (cG (pv 1)) (ee (own:=[("ride",4)]) (by rfl)) (fun _ _ _ _ _=>(aX (i:=4) aR.nd rfl oi)) (fun _ _ _ _ _=>iu) (fun _ _ _ _ _=>(ai (pv 4) rfl))) ag)))
  (ae (aC (i:=6) aR.nd rfl oi aj)
  (ae (dI acZ rfl (cG (pv 1)) (aX (i:=4) aR.nd rfl oi) (ah (qE (i:=6) aR.nd rfl oi (ai (pv 4) rfl) Bx)))
  (ae (aC (i:=7) aR.nd rfl oi (aO vX hr rfl (aa (pv 6) (aa (pv 2) ag))))
  (ae (aC (i:=8) aR.nd rfl oi cI)
  (ae (dI acZ rfl (oP rfl T.gC (aa (ai (pv 0) rfl) ag)) (sZ rfl (eP (aX (i:=9) aR.nd rfl oi) (eP (aX (i:=10) aR.nd rfl oi) oM))) (ae (bg (sY (lU (bB (pv 10) jz hr (aa (pv 3) (aa (pv 5) (aa (pv 6) (aa (pv 7) ag))))))) (ah qB) aF)
  (ah (bg (PW.pt (gn (ay hE (pv 8) cI nk) (gw (ay lV (ai (pv 10) rfl) (ai (pv 8) rfl) nk)))) (ah (aC (i:=8) aR.nd rfl oi (cv CU hr rfl (aa (ai (pv 10) rfl) (aa aj (aa (pv 9) ag)))))) (ah (bg (ay ku (ai (pv 10) rfl) (ai (pv 8) rfl) nk) (ah (AY (pv 8) aj JL)) aF))))))
  (ah (aA (pv 8)))))))))), ?_⟩
 refine⟨_,U,_,U,⟨_,aW.of hR.lst⟩,fun D1 ZX=> ?_⟩
 refine Ep (A:=A) (K:=K) (val:=fun r=>r.gs) (by show 4<11;decide) hR hlen (fun σ H a r Q' e⟨d,h1⟩q=>⟨_,e,_,_,_,_,_,rfl,h1,T.kh,T.wR,rfl,q⟩) ZX fun H1 s1 h1=> ?_
 refine⟨D1,_,U,aW.of h1,(by rw[abI];exact List.length_pos_iff.mpr ir),fun m NC OH=> ?_⟩
 have em:=MW (Mt fun r=>r.gs) NC OH
 subst em
 have Lz:=hR.same (gX A) s1
 refine⟨_,U,_,U,⟨_,aW.of Lz.lst⟩,fun D2 ZY=> ?_⟩
 refine Ep (A:=A) (K:=K) (val:=fun r=>r.co) (by show 4<11;decide) Lz hlen (fun σ H a r Q' e⟨d,h1⟩q=>⟨_,e,_,_,_,_,_,rfl,h1,T.kh,T.uF,rfl,q⟩) ZY fun H2 s2 h2=> ?_
 refine⟨D2,_,U,aW.of h2,(by rw[abI];exact List.length_pos_iff.mpr ir),fun m NC OH=> ?_⟩
 have em:=MX (Mt fun r=>r.co) NC OH
 subst em
 have LA:=s1.trans s2
 have Jo:=hR.same (gX A) LA
 generalize eg:minOf (R.map fun r=>r.gs)=gs
 generalize ec:maxOf (R.map fun r=>r.co)=co
 refine⟨_,U,_,U,⟨_,aW.of Jo.lst⟩, ?_⟩
 refine eQ (K:=K) (a:=rl) (xs:=ra.map V.ref) (fun i σ H'=>∃o4,σ=[some (.ref f'),some (.ref rl),some (.ref jl),some (.int gs),o4,some (.int co),some (.int ((Am (R.take i):Nat):Int)),none,none,none,none]/\H'=H2)
  ⟨none,rfl,rfl⟩ (fun i σ H' _⟨_,_,e⟩=>by rw[e];exact aW.of Jo.lst) ?_ ?_
 . rintro i v σ H' hv ⟨o4,rfl,rfl⟩
   obtain⟨a,r,rfl,wX,⟨da,qy⟩⟩:=Jo.turn hv
   refine⟨_,U,_,U,_,_,_,_,_,U,qy,T.kh,T.uG,U,_,_,U,U, ?_⟩
   dsimp only
   rw[pB]
   refine⟨some (.ref a), ?_,U⟩
   have e:Am (R.take (i+1))=Am (R.take i)|||r.zs:=by
    unfold Am
    exact fM wX
   rw[e]
   rfl
 rintro σ H' ⟨o4,rfl,rfl⟩
 rw[hR.cz,ac3]
 refine⟨_,U,_,U,Am R,jl,js,U,LA _ _ hj,WK,fun H3 s3=> ?_⟩
 have BL:=LA.trans s3
 have ZZ:=hF.same BL
 have Z0:=BL _ _ hi
 unfold CT at k
 rw[eg,ec]at k
 generalize Am R=zz at k⊢
 generalize l8 zz js=hl at k⊢
 refine⟨_,U,_,_,_,_,_,U,Z0,T.bI,T.fC,U,_,_,U,aW.of ZZ.pr.lst, ?_⟩
 refine oq (K:=K) (a:=pl) (xs:=ps.map V.ref) (fun i σ H'=>∃v o9 My,σ=[some (.ref f'),some (.ref rl),some (.ref jl),some (.int gs),o4,some (.int co),some (.int (zz:Nat)),some (Hi hl),some v,o9,My]/\ak H H'/\F0 A H H' v ((D.products.zipIdx.take i).foldl (eu fun p=>qY p gs co zz hl) none))
  ⟨.dR,none,none,rfl,BL,rfl⟩ (fun i σ H' _⟨_,_,_,_,s4,_⟩=>aW.of (s4 _ _ hF.pr.lst)) ?_ ?_
 . rintro i u σ H4 Tu hu ⟨v,o9,My,rfl,s4,hv⟩ FH
   obtain⟨pa,p,rfl,Pc,QO⟩:=(hF.same s4).pr.turn hu
   have s5:ak H4 (upd H4 Tu (.tup [.int i, .ref pa])):=ak.upd FH
   have NM:=s4.trans s5
   have Pw:=hv.same s5
   obtain⟨Jq,sH⟩:=sr A _ _ _ _ (c8 s5) QO
   generalize upd H4 Tu (.tup [.int i, .ref pa])=H5 at s5 NM Pw sH⊢
   rw[fM (Pu Pc)]
   generalize(D.products.zipIdx.take i).foldl (eu fun p=>qY p gs co zz hl) none=of at Pw⊢
   refine⟨_,U,pa,Jq,_,U,sH,U,_,U,_,U,_,U,_,U,pa,p,gs,co,zz,hl,U,⟨Jq,sH⟩,_,U, ?_⟩
   cases NN:qY p gs co zz hl with
   |false=>
    refine⟨v,some (.int i),some (.ref pa),U,NM, ?_⟩
    have e:eu (fun p=>qY p gs co zz hl) of (p,i)=of:=by
     unfold eu
     rw[if_pos NN]
    rw[e]
    exact Pw
   |true=>
    rw[CS (good:=fun p=>qY p gs co zz hl) NN]
    have new:∀(Q':VK),(∀(x:Addr)(H6:Hp),ak H5 H6->H5 x=none->K1 A H6 x ⟨p.price,1,i⟩->Q' (.ref x) H6)->AZ A.mS (uD A.mS ["price","ways","product"]) [] E0 (cK (qI K (cT 10) "price") (cK (tC (.int 1)) (cK (cT 9) lW))) [some (.ref f'),some (.ref rl),some (.ref jl),some (.int gs),o4,some (.int co),some (.int (zz:Nat)),some (Hi hl),some v,some (.int i),some (.ref pa)] H5 Q':=fun Q' q=>by
     refine⟨_,U,_,_,_,_,_,U,sH,T.bL,T.iA,U,_,U, ?_⟩
     intro x Ab hx hd WL
     refine⟨x,Ab,_,U,U,af,U, ?_⟩
     rw[aL]
     exact q x _ (dE hx hd) hx ⟨Ab,k9⟩
    cases of with
    |none=>
     have Pw:v= .dR:=Pw
     subst Pw
     rw[F1]
     refine⟨_,U,U,_,U, ?_⟩
     refine aK (fun _=> ?_) (fun z=>(z rfl).elim)
     refine aK (fun _=> ?_) (fun z=>(z rfl).elim)
     refine new _ fun x H6 s6 hx Px=> ?_
     exact⟨.ref x,_,_,U,NM.trans s6,x,U,NM.free hx,Px⟩
    |some y=>
     obtain⟨oa,rfl,Py,SE,MY⟩:=Pw
     rw[F1]
     refine⟨_,U,U,_,U, ?_⟩
     refine aK (fun q=>by cases of_decide_eq_true q) (fun _=> ?_)
     refine⟨_,U,_,_,_,_,_,U,sH,T.bL,T.iA,U,_,U,_,_,_,_,_,U,MY,T.fA,T.ki,U,_,_,U,U,_,U, ?_⟩
     dsimp only
     refine aK (fun q=> ?_) (fun q=> ?_)
     . have q:p.price<y.price:=by
        have:=of_decide_eq_true q
        lia
       rw[if_pos q]
       refine new _ fun x H6 s6 hx Px=> ?_
       exact⟨.ref x,_,_,U,NM.trans s6,x,U,NM.free hx,Px⟩
     have q:¬p.price<y.price:=fun z=>q (decide_eq_true (by lia))
     rw[if_neg q]
     refine⟨_,U,_,_,_,_,_,U,sH,T.bL,T.iA,U,_,U,_,_,_,_,_,U,MY,T.fA,T.ki,U,U,_,U, ?_⟩
     refine aK (fun q2=> ?_) (fun q2=> ?_)
     . have q2:p.price=y.price:=by
        have:=of_decide_eq_true q2
        injection this with this
        lia
       rw[if_pos q2]
       refine⟨_,U,oa,_,SE,_,_,U,MY,T.fA,T.pw,U,_,_,U,U,SE,_,MY,Ud, ?_⟩
       rw[fq (by decide+kernel),jt]
       refine⟨.ref oa,_,_,U,ak.fy NM Py,oa,U,Py,SE, ?_⟩
       rw[af]
       rfl
     have q2:¬p.price=y.price:=fun z=>by
      apply q2
      rw[z]
      exact decide_eq_true rfl
     rw[if_neg q2]
     exact⟨.ref oa,_,_,U,NM,oa,U,Py,SE,MY⟩
 rintro σ H4 ⟨v,o9,My,rfl,s4,hv⟩
 refine⟨_,U,k H4 v s4 ?_⟩
 rw[hF.pr.cz,ac4 (by simp)]at hv
 exact hv
end
def rJ(H:Hp)(a:Addr)(t:Sw76.Ticket):Prop:=H a=some (.lst (b9 (t.product::mem t.journeys)))
structure u5(A:Ad)(H:Hp)(a:Addr)(b:Sw76.Best):Prop where
 ex:∃dx tl ta,H a=some (.ins A.bK dx [("price", .int (b.price:Nat)),("ways", .int (b.many:Nat)),("tickets", .ref tl)])/\Rep rJ H tl ta b.tickets
theorem vY{H H':Hp}{l:Addr}{as:List Addr}{ts:List Sw76.Ticket}(r:Rep rJ H l as ts)(s:ak H H'):Rep rJ H' l as ts:=r.mono (by rw[r.lst];exact s _ _ r.lst) fun a x _ h=>s _ _ h
theorem u5.same {A:Ad} {H H':Hp} {a:Addr} {b:Sw76.Best} (h:u5 A H a b) (s:ak H H'):u5 A H' a b:=by
 obtain⟨dx,tl,ta,h1,h2⟩:=h.ex
 exact⟨dx,tl,ta,s _ _ h1,vY h2 s⟩
def xK(A:Ad)(H:Hp)(v:V):Option Sw76.Best->Prop
 |none=>v= .dR
 |some b=>∃a,v= .ref a/\u5 A H a b
def MZ(A:Ad)(H0 H:Hp)(v:V):Option Sw76.Best->Prop
 |none=>v= .dR
 |some b=>∃a,v= .ref a/\H0 a=none/\u5 A H a b
def OffW(A:Ad)(H:Hp)(v:V):Option Off3->Prop
 |none=>v= .dR
 |some o=>∃a,v= .ref a/\K1 A H a o
theorem F0.w {A:Ad} {H0 H:Hp} {v:V} {o:Option Off3} (h:F0 A H0 H v o):OffW A H v o:=by
 cases o with
 |none=>exact h
 |some o=>
  obtain⟨a,e,_,h1⟩:=h
  exact⟨a,e,h1⟩
theorem MZ.v {A:Ad} {H0 H:Hp} {v:V} {o:Option Sw76.Best} (h:MZ A H0 H v o):xK A H v o:=by
 cases o with
 |none=>exact h
 |some o=>
  obtain⟨a,e,_,h1⟩:=h
  exact⟨a,e,h1⟩
theorem xK.same {A:Ad} {H H':Hp} {v:V} {o:Option Sw76.Best} (h:xK A H v o) (s:ak H H'):xK A H' v o:=by
 cases o with
 |none=>exact h
 |some o=>
  obtain⟨a,e,h1⟩:=h
  exact⟨a,e,h1.same s⟩
theorem OffW.same {A:Ad} {H H':Hp} {v:V} {o:Option Off3} (h:OffW A H v o) (s:ak H H'):OffW A H' v o:=by
 cases o with
 |none=>exact h
 |some o=>
  obtain⟨a,e,dx,h1⟩:=h
  exact⟨a,e,dx,s _ _ h1⟩
structure xM{α:Type}(P:Hp->V->α->Prop)(H:Hp)(l:Addr)(vs:List V)(f:Nat->α):Prop where
 lst:H l=some (.lst vs)
 at_:∀(i:Nat)(v:V),vs[i]?=some v->P H v (f i)
theorem xM.same {α:Type} {P:Hp->V->α->Prop} {H H':Hp} {l:Addr} {vs:List V} {f:Nat->α} (r:xM P H l vs f) (s:ak H H') (hp:∀v x,P H v x->P H' v x):xM P H' l vs f:=⟨s _ _ r.lst,fun i v h=>hp v _ (r.at_ i v h)⟩
def g9(os:Nat->Option Off3)(hs:Nat->Option Sw76.Best)(m first:Nat)(best:Option Sw76.Best)(g:Nat):Option Sw76.Best:=
 if(g.testBit first&&hasAll m g)=false then best else match os g,hs (m-g)with
  |some o,some b=>Sw76.cheaper best (some (Cg g b o))
  |_,_=>best
theorem ua{d:Sw76.Desk}{Fw:Nat->Option Sw76.Best}{n m first:Nat}:pj d Fw n m first=g9 (fun g=>gq (fun p=>d.good p g) d.products) Fw m first:=rfl
theorem zt{os:Nat->Option Off3}{hs:Nat->Option Sw76.Best}{m first:Nat}:∀{l:List Nat}{b:Option Sw76.Best},(∀g∈l,g.testBit first=false)->l.foldl (g9 os hs m first) b=b
 |[],_,_=>rfl
 |g::l,b,h=>by
  rw[acb,zt fun g hg=>h g (abn _ hg)]
  unfold g9
  rw[h g (by simp),aby,if_pos rfl]
theorem IL{os:Nat->Option Off3}{hs:Nat->Option Sw76.Best}{m first:Nat}(h:m.testBit first=true):(List.range (m+1)).foldl (g9 os hs m first) none=(List.range' (2^first) (m+1-2^first)).foldl (g9 os hs m first) none/\2^first<=m:=by
 have hle:2^first<=m:=Nat.ge_two_pow_of_testBit h
 refine⟨?_,hle⟩
 have e:List.range (m+1)=List.range' 0 (2^first)++List.range' (2^first) (m+1-2^first):=by
  rw[acQ]
  have:=List.range'_append_1 (s:=0) (m:=2^first) (n:=m+1-2^first)
  rw[Nat.zero_add]at this
  rw[this]
  congr 1
  lia
 rw[e,aci,zt (l:=List.range' 0 (2^first)) fun g hg=> ?_]
 have:=(acO.mp hg).2
 exact Nat.testBit_lt_two_pow (by lia)
theorem F2{g f:Nat}:hasAll g (2^f)=g.testBit f:=by
 rw[abF,jQ]
 constructor
 . intro h
   exact h f (by rw[acE];simp)
 intro h i hi
 rw[acE]at hi
 simp at hi
 rw[<-hi]
 exact h
theorem Er{os:Nat->Option Off3}{hs:Nat->Option Sw76.Best}{m first g:Nat}{b:Option Sw76.Best}(h:(g.testBit first&&hasAll m g)=false):g9 os hs m first b g=b:=by
 unfold g9
 rw[if_pos h]
theorem IM{os:Nat->Option Off3}{hs:Nat->Option Sw76.Best}{m first g:Nat}{b:Option Sw76.Best}{o:Off3}{x:Sw76.Best}(h:(g.testBit first&&hasAll m g)=true)(h1:os g=some o)(h2:hs (m-g)=some x):g9 os hs m first b g=Sw76.cheaper b (some (Cg g x o)):=by
 unfold g9
 rw[if_neg (by rw[h];simp),h1,h2]
theorem zu{os:Nat->Option Off3}{hs:Nat->Option Sw76.Best}{m first g:Nat}{b:Option Sw76.Best}(h:os g=none\/hs (m-g)=none):g9 os hs m first b g=b:=by
 unfold g9
 split
 . rfl
 rcases h with h|h
 . rw[h]
 rw[h]
 cases os g<;>rfl
section
variable{P:Program}{w:World}{K:PySem.W.Frag}{mg:Str->Option Value}{base:Heap}{A:Ad}
def Es(A:Ad):Sp:=fun vs H Q _=>∃(ol pl:Addr)(ov Et:List V)(os:Nat->Option Off3)(hs:Nat->Option Sw76.Best)(m first:Nat)(rest:List Nat),vs=[.int (m:Nat), .ref ol, .ref pl]/\mem m=first::rest/\m<256/\xM (OffW A) H ol ov os/\xM (xK A) H pl Et hs/\ov.length=m+1/\Et.length=m/\
 (∀g o,os g=some o->o.yX<1000)/\(∀i b,hs i=some b->b.tickets.length<=1000)/\
 ∀(H':Hp)(v:V),ak H H'->MZ A H H' v ((List.range (m+1)).foldl (g9 os hs m first) none)->Q v H'
abbrev ia:Stmt:=top 36
theorem bE:aB ["wanted","offers","purchases","first","best","chosen","offer","others","price","ways"] ["wanted","offers","purchases"] (ao ia):=sm
theorem rK{f:Addr}{fd:FuncData}(F:eH K "cheapest_purchase" "cheapest_purchase" ia f fd)(T:Txt K mg A)(dH:FnAt P w K mg base 1 "members" ["numbers"] lR)(gf:FnAt P w K mg base 1 "has_all" ["numbers","wanted"] uK)(j1:eG P w K mg base 1 "Purchase" A.bK ["self","price","ways","tickets"] (uD A.bK ["price","ways","tickets"])):bq P w K mg base eD 3 f fd ["wanted","offers","purchases"] (Es A):=by
 refine F.ok bE (fun vs H Q E h=> ?_) (fun dz Ar outer s H vs Q E hr h=> ?_)
 . obtain⟨_,_,_,_,_,_,_,_,_,rfl,_⟩:=h
   rfl
 obtain⟨ol,pl,ov,Et,os,hs,m,f0,rest,rfl,hm,SD,hO,hP,lO,lP,hw,ht,k⟩:=h
 have WM:m.testBit f0=true:=mem_iff.mp (by rw[hm];simp)
 obtain⟨SF,hle⟩:=IL (os:=os) (hs:=hs) WM
 rw[SF]at k
 have bm:bl m<=1000:=abk (zo (n:=8) (by lia)) (by lia)
 have hf8:f0<8:=by
  apply acp
  intro c
  rw[fx (k:=8) (by lia) (by lia)]at WM
  cases WM
 refine⟨_,(ae (aC (i:=3) bE.nd rfl oi (bA qH aj (aM ax (aO dH hr rfl (aa (pv 0) ag)) aj (fun _ _=>rfl))))
  (ae (aC (i:=4) bE.nd rfl oi cI)
  (ae (dI acZ rfl (r8 rfl T.pq (aa (pv 3) (aa (bA ft (pv 0) aj) ag))) (aX (i:=5) bE.nd rfl oi) (ae (bg (PW.pt (gn (sY (lU (aO gf hr rfl (aa (pv 0) (aa (pv 5) ag))))) (gw (sY (lU (aO gf hr rfl (aa (pv 5) (aa (pv 3) ag)))))))) (ah qB) aF)
  (ae (aC (i:=6) bE.nd rfl oi (aM ax (pv 1) (pv 5) (fun _ _=>rfl)))
  (ae (aC (i:=7) bE.nd rfl oi (aM ax (pv 2) (bA Od (pv 0) (pv 5)) (fun _ _=>rfl)))
  (ae (bg (PW.pt (gn (ay hE (pv 6) cI nk) (gw (ay hE (pv 7) cI nk)))) (ah qB) aF)
  (ae (aC (i:=8) bE.nd rfl oi (bA ft (ai (pv 6) rfl) (ai (pv 7) rfl)))
  (ae (aC (i:=9) bE.nd rfl oi (bA JG (ai (pv 6) rfl) (ai (pv 7) rfl)))
  (ah (bg (PW.pt (gn (ay hE (pv 4) cI nk) (gw (ay lV (pv 8) (ai (pv 4) rfl) nk)))) (ah (aC (i:=4) bE.nd rfl oi (cv j1 hr rfl (aa (pv 8) (aa (pv 9) (aa (bA lY (bb (aa (bA lY (bb (aa (ai (pv 6) rfl) ag)) (aO dH hr rfl (aa (pv 5) ag))) ag)) (ai (pv 7) rfl)) ag)))))) (ah (bg (ay ku (pv 8) (ai (pv 4) rfl) nk) (ah (AY (pv 4) (pv 9) JL)) aF)))))))))))
  (ah (aA (pv 4)))))), ?_⟩
 refine⟨_,U,m,U,bm,fun p hp=>⟨_,_,_,_,U,U,aW.of af,(c9 (n:=0) (v:= .int (f0:Nat)) (by rw[hm];rfl)),_,_,U,U,⟨(by lia),(by lia),(by decide)⟩, ?_⟩⟩
 dsimp only
 rw[mW]
 have nF:0<2^f0:=acH _
 have SG:∀g,hasAll g (2^f0)=g.testBit f0:=fun g=>F2
 generalize 2^f0=N0 at hle nF SG k⊢
 have s1:ak H (upd H p (.lst (b9 (mem m)))):=ak.upd hp
 generalize upd H p (.lst (b9 (mem m)))=H1 at s1⊢
 refine⟨_,U,_,U,_,_,U,U,_,_,U,⟨(by lia),(by lia),(by lia),(by lia)⟩, ?_⟩
 have en:((m:Int)+1-(N0:Int)).toNat=m+1-N0:=by lia
 show∃W:Nat->Nat->L2.St->Hp->Prop,_
 rw[en]
 refine vy (fun i σ H'=>∃v o5 o6 o7 o8 o9,σ=[some (.int (m:Nat)),some (.ref ol),some (.ref pl),some (.int (N0:Nat)),some v,o5,o6,o7,o8,o9]/\ak H H'/\MZ A H H' v ((List.range' N0 i).foldl (g9 os hs m f0) none))
  ⟨.dR,none,none,none,none,none,rfl,s1,rfl⟩ ?_ ?_
 . rintro i σ H2 hi ⟨v,o5,o6,o7,o8,o9,rfl,s2,hv⟩
   rw[show(N0:Int)+(i:Int)=((N0+i:Nat):Int) by lia]
   have hg:N0+i<=m:=by lia
   have WN:1<=N0+i:=by lia
   rw[List.range'_1_concat,aci,acb,List.foldl_nil]
   generalize N0+i=g at hg WN⊢
   generalize(List.range' N0 i).foldl (g9 os hs m f0) none=best at hv⊢
   refine⟨_,U,_,U,m,g,U,_,U, ?_⟩
   cases ea:hasAll m g with
   |false=>
    refine⟨v,_,_,_,_,_,U,s2, ?_⟩
    rw[Er (by rw[ea,ab2])]
    exact hv
   |true=>
    refine⟨_,U,_,U,g,N0,U,_,U, ?_⟩
    rw[SG]
    cases eb:g.testBit f0 with
    |false=>
     refine⟨v,_,_,_,_,_,U,s2, ?_⟩
     rw[Er (by rw[eb,aby])]
     exact hv
    |true=>
     have lG:(g.testBit f0&&hasAll m g)=true:=by rw[ea,eb];rfl
     have Yh:=hO.same s2 fun v x h=>h.same s2
     have Yi:=hP.same s2 fun v x h=>h.same s2
     have WO:=acf (show g<ov.length by lia)
     generalize ov[g]=vo at WO
     have QP:=Yh.at_ _ _ WO
     obtain⟨WQ,_⟩:=Ks m g ea
     have WR:=acf (show m-g<Et.length by lia)
     generalize Et[m-g]=vp at WR
     have QQ:=Yi.at_ _ _ WR
     refine⟨_,U,_,U,_,_,_,_,U,U,aW.of Yh.lst,c9 WO, ?_⟩
     refine⟨_,U,_,U,_,U,_,_,U,U,_,_,_,_,U,U,aW.of Yi.lst,(by rw[WQ];exact c9 WR), ?_⟩
     cases eo:os g with
     |none=>
      rw[eo]at QP
      have QP:vo= .dR:=QP
      subst QP
      refine⟨_,U,U,_,U, ?_⟩
      refine aK (fun _=> ?_) (fun z=>(z rfl).elim)
      refine⟨v,_,_,_,_,_,U,s2, ?_⟩
      rw[zu (.inl eo)]
      exact hv
     |some o=>
      rw[eo]at QP
      obtain⟨oa,rfl,SE,MY⟩:=QP
      refine⟨_,U,U,_,U, ?_⟩
      refine aK (fun q=>by cases of_decide_eq_true q) (fun _=> ?_)
      cases eh:hs (m-g)with
      |none=>
       rw[eh]at QQ
       have QQ:vp= .dR:=QQ
       subst QQ
       refine⟨_,U,U,_,U, ?_⟩
       refine aK (fun _=> ?_) (fun z=>(z rfl).elim)
       refine⟨v,_,_,_,_,_,U,s2, ?_⟩
       rw[zu (.inr eh)]
       exact hv
      |some b=>
       rw[eh]at QQ
       obtain⟨ba,rfl,SH⟩:=QQ
       obtain⟨dba,tl,ta,SH,IP⟩:=SH.ex
       refine⟨_,U,U,_,U, ?_⟩
       refine aK (fun q=>by cases of_decide_eq_true q) (fun _=> ?_)
       rw[IM lG eo eh]
       refine⟨_,U,_,_,_,_,_,U,MY,T.fA,T.ki,U,_,U,_,_,_,_,_,U,SH,T.bV,T.fB,U,_,_,U,U, ?_⟩
       have hww:=hw g o eo
       refine⟨_,U,_,_,_,_,_,U,MY,T.fA,T.pw,U,_,U,_,_,_,_,_,U,SH,T.bV,T.iB,U,_,_,U,U, .inl ⟨(by lia),(by lia)⟩, ?_⟩
       dsimp only
       rw[show(o.price:Int)+(b.price:Int)=(((Cg g b o).price:Nat):Int)from rfl]
       rw[show(o.yX:Int)*(b.many:Int)=(((Cg g b o).many:Nat):Int)from rfl]
       have new:∀(Q':VK),(∀(x:Addr)(H6:Hp),ak H2 H6->H2 x=none->u5 A H6 x (Cg g b o)->Q' (.ref x) H6)->AZ A.bK (uD A.bK ["price","ways","tickets"]) [] E0 (cK (cT 8) (cK (cT 9) (cK (xr JX (HN (cK (xr JX (HN (cK (qI K (cT 6) "product") lW)) (uj lR [] E0 (cK (cT 5) lW))) lW)) (qI K (cT 7) "tickets")) lW))) [some (.int (m:Nat)),some (.ref ol),some (.ref pl),some (.int (N0:Nat)),some v,some (.int (g:Nat)),some (.ref oa),some (.ref ba),some (.int ((Cg g b o).price:Nat)),some (.int ((Cg g b o).many:Nat))] H2 Q':=fun Q' q=>by
        refine⟨_,U,_,U,_,U,_,_,_,_,_,U,MY,T.fA,T.qc,U,Ud,fun l1 yl=> ?_⟩
        have r1:ak H2 (upd H2 l1 (.lst [V.int (o.product:Nat)])):=ak.upd yl
        have g1:(upd H2 l1 (.lst [V.int (o.product:Nat)])) l1=some (.lst (b9 [o.product])):=af
        generalize upd H2 l1 (.lst [V.int (o.product:Nat)])=J1 at r1 g1⊢
        refine⟨_,U,g,U,abk (zo (n:=8) (show g<2^8 by lia)) (by lia),fun l2 Lv=> ?_⟩
        have r2:ak J1 (upd J1 l2 (.lst (b9 (mem g)))):=ak.upd Lv
        have g2:(upd J1 l2 (.lst (b9 (mem g)))) l2=some (.lst (b9 (mem g))):=af
        generalize upd J1 l2 (.lst (b9 (mem g)))=J2 at r2 g2⊢
        have Uk:(mem g).length<=8:=by
         rw[eT (k:=8) (show g<2^8 by lia)]
         refine abk (acN _ _) ?_
         rw[acL]
         exact abB _
        refine⟨l1,l2,_,_,U,U,r2 _ _ g1,g2, ?_,fun l3 Uo=> ?_⟩
        . rw[cX,cX]
          exact abk (show 1+(mem g).length<=9 by lia) (by decide)
        rw[<-ym]
        have r3:ak J2 (upd J2 l3 (.lst (b9 ([o.product]++mem g)))):=ak.upd Uo
        have g3:(upd J2 l3 (.lst (b9 ([o.product]++mem g)))) l3=some (.lst (b9 (o.product::mem g))):=af
        generalize upd J2 l3 (.lst (b9 ([o.product]++mem g)))=J3 at r3 g3⊢
        refine⟨Ud,fun l4 Z1=> ?_⟩
        have r4:ak J3 (upd J3 l4 (.lst [V.ref l3])):=ak.upd Z1
        have g4:(upd J3 l4 (.lst [V.ref l3])) l4=some (.lst [V.ref l3]):=af
        generalize upd J3 l4 (.lst [V.ref l3])=J4 at r4 g4⊢
        have WS:=((r1.trans r2).trans r3).trans r4
        have SI:=vY IP WS
        refine⟨_,U,_,_,_,_,_,U,WS _ _ SH,T.bV,T.iH,U,l4,tl,_,_,U,U,g4,SI.lst, ?_,fun l5 Z2=> ?_⟩
        . rw[SI.cz]
          have:=ht _ _ eh
          exact abk (show 1+b.tickets.length<=1001 by lia) (by decide)
        have r5:ak J4 (upd J4 l5 (.lst ([V.ref l3]++ta.map V.ref))):=ak.upd Z2
        have g5:(upd J4 l5 (.lst ([V.ref l3]++ta.map V.ref))) l5=some (.lst ((l3::ta).map V.ref)):=af
        generalize upd J4 l5 (.lst ([V.ref l3]++ta.map V.ref))=J5 at r5 g5⊢
        have WT:=WS.trans r5
        intro x Ab hx hd WL
        refine⟨x,Ab,_,U,U,af,U, ?_⟩
        rw[aL]
        have r6:=dE (C:=A.bK) (fs:=[("price", .int ((Cg g b o).price:Nat)),("ways", .int ((Cg g b o).many:Nat)),("tickets", .ref l5)]) hx hd
        refine q x _ (WT.trans r6) (WT.free hx) ⟨Ab,l5,l3::ta,k9,r6 _ _ g5, ?_,fun j t hj=> ?_⟩
        . show(l3::ta).length=(⟨o.product,g⟩::b.tickets:List Sw76.Ticket).length
          rw[abG,abG,IP.len]
        have hj:(⟨o.product,g⟩::b.tickets:List Sw76.Ticket)[j]?=some t:=hj
        cases j with
        |zero=>
         cases hj
         exact⟨l3,U,r6 _ _ (r5 _ _ (r4 _ _ g3))⟩
        |succ j=>
         obtain⟨a',e1,e2⟩:=(vY IP (WT.trans r6)).at_ j t hj
         exact⟨a',e1,e2⟩
       generalize Z3:Cg g b o=bu at new⊢
       cases best with
       |none=>
        have hv:v= .dR:=hv
        subst hv
        rw[dC]
        refine⟨_,U,U,_,U, ?_⟩
        refine aK (fun _=> ?_) (fun z=>(z rfl).elim)
        refine aK (fun _=> ?_) (fun z=>(z rfl).elim)
        refine new _ fun x H6 s6 hx Px=> ?_
        exact⟨.ref x,_,_,_,_,_,U,s2.trans s6,x,U,s2.free hx,Px⟩
       |some y=>
        obtain⟨ya,rfl,Pz,M0⟩:=hv
        obtain⟨UI,Yj,Yk,M0,WU⟩:=M0.ex
        rw[bt]
        refine⟨_,U,U,_,U, ?_⟩
        refine aK (fun q=>by cases of_decide_eq_true q) (fun _=> ?_)
        refine⟨_,U,_,U,_,_,_,_,_,U,M0,T.bV,T.fB,U,_,_,U,U,_,U, ?_⟩
        dsimp only
        refine aK (fun q=> ?_) (fun q=> ?_)
        . have q:bu.price<y.price:=by
           have:=of_decide_eq_true q
           lia
          rw[if_pos q]
          refine new _ fun x H6 s6 hx Px=> ?_
          exact⟨.ref x,_,_,_,_,_,U,s2.trans s6,x,U,s2.free hx,Px⟩
        have q:¬bu.price<y.price:=fun z=>q (decide_eq_true (by lia))
        rw[if_neg q]
        refine⟨_,U,_,U,_,_,_,_,_,U,M0,T.bV,T.fB,U,U,_,U, ?_⟩
        refine aK (fun q2=> ?_) (fun q2=> ?_)
        . have q2:bu.price=y.price:=by
           have:=of_decide_eq_true q2
           injection this with this
           lia
          rw[if_neg (by lia)]
          refine⟨_,U,ya,_,UI,_,_,U,M0,T.bV,T.iB,U,_,U,_,_,U,U,UI,_,M0,Ud, ?_⟩
          rw[fq (by decide+kernel),jt]
          refine⟨.ref ya,_,_,_,_,_,U,ak.fy s2 Pz,ya,U,Pz,UI,Yj,Yk, ?_, ?_⟩
          . rw[af]
            rfl
          refine WU.mono ?_ fun a' t' _ h=> ?_
          . rw[au (bH WU.lst M0 (by intro q;cases q))]
          have h:H2 a'=_:=h
          show(upd H2 ya _) a'=_
          rw[au (bH h M0 (by intro q;cases q))]
          exact h
        have q2:¬bu.price=y.price:=fun z=>by
         apply q2
         rw[z]
         exact decide_eq_true rfl
        rw[if_pos (by lia)]
        exact⟨.ref ya,_,_,_,_,_,U,s2,ya,U,Pz,UI,Yj,Yk,M0,WU⟩
 rintro σ H2 ⟨v,o5,o6,o7,o8,o9,rfl,s2,hv⟩
 exact⟨_,U,k H2 v s2 hv⟩
end
theorem K2{α:Type}{l:List α}:∀{js:List Nat}{i:Nat},(∀j∈js,j<l.length)->(js.filterMap fun j=>l[j]?)[i]?=(js[i]?).bind fun j=>l[j]?
 |[],i,_=>by simp
 |j::js,i,h=>by
  have hj:=h j (by simp)
  have e:l[j]?=some l[j]:=acf hj
  rw[abl,e]
  dsimp only
  cases i with
  |zero=>simp[e]
  |succ i=>
   have:=K2 (l:=l) (js:=js) (i:=i) fun j hj=>h j (abn _ hj)
   simpa using this
theorem zw{α:Type}{l:List α}:∀{js:List Nat},(∀j∈js,j<l.length)->(js.filterMap fun j=>l[j]?).length=js.length
 |[],_=>rfl
 |j::js,h=>by
  have e:l[j]?=some (l[j]'(h j (by simp))):=acf (h j (by simp))
  rw[abl,e]
  dsimp only
  rw[abG,abG,zw fun j hj=>h j (abn _ hj)]
theorem Rep.pick {α:Type} {P:Hp->Addr->α->Prop} {H:Hp} {l D:Addr} {as:List Addr} {xs:List α} {js:List Nat} (r:Rep P H l as xs) (hj:∀j∈js,j<xs.length) (hD:H D=some (.lst ((js.filterMap fun j=>as[j]?).map V.ref))):Rep P H D (js.filterMap fun j=>as[j]?) (js.filterMap fun j=>xs[j]?):=by
 have Yl:∀j∈js,j<as.length:=fun j h=>by rw[r.len];exact hj j h
 refine⟨hD,by rw[zw hj,zw Yl],fun i x h=> ?_⟩
 rw[K2 hj]at h
 rw[K2 Yl]
 cases e:js[i]?with
 |none=>rw[e]at h;cases h
 |some j=>
  rw[e]at h
  have h:xs[j]?=some x:=h
  obtain⟨a,h1,h2⟩:=r.at_ j x h
  exact⟨a,h1,h2⟩
theorem AF{g g':Sw76.Product->Bool}{ps:List Sw76.Product}(h:∀p∈ps,g p=g' p):gq g ps=gq g' ps:=by
 have key:∀(l:List (Sw76.Product×Nat))(o:Option Off3),(∀x∈l,g x.1=g' x.1)->l.foldl (eu g) o=l.foldl (eu g') o:=by
  intro l
  induction l with
  |nil=>intro o _;rfl
  |cons x l ih=>
   intro o hx
   rw[acb,acb,ih _ fun y hy=>hx y (abn _ hy)]
   congr 1
   unfold eu
   rw[hx x (by simp)]
 unfold gq
 refine key _ _ fun x hx=>h x.1 ?_
 obtain⟨i,hi⟩:=acv.mp hx
 rw[ac5]at hi
 cases e:ps[i]?with
 |none=>rw[e]at hi;cases hi
 |some p=>
  rw[e]at hi
  have hi:(p,0+i)=x:=Option.some.inj hi
  rw[<-hi]
  exact abW e
theorem F4{g:Sw76.Product->Bool}{ps:List Sw76.Product}{o:Off3}(h:gq g ps=some o):o.yX<=ps.length+1:=by
 have key:∀(l:List (Sw76.Product×Nat))(a:Option Off3)(n:Nat),(∀x,a=some x->x.yX<=n+1)->∀x,l.foldl (eu g) a=some x->x.yX<=n+l.length+1:=by
  intro l
  induction l with
  |nil=>intro a n h x hx;exact h x hx
  |cons y l ih=>
   intro a n h x hx
   rw[acb]at hx
   have:=ih _ (n+1) (fun z hz=> ?_) x hx
   . rw[abG]
     lia
   unfold eu at hz
   split at hz
   . have:=h z hz
     lia
   cases a with
   |none=>
    cases hz
    show 1<=_
    lia
   |some b=>
    have hb:=h b rfl
    dsimp only at hz
    split at hz
    . cases hz
      show 1<=_
      lia
    split at hz
    . cases hz
      show b.yX+1<=_
      lia
    cases hz
    lia
 unfold gq at h
 have:=key _ none 0 (fun x hx=>by cases hx) o h
 rw[List.length_zipIdx]at this
 lia
theorem F5{a b:Option Sw76.Best}{x:Sw76.Best}{n:Nat}(ha:∀y,a=some y->y.tickets.length<=n)(hb:∀y,b=some y->y.tickets.length<=n)(h:Sw76.cheaper a b=some x):x.tickets.length<=n:=by
 cases a with
 |none=>rw[dC]at h;exact hb x h
 |some a=>
  cases b with
  |none=>rw[dB]at h;exact ha x h
  |some b=>
   rw[bt]at h
   split at h
   . exact hb x h
   split at h
   . exact ha x h
   cases h
   exact ha a rfl
theorem M1{os:Nat->Option Off3}{hs:Nat->Option Sw76.Best}{m f:Nat}(h:∀i b,i<m->hs i=some b->b.tickets.length<=i):∀(l:List Nat)(a:Option Sw76.Best),(∀g∈l,g<=m)->(∀y,a=some y->y.tickets.length<=m)->∀x,l.foldl (g9 os hs m f) a=some x->x.tickets.length<=m:=by
 intro l
 induction l with
 |nil=>intro a _ h x hx;exact h x hx
 |cons g l ih=>
  intro a hl ha x hx
  rw[acb]at hx
  refine ih _ (fun g hg=>hl g (abn _ hg)) (fun y hy=> ?_) x hx
  have hg:=hl g (by simp)
  unfold g9 at hy
  split at hy
  . exact ha y hy
  rename_i c
  have WN:1<=g:=by
   apply acp
   intro q
   have:g=0:=by lia
   subst this
   simp at c
  revert hy
  cases os g with
  |none=>exact fun hy=>ha y hy
  |some o=>
   cases eh:hs (m-g)with
   |none=>exact fun hy=>ha y hy
   |some b=>
    intro hy
    have hb:=h (m-g) b (by lia) eh
    refine F5 ha (fun z hz=> ?_) hy
    cases hz
    show(⟨o.product,g⟩::b.tickets:List Sw76.Ticket).length<=m
    rw[abG]
    lia
theorem zx{d:Sw76.Desk}{n k:Nat}:dJ d n (k+1)=dJ d n k++[if k=0 then some ⟨0,1,[]⟩else(List.range (k+1)).foldl (pj d (fun i=>(dJ d n k).getD i none) n k ((mem k).headD 0)) none]:=rfl
theorem vZ{d:Sw76.Desk}{n k j:Nat}(h:j<k):(dJ d n (k+1)).getD j none=(dJ d n k).getD j none:=by
 rw[zx,acd,abU (by rw[pk];exact h),<-acd]
theorem v7{d:Sw76.Desk}{n k:Nat}:(dJ d n (k+1)).getD k none=if k=0 then some ⟨0,1,[]⟩else(List.range (k+1)).foldl (pj d (fun i=>(dJ d n k).getD i none) n k ((mem k).headD 0)) none:=by
 have h:(dJ d n k).length=k:=pk
 rw[zx,acd,abT (by lia),h,acY]
 rfl
theorem zy{d:Sw76.Desk}{n:Nat}:∀{k i:Nat}{b:Sw76.Best},i<k->(dJ d n k).getD i none=some b->b.tickets.length<=i
 |0,i,b,h,_=>by lia
 |k+1,i,b,h,e=>by
  by_cases c:i<k
  . rw[vZ c]at e
    exact zy c e
  have:i=k:=by lia
  subst this
  rw[v7]at e
  split at e
  . cases e
    exact abE _
  rw[ua]at e
  exact M1 (fun j b hj hb=>zy hj hb) _ none (fun g hg=>by have:=abi.mp hg;lia) (fun y hy=>by cases hy) b e
theorem Eu{os Uc:Nat->Option Off3}{hs:Nat->Option Sw76.Best}{m f:Nat}(h:∀g,g≠0->g<=m->os g=Uc g):∀(l:List Nat)(a:Option Sw76.Best),(∀g∈l,g<=m)->l.foldl (g9 os hs m f) a=l.foldl (g9 Uc hs m f) a:=by
 intro l
 induction l with
 |nil=>intro a _;rfl
 |cons g l ih=>
  intro a hl
  rw[acb,acb,ih _ fun g hg=>hl g (abn _ hg)]
  congr 1
  unfold g9
  by_cases c:(g.testBit f&&hasAll m g)=false
  . rw[if_pos c,if_pos c]
  rw[if_neg c,if_neg c,h g (fun q=> ?_) (hl g (by simp))]
  subst q
  simp at c
def j2(H:Hp)(l:Addr):Prop:=∃v r,H l=some (.lst (v::r))/\(v= .dR\/∃a C dx fs,v= .ref a/\H a=some (.ins C dx fs))
theorem j2.tick {H:Hp} {l a:Addr} {t:Sw76.Ticket} (h:j2 H l) (ht:rJ H a t):a≠l:=by
 intro q
 subst q
 obtain⟨v,r,h1,h2⟩:=h
 unfold rJ at ht
 rw[h1]at ht
 have ht:=Option.some.inj ht
 injection ht with ht
 have ht:v= .int (t.product:Nat):=(List.cons.inj ht).1
 rcases h2 with rfl|⟨_,_,_,_,rfl,_⟩
 . cases ht
 cases ht
theorem j2.list {H:Hp} {l a:Addr} {as:List Addr} {ts:List Sw76.Ticket} (h:j2 H l) (ht:Rep rJ H a as ts):a≠l:=by
 intro q
 subst q
 obtain⟨v,r,h1,h2⟩:=h
 have e:=ht.lst
 rw[h1]at e
 have e:=Option.some.inj e
 injection e with e
 cases as with
 |nil=>cases e
 |cons b as=>
  have ev:v= .ref b:=(List.cons.inj e).1
  have hl:=ht.len
  cases ts with
  |nil=>cases hl
  |cons t ts=>
   obtain⟨b',e1,e2⟩:=ht.at_ 0 t rfl
   cases e1
   unfold rJ at e2
   rcases h2 with rfl|⟨c,_,_,_,rfl,hc⟩
   . cases ev
   cases ev
   rw[e2]at hc
   cases hc
theorem u5.but {A:Ad} {H:Hp} {a l:Addr} {b:Sw76.Best} {o:HO} (h:u5 A H a b) (hl:j2 H l):u5 A (upd H l o) a b:=by
 obtain⟨dx,tl,ta,h1,h2⟩:=h.ex
 have e:=hl.list h2
 obtain⟨v,r,g1,_⟩:=id hl
 refine⟨dx,tl,ta, ?_,h2.mono (by rw[au e]) fun a' t _ ht=> ?_⟩
 . rw[au (bH h1 g1 (by intro q;cases q))]
   exact h1
 have Sw:=ht
 unfold rJ at Sw⊢
 rw[au (hl.tick ht)]
 exact Sw
theorem xK.but {A:Ad} {H:Hp} {l:Addr} {v:V} {b:Option Sw76.Best} {o:HO} (h:xK A H v b) (hl:j2 H l):xK A (upd H l o) v b:=by
 cases b with
 |none=>exact h
 |some b=>
  obtain⟨a,e,h1⟩:=h
  exact⟨a,e,h1.but hl⟩
theorem OffW.but {A:Ad} {H:Hp} {l:Addr} {xs:List V} {v:V} {b:Option Off3} {o:HO} (h:OffW A H v b) (hl:H l=some (.lst xs)):OffW A (upd H l o) v b:=by
 cases b with
 |none=>exact h
 |some b=>
  obtain⟨a,e,dx,h1⟩:=h
  exact⟨a,e,dx,by rw[au (bH h1 hl (by intro q;cases q))];exact h1⟩
theorem j2.same {H H':Hp} {l:Addr} (h:j2 H l) (s:ak H H'):j2 H' l:=by
 obtain⟨v,r,h1,h2⟩:=h
 refine⟨v,r,s _ _ h1, ?_⟩
 rcases h2 with h2|⟨a,C,dx,fs,e,h3⟩
 . exact .inl h2
 exact .inr ⟨a,C,dx,fs,e,s _ _ h3⟩
theorem xM.push {α:Type} {P:Hp->V->α->Prop} {H H':Hp} {l:Addr} {vs:List V} {f:Nat->α} {v:V} (r:xM P H l vs f) (hl:H' l=some (.lst (vs++[v]))) (hp:∀u x,P H u x->P H' u x) (new:P H' v (f vs.length)):xM P H' l (vs++[v]) f:=by
 refine⟨hl,fun i u h=> ?_⟩
 by_cases c:i<vs.length
 . rw[abU c]at h
   exact hp _ _ (r.at_ i u h)
 have di:=(abt.mp h).1
 rw[abX,ab1]at di
 have e:i=vs.length:=by lia
 subst e
 rw[abT (abB _),acY]at h
 cases h
 exact new
def Ew(d:Sw76.Desk)(g:Nat):Option Off3:=if g=0 then none else gq (fun p=>d.good p g) d.products
theorem IQ{d:Sw76.Desk}{g:Nat}{o:Off3}(h:Ew d g=some o)(h8:d.products.length<=8):o.yX<1000:=by
 unfold Ew at h
 split at h
 . cases h
 have:=F4 h
 lia
theorem K3{d:Sw76.Desk}{n g first:Nat}{rest:List Nat}(h0:g≠0)(hm:mem g=first::rest):(dJ d n (g+1)).getD g none=(List.range (g+1)).foldl (g9 (Ew d) (fun i=>(dJ d n g).getD i none) g first) none:=by
 rw[v7,if_neg h0,ua,hm]
 refine Eu (fun q hq _=> ?_) _ none fun q hq=>by have:=abi.mp hq;lia
 unfold Ew
 rw[if_neg hq]
theorem BO{g n:Nat}(h:g<2^n):∀j∈mem g,j<n:=fun j hj=>by
 apply acp
 intro c
 have:=mem_iff.mp hj
 rw[fx h (by lia)]at this
 cases this
theorem PB{R:List R3}{g:Nat}(h:g<2^R.length)(h0:g≠0):yf R g≠[]:=by
 obtain⟨f,rest,hm⟩:=Ci h0
 have:=zw (l:=R) (js:=mem g) (BO h)
 intro q
 unfold yf at q
 rw[q,hm]at this
 simp at this
section
variable{P:Program}{w:World}{K:PySem.W.Frag}{mg:Str->Option Value}{base:Heap}{A:Ad}
def zA(A:Ad):Sp:=fun vs H Q _=>∃(f fb pl rl:Addr)(bs:List Nat)(ps ra:List Addr)(D:Sw76.Desk)(R:List R3),vs=[.ref f, .ref rl]/\nM A H f fb pl bs ps D/\D.map.zones<=8/\Rep (iJ A) H rl ra R/\R.length<=7/\(∀r∈R,Al D.map.zones r)/\(∀p∈D.products,1<=p.persons)/\D.products.length<=8/\
 ∀(H':Hp)(v:V),ak H H'->xK A H' v (({D with journeys:=R.map mM}:Sw76.Desk).best)->Q v H'
abbrev j3:Stmt:=inClass (top 34) 8
theorem cR:aB ["self","rides","joined","offers","purchases","wanted","i"] ["self","rides"] (ao j3):=sm
theorem u6{f:Addr}{fd:FuncData}(F:eH K "cheapest" "Fares.cheapest" j3 f fd)(T:Txt K mg A)(ib:MethAt P w K mg base 5 A.c7 "joined_sets" ["self"] (Em A))(jA:MethAt P w K mg base 4 A.c7 "offer_for" ["self","rides","joined"] (zr A))(dH:FnAt P w K mg base 1 "members" ["numbers"] lR)(ic:FnAt P w K mg base 3 "cheapest_purchase" ["wanted","offers","purchases"] (Es A))(j1:eG P w K mg base 1 "Purchase" A.bK ["self","price","ways","tickets"] (uD A.bK ["price","ways","tickets"])):bq P w K mg base eD 6 f fd ["self","rides"] (zA A):=by
 refine F.ok cR (fun vs H Q E h=> ?_) (fun dz Ar outer s H vs Q E hr h=> ?_)
 . obtain⟨_,_,_,_,_,_,_,_,_,rfl,_⟩:=h
   rfl
 obtain⟨f',fb,pl,rl,bs,ps,ra,D,R,rfl,hF,He,hR,h7,dD,Z4,Z5,k⟩:=h
 obtain⟨dx,hi⟩:=hF.ins
 refine⟨_,(ae (aC (i:=2) cR.nd rfl oi (Bw (pv 0) ib hr))
  (ae (aC (i:=3) cR.nd rfl oi (bb (aa cI ag)))
  (ae (aC (i:=4) cR.nd rfl oi (bb (aa (cv j1 hr rfl (aa aj (aa aj (aa (bb ag) ag)))) ag)))
  (ae (dI acZ rfl (r8 rfl T.pq (aa aj (aa (bA qH aj (aP aD (by rfl) T.dF ada (aa (pv 1) ag))) ag))) (aX (i:=5) cR.nd rfl oi) (ae (cF (k0 ac0 ac1 ac2 fu (pv 3) (aa (bB (pv 0) jA hr (aa (wB (te:=xr (Ai K) (cT 1) (cT 6)) rfl cR.nd (cG (aO dH hr rfl (aa (pv 5) ag))) (ee (own:=[("i",6)]) (by rfl)) (fun _ _ _ _ _=>(aX (i:=6) cR.nd rfl oi)) (fun _ _ _ _ _=>iu) (fun _ _ _ _ _=>(aM ax (pv 1) (pv 6) (fun _ _=>rfl)))) (aa (pv 2) ag))) ag)))
  (ah (cF (k0 ac0 ac1 ac2 fu (pv 4) (aa (aO ic hr rfl (aa (pv 5) (aa (pv 3) (aa (pv 4) ag)))) ag))))))
  (ah (aA (aM ax (pv 4) (cJ bS aj) (fun _ _=>rfl)))))))), ?_⟩
 refine⟨_,U,f',dx,_,U,hi,U,f',fb,pl,bs,ps,D,U,hF,He,fun H1 jl js s1 Z6 WV Ym Z7=> ?_⟩
 have WK:∀t∈js,bl t<=1000:=fun t ht=>abk (zo ((Ym t).mp ht).2.1) (by lia)
 refine⟨Ud,fun ol O7=> ?_⟩
 have s2:ak H1 (upd H1 ol (.lst [V.dR])):=ak.upd O7
 have o2:(upd H1 ol (.lst [V.dR])) ol=some (.lst [V.dR]):=af
 have WW:H ol=none:=s1.free O7
 have Z8:jl≠ol:=aw WV O7
 generalize upd H1 ol (.lst [V.dR])=H2 at s2 o2⊢
 refine⟨abE _,fun t0 Uw=> ?_⟩
 have s3:ak H2 (upd H2 t0 (.lst [])):=ak.upd Uw
 have t3:(upd H2 t0 (.lst [])) t0=some (.lst []):=af
 generalize upd H2 t0 (.lst [])=H3 at s3 t3⊢
 intro x Ab hx hd ir
 refine⟨x,Ab,_,U,U,af,U, ?_⟩
 rw[aL]
 have s4:=dE (C:=A.bK) (fs:=[("price", .int 0),("ways", .int 1),("tickets", .ref t0)]) hx hd
 have x4:(mk H3 x Ab A.bK [("price", .int 0),("ways", .int 1),("tickets", .ref t0)]) x=some (.ins A.bK Ab [("price", .int 0),("ways", .int 1),("tickets", .ref t0)]):=k9
 refine⟨Ud,fun CV M3=> ?_⟩
 have M3:(mk H3 x Ab A.bK [("price", .int 0),("ways", .int 1),("tickets", .ref t0)]) CV=none:=M3
 have s5:ak (mk H3 x Ab A.bK [("price", .int 0),("ways", .int 1),("tickets", .ref t0)]) (upd (mk H3 x Ab A.bK [("price", .int 0),("ways", .int 1),("tickets", .ref t0)]) CV (.lst [V.ref x])):=ak.upd M3
 have p5:(upd (mk H3 x Ab A.bK [("price", .int 0),("ways", .int 1),("tickets", .ref t0)]) CV (.lst [V.ref x])) CV=some (.lst [V.ref x]):=af
 have SJ:ak H2 (upd (mk H3 x Ab A.bK [("price", .int 0),("ways", .int 1),("tickets", .ref t0)]) CV (.lst [V.ref x])):=(s3.trans s4).trans s5
 have x5:=s5 _ _ x4
 have t5:=s5 _ _ (s4 _ _ t3)
 have K4:H2 CV=none:=(s3.trans s4).free M3
 have UJ:ol≠CV:=aw o2 K4
 have Z9:jl≠CV:=aw (s2 _ _ WV) K4
 have SK:H CV=none:=(s1.trans s2).free K4
 show Ah _ _ _ _ (upd (mk H3 x Ab A.bK [("price", .int 0),("ways", .int 1),("tickets", .ref t0)]) CV (.lst [V.ref x]))
 generalize upd (mk H3 x Ab A.bK [("price", .int 0),("ways", .int 1),("tickets", .ref t0)]) CV (.lst [V.ref x])=H5 at SJ p5 x5 t5⊢
 have Yn:ak H H5:=(s1.trans s2).trans SJ
 refine⟨_,U,_,_,U, .inl (aW.of (Yn _ _ hR.lst)),_,_,U,U, ?_⟩
 rw[hR.cz]
 have WX:2^R.length<=128:=acI (n:=2) (j:=7) (by decide) h7
 have nF:0<2^R.length:=acH _
 obtain⟨N,hN⟩:∃N,2^R.length=N:=⟨_,rfl⟩
 rw[hN]at WX nF
 refine⟨⟨(by lia),(by lia),(by decide)⟩,1,(N:Int),(by
  show [V.int 1,V.int (1*2^((R.length:Int)).toNat)]=[V.int 1,V.int (N:Int)]
  rw[mW,hN]),⟨(by lia),(by lia),(by lia),(by lia)⟩, ?_⟩
 have en:((N:Int)-1).toNat=N-1:=by lia
 rw[en]
 have hdj:({D with journeys:=R.map mM}:Sw76.Desk).journeys=R.map mM:=rfl
 have K5:=G5 (d:=({D with journeys:=R.map mM}:Sw76.Desk)) (n:=R.length) (by simp)
 rw[hN]at K5
 have Hd:∀g,g<2^R.length->g≠0->CT (yf R g) js D=Ew {D with journeys:=R.map mM} g:=fun g hg h0=>by
  unfold Ew CT
  rw[if_neg h0]
  refine AF fun p hp=> ?_
  exact(Mp (d:=({D with journeys:=R.map mM}:Sw76.Desk)) hdj hg h0 dD Ym Z7 (Z4 p hp)).symm
 have V8:({D with journeys:=R.map mM}:Sw76.Desk).products.length<=8:=Z5
 generalize({D with journeys:=R.map mM}:Sw76.Desk)=d at K5 Hd V8 k
 refine vy (fun i σ H'=>∃ov Et o5 o6,σ=[some (.ref f'),some (.ref rl),some (.ref jl),some (.ref ol),some (.ref CV),o5,o6]/\ak H H'/\H' jl=some (.lst (b9 js))/\xM (OffW A) H' ol ov (Ew d)/\xM (xK A) H' CV Et (fun j=>(dJ d R.length (1+i)).getD j none)/\ov.length=1+i/\Et.length=1+i/\j2 H' ol/\j2 H' CV)
  ⟨[V.dR],[V.ref x],none,none,rfl,Yn,(s2.trans SJ) _ _ WV,⟨SJ _ _ o2,fun i v h=> ?_⟩,⟨p5,fun i v h=> ?_⟩,rfl,rfl,⟨_,_,SJ _ _ o2, .inl rfl⟩,⟨_,_,p5, .inr ⟨x,_,_,_,rfl,x5⟩⟩⟩ ?_ ?_
 . have:i=0:=by
    have:=(abt.mp h).1
    simp at this
    lia
   subst this
   cases h
   rfl
 . have:i=0:=by
    have:=(abt.mp h).1
    simp at this
    lia
   subst this
   cases h
   exact⟨x,U,⟨Ab,t0,[],x5,Rep.nil t5⟩⟩
 . rintro i σ H6 di ⟨ov,Et,o5,o6,rfl,s6,WY,hO,hP,lO,lP,nO,nP⟩
   rw[show(1:Int)+(i:Int)=((1+i:Nat):Int) by lia]
   have Yo:1+i<N:=by lia
   have OK:1+i≠0:=by lia
   have eC:dJ d R.length (1+(i+1))=dJ d R.length ((1+i)+1):=by
    congr 1
   rw[eC]
   have e1:1+(i+1)=(1+i)+1:=by lia
   rw[e1]
   generalize 1+i=g at Yo OK lO lP hP⊢
   have WZ:g<2^R.length:=by rw[hN];exact Yo
   have hb8:bl g<=1000:=abk (zo (n:=7) (show g<2^7 by lia)) (by lia)
   obtain⟨f0,rest,hm⟩:=Ci OK
   have W0:=BO WZ
   refine⟨_,U, .inl ⟨U,_,aW.of hO.lst⟩,_,U,f',dx,_,U,s6 _ _ hi,U,_,U,g,U,hb8,fun p hp=>⟨_,U,⟨_,aW.of af⟩,fun D' SA=> ?_⟩⟩
   have s7:ak H6 (upd H6 p (.lst (b9 (mem g)))):=ak.upd hp
   have p7:(upd H6 p (.lst (b9 (mem g)))) p=some (.lst (b9 (mem g))):=af
   generalize upd H6 p (.lst (b9 (mem g)))=H7 at s7 p7 SA⊢
   refine xZ (K:=K) (a:=p) (xs:=b9 (mem g)) (fun j H'=>ak H7 H'/\H' D'=some (.lst ((((mem g).take j).filterMap fun q=>ra[q]?).map V.ref))) ⟨ak.upd SA,by rw[af];rfl⟩ (fun j H' _⟨s8,_⟩=>aW.of (s8 _ _ p7)) ?_ ?_
   . rintro j v H8 hv ⟨s8,h8⟩
     have UH:j<(mem g).length:=by
      have:=(abt.mp hv).1
      rw[cX]at this
      exact this
     obtain⟨q,eq⟩:∃q,(mem g)[j]?=some q:=⟨_,acf UH⟩
     rw[mX eq]at hv
     cases hv
     have hq:=W0 q (abW eq)
     obtain⟨aq,ea⟩:∃aq,ra[q]?=some aq:=⟨_,acf (show q<ra.length by rw[hR.len];exact hq)⟩
     have Vg:(ra.map V.ref)[q]?=some (.ref aq):=by rw[abV,ea];rfl
     refine⟨U, ?_⟩
     unfold Dy
     refine aK (fun _=> ?_) (fun c=>(c rfl).elim)
     refine⟨_,U,_,U,_,_,_,_,U,U,aW.of (s8 _ _ (s7 _ _ (s6 _ _ hR.lst))),c9 Vg,_,h8, ?_,ak.fy s8 SA, ?_⟩
     . rw[abI]
       refine acW (List.length_filterMap_le _ _) ?_
       rw[abR]
       have:(mem g).length<=7:=by
        rw[eT (k:=7) (show g<2^7 by lia)]
        refine abk (acN _ _) ?_
        rw[acL]
        exact abB _
       exact acW (abk (ac7 _ _) this) (by decide)
     rw[af,take_snoc eq,List.filterMap_append,acX]
     rw[show List.filterMap (fun q=>ra[q]?) [q]=[aq] by rw[abl,ea];rfl]
     rfl
   rintro H8 ⟨s8,h8⟩
   rw[cX,ac3]at h8
   have Yp:=(s6.trans s7).trans s8
   have hR8:=(hR.same (gX A) Yp).pick (js:=mem g) W0 h8
   refine⟨_,U,f',fb,pl,D',jl,bs,js,ps,_,D,yf R g,U,hF.same Yp,hR8,PB WZ OK, ?_,(s7.trans s8) _ _ WY,WK,fun H9 v s9 hv=> ?_⟩
   . refine abk (List.length_filterMap_le _ _) ?_
     have:=zw (l:=R) (js:=mem g) W0
     have:(mem g).length<=7:=by
      rw[eT (k:=7) (show g<2^7 by lia)]
      refine abk (acN _ _) ?_
      rw[acL]
      exact abB _
     lia
   rw[Hd g WZ OK]at hv
   have NO:=(s7.trans s8).trans s9
   have QR:=hO.same NO fun v x h=>h.same NO
   have Yq:=hP.same NO fun v x h=>h.same NO
   have Yr:=nO.same NO
   have nP9:=nP.same NO
   have hj9:=NO _ _ WY
   have s09:=s6.trans NO
   have hv9:=hv.w
   refine⟨ol,_,_,U,U,QR.lst,(by rw[lO];exact acW (show g<=128 by lia) (by decide)), ?_⟩
   have PD:=QR.push (v:=v) (H':=upd H9 ol (.lst (ov++[v]))) af (fun u x h=>h.but QR.lst) (by rw[lO];exact hv9.but QR.lst)
   have M4:xM (xK A) (upd H9 ol (.lst (ov++[v]))) CV Et (fun j=>(dJ d R.length g).getD j none):=⟨by rw[au (abp UJ)];exact Yq.lst,fun i u h=>(Yq.at_ i u h).but Yr⟩
   have SM:(upd H9 ol (.lst (ov++[v]))) jl=some (.lst (b9 js)):=by rw[au Z8];exact hj9
   have SN:j2 (upd H9 ol (.lst (ov++[v]))) ol:=by
    obtain⟨u,r,g1,g2⟩:=id Yr
    have eov:ov=u::r:=by
     have:=QR.lst
     rw[g1]at this
     have:=Option.some.inj this
     injection this with this
     exact this.symm
    subst eov
    refine⟨u,r++[v],af, ?_⟩
    rcases g2 with g2|⟨a,C,PF,fs,e,g3⟩
    . exact .inl g2
    exact .inr ⟨a,C,PF,fs,e,by rw[au (bH g3 g1 (by intro q;cases q))];exact g3⟩
   have SO:j2 (upd H9 ol (.lst (ov++[v]))) CV:=by
    obtain⟨u,r,g1,g2⟩:=id nP9
    refine⟨u,r,by rw[au (abp UJ)];exact g1, ?_⟩
    rcases g2 with g2|⟨a,C,PF,fs,e,g3⟩
    . exact .inl g2
    exact .inr ⟨a,C,PF,fs,e,by rw[au (bH g3 QR.lst (by intro q;cases q))];exact g3⟩
   have VE:ak H (upd H9 ol (.lst (ov++[v]))):=ak.fy s09 WW
   generalize upd H9 ol (.lst (ov++[v]))=Y0 at PD M4 SM SN SO VE⊢
   refine⟨_,U, .inl ⟨U,_,aW.of M4.lst⟩,_,U,_,U,_,U,ol,CV,ov++[v],Et,Ew d,_,g,f0,rest,U,hm,(by lia),PD,M4,(by rw[abX,ab1,lO]),lP,fun q o ho=>IQ ho V8,fun q b hb=> ?_,fun H11 v11 L4 SQ=> ?_⟩
   . by_cases c:q<g
     . have:=zy c hb
       lia
     rw[acd,ab7 (by rw[pk];lia)]at hb
     cases hb
   rw[<-K3 OK hm]at SQ
   have SR:=PD.same L4 fun v x h=>h.same L4
   have IS:=M4.same L4 fun v x h=>h.same L4
   have W2:=SN.same L4
   have PH:=SO.same L4
   refine⟨CV,_,_,U,U,IS.lst,(by rw[lP];exact acW (show g<=128 by lia) (by decide)), ?_⟩
   refine⟨ov++[v],Et++[v11],_,_,U,ak.fy (VE.trans L4) SK, ?_, ?_, ?_, ?_, ?_, ?_, ?_⟩
   . rw[au Z9]
     exact L4 _ _ SM
   . exact⟨by rw[au UJ];exact SR.lst,fun i u h=>(SR.at_ i u h).but IS.lst⟩
   . have W3:xM (xK A) H11 CV Et (fun j=>(dJ d R.length (g+1)).getD j none):=⟨IS.lst,fun i u h=>by
      have:=(abt.mp h).1
      rw[vZ (by lia)]
      exact IS.at_ i u h⟩
     refine W3.push af (fun u x h=>h.but PH) ?_
     rw[lP]
     exact(SQ.v).but PH
   . rw[abX,ab1,lO]
   . rw[abX,ab1,lP]
   . obtain⟨u,r,g1,g2⟩:=id W2
     refine⟨u,r,by rw[au UJ];exact g1, ?_⟩
     rcases g2 with g2|⟨a,C,PF,fs,e,g3⟩
     . exact .inl g2
     exact .inr ⟨a,C,PF,fs,e,by rw[au (bH g3 IS.lst (by intro q;cases q))];exact g3⟩
   obtain⟨u,r,g1,g2⟩:=id PH
   have epv:Et=u::r:=by
    have:=IS.lst
    rw[g1]at this
    have:=Option.some.inj this
    injection this with this
    exact this.symm
   subst epv
   refine⟨u,r++[v11],af, ?_⟩
   rcases g2 with g2|⟨a,C,PF,fs,e,g3⟩
   . exact .inl g2
   exact .inr ⟨a,C,PF,fs,e,by rw[au (bH g3 g1 (by intro q;cases q))];exact g3⟩
 rintro σ H6 ⟨ov,Et,o5,o6,rfl,s6,WY,hO,hP,lO,lP,nO,nP⟩
 have eN:1+(N-1)=N:=by lia
 rw[eN]at lP hP
 obtain⟨v,el⟩:∃v,Et[Et.length-1]?=some v:=⟨_,acf (by lia)⟩
 have hv:=hP.at_ _ _ el
 rw[lP,<-K5]at hv
 refine⟨_,U,_,U,_,_,_,_,U,U,aW.of hP.lst,yk el, ?_⟩
 exact k H6 v s6 hv
end
def oE(S:Addr->Prop)(H H':Hp):Prop:=∀b o,H b=some o->¬S b->H' b=some o
theorem v8{H H':Hp}{l:Addr}(k:gu H H' l):oE (fun b=>b=l) H H':=fun b o e h=>k b o e h
theorem PJ{H H':Hp}{p q:Addr}(k:g8 H H' p q):oE (fun b=>b=p\/b=q) H H':=fun b o e h=>k b o e (fun z=>h (.inl z)) (fun z=>h (.inr z))
theorem rL{H:Hp}{l:Addr}{o:HO}:oE (fun b=>b=l) H (upd H l o):=fun b u e h=>by
 rw[au h]
 exact e
def K6(H:Hp)(l:Addr)(ns:List Str):Prop:=(∃xs,H l=some (.lst xs))\/∃C dx fs,H l=some (.ins C dx fs)/\∀f v r,fs=(f,v)::r->f∉ns
theorem K6.ne {H:Hp} {b l C dx:Addr} {f:Str} {v:V} {r:aV} {ns:List Str} (o:K6 H l ns) (h:H b=some (.ins C dx ((f,v)::r))) (hf:f∈ns):b≠l:=by
 rcases o with⟨xs,o⟩|⟨C',Ab,fs,o,hn⟩
 . exact bH h o (by intro q;cases q)
 refine bH h o ?_
 intro q
 injection q with _ _ q
 exact hn f v r q.symm hf
theorem sv{H:Hp}{l C dx:Addr}{f:Str}{v:V}{r:aV}{ns:List Str}(h:H l=some (.ins C dx ((f,v)::r)))(hf:f∉ns):K6 H l ns:= .inr ⟨C,dx,_,h,fun g u s q=>by
 injection q with q
 injection q with q
 rw[<-q]
 exact hf⟩
theorem m5{H:Hp}{l:Addr}{xs:List V}{ns:List Str}(h:H l=some (.lst xs)):K6 H l ns:= .inl ⟨xs,h⟩
theorem nM.but {A:Ad} {H H':Hp} {f fb pl:Addr} {bs:List Nat} {ps:List Addr} {D:Sw76.Desk} {S:Addr->Prop} (h:nM A H f fb pl bs ps D) (k:oE S H H') (hS:∀l,S l->K6 H l ["zones","any_zones"]/\fb≠l/\pl≠l):nM A H' f fb pl bs ps D:=by
 obtain⟨dx,hi⟩:=h.ins
 refine⟨⟨dx,k _ _ hi fun z=>(hS _ z).1.ne hi (by simp) rfl⟩,k _ _ h.bd fun z=>(hS _ z).2.1 rfl,h.bo,h.pr.mono (by rw[h.pr.lst];exact k _ _ h.pr.lst fun z=>(hS _ z).2.2 rfl) fun a x _⟨d,hd⟩=>⟨d,k _ _ hd fun z=>(hS _ z).1.ne hd (by simp) rfl⟩,h.ne⟩
def v9(A:Ad)(H:Hp)(l:Addr):Prop:=∀cs calls,Rep (gE A) H l cs calls->calls=[]
theorem zB{A:Ad}{H:Hp}{l:Addr}{as:List Addr}{α:Type}{P:Hp->Addr->α->Prop}{xs:List α}(hl:Rep P H l as xs)(Wt:∀a x y,gE A H a x->P H a y->False):v9 A H l:=fun cs calls hc=>by
 cases calls with
 |nil=>rfl
 |cons c calls=>exact(su hc (by simp) hl Wt rfl).elim
theorem xi{A:Ad}{H:Hp}{l:Addr}{zs:List Int}(h:H l=some (.lst (zs.map V.int))):v9 A H l:=fun cs calls hc=>by
 have e:=hc.lst
 rw[h]at e
 have e:=Option.some.inj e
 injection e with e
 have:=BA e.symm
 subst this
 have hl:=hc.len
 cases cs with
 |nil=>
  cases calls with
  |nil=>rfl
  |cons _ _=>cases hl
 |cons _ _=>cases e
theorem mx{A:Ad}{H:Hp}{l C dx:Addr}{fs:aV}(h:H l=some (.ins C dx fs)):v9 A H l:=fun cs calls hc=>by
 have e:=hc.lst
 rw[h]at e
 cases e
theorem AG{A:Ad}{H:Hp}(a:Addr)(x:Sg45.At)(y:Sw76.Product)(h1:gE A H a x)(h2:za A H a y):False:=by
 obtain⟨d1,h1⟩:=h1
 obtain⟨d2,h2⟩:=h2
 rw[h1]at h2
 injection h2 with h2
 injection h2 with _ _ h2
 exact fQ (by decide+kernel) h2
theorem AH{A:Ad}{H:Hp}(a:Addr)(x:Sg45.At)(y:R3)(h1:gE A H a x)(h2:iJ A H a y):False:=by
 obtain⟨d1,h1⟩:=h1
 obtain⟨d2,h2⟩:=h2
 rw[h1]at h2
 injection h2 with h2
 injection h2 with _ _ h2
 exact fQ (by decide+kernel) h2
theorem iZ.but {A:Ad} {H H':Hp} {t sl wl tl:Addr} {ss ws ts:List Addr} {T:Sg45.Table} {zs:List Nat} {day:Nat} {S:Addr->Prop} (h:iZ A H t sl wl tl ss ws ts T zs day) (ok:dQ T day) (k:oE S H H') (hS:∀l,S l->K6 H l ["weekday","change","start","stop","days"]/\sl≠l/\wl≠l/\tl≠l/\v9 A H l):iZ A H' t sl wl tl ss ws ts T zs day:=by
 obtain⟨dx,hi⟩:=h.ins
 refine⟨⟨dx,k _ _ hi fun z=>(hS _ z).1.ne hi (by simp) rfl⟩, ?_, ?_, ?_,h.zl⟩
 . exact h.st.mono (by rw[h.st.lst];exact k _ _ h.st.lst fun z=>(hS _ z).2.1 rfl) fun a x _⟨d,hd⟩=>⟨d,k _ _ hd fun z=>(hS _ z).1.ne hd (by simp) rfl⟩
 . exact h.wk.mono (by rw[h.wk.lst];exact k _ _ h.wk.lst fun z=>(hS _ z).2.2.1 rfl) fun a x _⟨d,hd⟩=>⟨d,k _ _ hd fun z=>(hS _ z).1.ne hd (by simp) rfl⟩
 refine⟨k _ _ h.tp.lst fun z=>(hS _ z).2.2.2.1 rfl,h.tp.len,fun i p hp=> ?_⟩
 obtain⟨a,h1,h2⟩:=h.tp.at_ i p hp
 obtain⟨d,cl,cs,g1,g2⟩:=h2.ex
 refine⟨a,h1,⟨d,cl,cs,k _ _ g1 fun z=>(hS _ z).1.ne g1 (by simp) rfl, ?_⟩⟩
 exact g2.mono (by rw[g2.lst];exact k _ _ g2.lst fun z=>uX (ok.tp p (abW hp)) ((hS _ z).2.2.2.2 _ _ g2)) fun a x _⟨d,hd⟩=>⟨d,k _ _ hd fun z=>(hS _ z).1.ne hd (by simp) rfl⟩
structure rM(A:Ad)(Pr:List Addr)(H:Hp)(v dv pa ll rl:Addr)(la ra:List Addr)(R:List R3)(n:Nat)(s:Sw83.St)(x:Sg45.Place):Prop where
 ins:H v=some (.ins A.aN dv (fL pa s.goal ll rl))
 pl:cY A H pa x
 lg:Rep ji H ll la s.legs
 rd:Rep (iJ A) H rl ra R
 rs:s.rides=R.map mM
 ro:∀r∈R,Al s.desk.map.zones r
 ln:s.legs.length<=100000
 rn:R.length<=n
 lr:ll≠rl
 W4:ll∉Pr
 QS:rl∉Pr
 UK:∀a∈la,a∉Pr
def gM(A:Ad)(Pr:List Addr)(H:Hp)(tv:V)(n:Nat)(s:Sw83.St):Prop:=match s.here with
 |none=>tv= .dR
 |some x=>∃v dv pa ll rl la ra R,tv= .ref v/\rM A Pr H v dv pa ll rl la ra R n s x
theorem rM.but {A:Ad} {Pr:List Addr} {H H':Hp} {v dv pa ll rl:Addr} {la ra:List Addr} {R:List R3} {n:Nat} {s:Sw83.St} {x:Sg45.Place} {S:Addr->Prop} (h:rM A Pr H v dv pa ll rl la ra R n s x) (k:oE S H H') (hS:∀l,S l->K6 H l ["place","stop","goes"]/\(l∈Pr\/∃C dx fs,H l=some (.ins C dx fs))):rM A Pr H' v dv pa ll rl la ra R n s x:=by
 have ln:∀b xs,H b=some (.lst xs)->b∉Pr->¬S b:=fun b xs hb hp z=>by
  rcases(hS _ z).2 with q|⟨C,dx,fs,q⟩
  . exact hp q
  rw[hb]at q;cases q
 obtain⟨dp,hp⟩:=h.pl
 refine⟨k _ _ h.ins fun z=>(hS _ z).1.ne h.ins (by simp) rfl,⟨dp,k _ _ hp fun z=>(hS _ z).1.ne hp (by simp) rfl⟩, ?_, ?_,h.rs,h.ro,h.ln,h.rn,h.lr,h.W4,h.QS,h.UK⟩
 . refine h.lg.mono (by rw[h.lg.lst];exact k _ _ h.lg.lst (ln _ _ h.lg.lst h.W4)) fun a l ha hl=> ?_
   obtain⟨f,t,m,hl⟩:=hl
   exact⟨f,t,m,k _ _ hl (ln _ _ hl (h.UK a ha))⟩
 exact h.rd.mono (by rw[h.rd.lst];exact k _ _ h.rd.lst (ln _ _ h.rd.lst h.QS)) fun a x _⟨d,hd⟩=>⟨d,k _ _ hd fun z=>(hS _ z).1.ne hd (by simp) rfl⟩
theorem rM.same {A:Ad} {Pr:List Addr} {H H':Hp} {v dv pa ll rl:Addr} {la ra:List Addr} {R:List R3} {n:Nat} {s:Sw83.St} {x:Sg45.Place} (h:rM A Pr H v dv pa ll rl la ra R n s x) (k:ak H H'):rM A Pr H' v dv pa ll rl la ra R n s x:=h.but (S:=fun _=>False) (fun b o e _=>k b o e) fun _ z=>z.elim
theorem gM.but {A:Ad} {Pr:List Addr} {H H':Hp} {tv:V} {n:Nat} {s:Sw83.St} {S:Addr->Prop} (h:gM A Pr H tv n s) (k:oE S H H') (hS:∀l,S l->K6 H l ["place","stop","goes"]/\(l∈Pr\/∃C dx fs,H l=some (.ins C dx fs))):gM A Pr H' tv n s:=by
 unfold gM at h⊢
 cases e:s.here with
 |none=>rw[e]at h;exact h
 |some x=>
  rw[e]at h
  obtain⟨v,dv,pa,ll,rl,la,ra,R,h1,h2⟩:=h
  exact⟨v,dv,pa,ll,rl,la,ra,R,h1,h2.but k hS⟩
theorem gM.same {A:Ad} {Pr:List Addr} {H H':Hp} {tv:V} {n:Nat} {s:Sw83.St} (h:gM A Pr H tv n s) (k:ak H H'):gM A Pr H' tv n s:=h.but (S:=fun _=>False) (fun b o e _=>k b o e) fun _ z=>z.elim
theorem gM.to {A:Ad} {Pr:List Addr} {H:Hp} {tv:V} {n m:Nat} {s s':Sw83.St} (h:gM A Pr H tv n s) (hn:n<=m) (e1:s'.here=s.here) (e2:s'.goal=s.goal) (e3:s'.legs=s.legs) (e4:s'.rides=s.rides) (e5:s'.desk.map.zones=s.desk.map.zones):gM A Pr H tv m s':=by
 unfold gM at h⊢
 rw[e1]
 cases e:s.here with
 |none=>rw[e]at h;exact h
 |some x=>
  rw[e]at h
  obtain⟨v,dv,pa,ll,rl,la,ra,R,h1,h2⟩:=h
  refine⟨v,dv,pa,ll,rl,la,ra,R,h1, ?_⟩
  exact⟨by rw[e2];exact h2.ins,h2.pl,by rw[e3];exact h2.lg,h2.rd,by rw[e4];exact h2.rs,by rw[e5];exact h2.ro,by rw[e3];exact h2.ln,abk h2.rn hn,h2.lr,h2.W4,h2.QS,h2.UK⟩
noncomputable def gN(f t:Addr)(tv:V):aV:=[("fares", .ref f),("timetable", .ref t),("traveller",tv)]
structure ik(A:Ad)(Pr:List Addr)(H:Hp)(dk:Addr)(n:Nat)(s:Sw83.St)(fI f t fb pl sl wl tl:Addr)(tv:V)(bs:List Nat)(ps ss ws ts:List Addr):Prop where
 ins:H dk=some (.ins A.Desk fI (gN f t tv))
 sx:nM A H f fb pl bs ps s.desk
 tab:iZ A H t sl wl tl ss ws ts s.table s.zones s.day
 tabS:AB sl wl tl ts
 ap:(fb≠sl/\fb≠wl/\fb≠tl)/\pl≠sl/\pl≠wl/\pl≠tl
 pr:∀b∈Pr,(∃xs:List Int,H b=some (.lst (xs.map V.int)))/\b∉[fb,pl,sl,wl,tl]
 ok:nY s
 tv:gM A ([fb,pl,sl,wl,tl]++Pr) H tv n s
structure dM(A:Ad)(Pr:List Addr)(H:Hp)(dk:Addr)(n:Nat)(s:Sw83.St):Prop where
 ex:∃fI f t fb pl sl wl tl tv bs ps ss ws ts,ik A Pr H dk n s fI f t fb pl sl wl tl tv bs ps ss ws ts
theorem dM.same {A:Ad} {Pr:List Addr} {H H':Hp} {dk:Addr} {n:Nat} {s:Sw83.St} (h:dM A Pr H dk n s) (k:ak H H'):dM A Pr H' dk n s:=by
 obtain⟨fI,f,t,fb,pl,sl,wl,tl,tv,bs,ps,ss,ws,ts,h⟩:=h.ex
 exact⟨fI,f,t,fb,pl,sl,wl,tl,tv,bs,ps,ss,ws,ts,⟨k _ _ h.ins,h.sx.same k,h.tab.same k,h.tabS,h.ap,fun b hb=>by
  obtain⟨⟨xs,h1⟩,h2⟩:=h.pr b hb
  exact⟨⟨xs,k _ _ h1⟩,h2⟩,h.ok,h.tv.same k⟩⟩
theorem dM.W5 {A:Ad} {Pr:List Addr} {H:Hp} {dk l:Addr} {n:Nat} {s:Sw83.St} {zs:List Int} (h:dM A Pr H dk n s) (hl:l∈Pr):dM A Pr (upd H l (.lst (zs.map V.int))) dk n s:=by
 obtain⟨fI,f,t,fb,pl,sl,wl,tl,tv,bs,ps,ss,ws,ts,h⟩:=h.ex
 obtain⟨⟨xs,h1⟩,h2⟩:=h.pr l hl
 simp only[abo,adh,or_false,not_or]at h2
 refine⟨fI,f,t,fb,pl,sl,wl,tl,tv,bs,ps,ss,ws,ts,⟨?_, ?_, ?_,h.tabS,h.ap,fun b hb=> ?_,h.ok, ?_⟩⟩
 . rw[au (bH h.ins h1 (by intro q;cases q))]
   exact h.ins
 . refine h.sx.but (rL (l:=l)) fun b hb=> ?_
   subst hb
   exact⟨m5 h1,abp h2.1,abp h2.2.1⟩
 . refine h.tab.but h.ok.tab (rL (l:=l)) fun b hb=> ?_
   subst hb
   exact⟨m5 h1,abp h2.2.2.1,abp h2.2.2.2.1,abp h2.2.2.2.2,xi h1⟩
 . obtain⟨⟨ys,g1⟩,g2⟩:=h.pr b hb
   refine⟨?_,g2⟩
   by_cases c:b=l
   . subst c
     exact⟨zs,af⟩
   exact⟨ys,by rw[au c];exact g1⟩
 refine h.tv.but (rL (l:=l)) fun b hb=> ?_
 subst hb
 exact⟨m5 h1, .inl (by simp[hl])⟩
theorem Ex{f t:Addr}{fs:aV}(h:fs=[]\/∃f0 t0 v0,fs=gN f0 t0 v0):bc "traveller" .dR (bc "timetable" (.ref t) (bc "fares" (.ref f) fs))=gN f t .dR/\(∀g v r,fs=(g,v)::r->g="fares")/\(∀g v r,bc "fares" (.ref f) fs=(g,v)::r->g="fares")/\(∀g v r,bc "timetable" (.ref t) (bc "fares" (.ref f) fs)=(g,v)::r->g="fares")/\fs.length<1000/\(bc "fares" (.ref f) fs).length<1000/\(bc "timetable" (.ref t) (bc "fares" (.ref f) fs)).length<1000:=by
 rcases h with rfl|⟨f0,t0,v0,rfl⟩
 . have e1:bc "fares" (.ref f) ([]:aV)=([("fares", .ref f)]:aV):=rfl
   have e2:bc "timetable" (.ref t) ([("fares", .ref f)]:aV)=([("fares", .ref f),("timetable", .ref t)]:aV):=aI (ns:=["fares"]) rfl (by decide+kernel)
   have e3:bc "traveller" .dR ([("fares", .ref f),("timetable", .ref t)]:aV)=gN f t .dR:=aI (ns:=["fares","timetable"]) rfl (by decide+kernel)
   rw[e1,e2,e3]
   refine⟨U,fun g v r q=>(by cases q),fun g v r q=> ?_,fun g v r q=> ?_,Ud,Ud,Ud⟩
   . injection q with q;injection q with q;exact q.symm
   injection q with q;injection q with q;exact q.symm
 have e1:bc "fares" (.ref f) (gN f0 t0 v0)=gN f t0 v0:=jt
 have e2:bc "timetable" (.ref t) (gN f t0 v0)=gN f t v0:=by
  unfold gN
  rw[fq (by decide+kernel),jt]
 have e3:bc "traveller" .dR (gN f t v0)=gN f t .dR:=by
  unfold gN
  rw[fq (by decide+kernel),fq (by decide+kernel),jt]
 rw[e1,e2,e3]
 refine⟨U,fun g v r q=> ?_,fun g v r q=> ?_,fun g v r q=> ?_,Ud,Ud,Ud⟩
 . injection q with q;injection q with q;exact q.symm
 . injection q with q;injection q with q;exact q.symm
 injection q with q;injection q with q;exact q.symm
theorem Ey(d:Nat)(h:d<=6):dQ Sg45.empty d:=by
 have:=(y0 (z:=0) h (by lia)).tab
 exact this
section
variable{P:Program}{w:World}{K:PySem.W.Frag}{mg:Str->Option Value}{base:Heap}{A:Ad}
structure F6(A:Ad)(H H':Hp)(dk fI:Addr)(z day:Nat)(f t fb pl sl wl tl:Addr):Prop where
 kp:gu H H' dk
 ins:H' dk=some (.ins A.Desk fI (gN f t .dR))
 sx:nM A H' f fb pl (List.replicate z 0) [] ⟨⟨z,[]⟩,[],[]⟩
 tab:iZ A H' t sl wl tl [] [] [] Sg45.empty [] day
 tabS:AB sl wl tl []
 ap:(fb≠sl/\fb≠wl/\fb≠tl)/\pl≠sl/\pl≠wl/\pl≠tl
 fr:∀b∈[fb,pl,sl,wl,tl],H b=none
def ub(A:Ad):Sp:=fun vs H Q _=>∃(dk fI:Addr)(z day:Nat)(fs:aV),vs=[.ref dk, .int (z:Nat), .int (day:Nat)]/\z<=8/\day<=6/\H dk=some (.ins A.Desk fI fs)/\(fs=[]\/∃f0 t0 v0,fs=gN f0 t0 v0)/\
 ∀(H':Hp)(f t fb pl sl wl tl:Addr),F6 A H H' dk fI z day f t fb pl sl wl tl->Q .dR H'
abbrev j4:Stmt:=inClass (top 66) 1
theorem u7:aB ["self","zones","weekday"] ["self","zones","weekday"] (ao j4):=sm
theorem u9{f:Addr}{fd:FuncData}(F:eH K "begin_day" "Desk.begin_day" j4 f fd)(T:Txt K mg A)(CW:eG P w K mg base 1 "Fares" A.c7 ["self","zones"] (BM A))(rN:eG P w K mg base 1 "Timetable" A.aJ ["self","weekday"] (BG A)):bq P w K mg base eD 3 f fd ["self","zones","weekday"] (ub A):=by
 refine F.ok u7 (fun vs H Q E h=> ?_) (fun dz Ar outer s H vs Q E hr h=> ?_)
 . obtain⟨_,_,_,_,_,rfl,_⟩:=h
   rfl
 obtain⟨dk,fI,z,day,fs,rfl,hz,M5,Ho,UL,k⟩:=h
 refine⟨_,(ae (aU (pv 0) (cv CW hr rfl (aa (pv 1) ag)) rfl)
  (ae (aU (pv 0) (cv rN hr rfl (aa (pv 2) ag)) rfl)
  (ah (aU (pv 0) cI rfl)))), ?_⟩
 refine⟨_,U, ?_⟩
 intro f df hf Uj ir
 refine⟨f,df,z,H,U,hz,hf,Uj,ir,U,fun H1 fb pl s1 PL PM hF=>⟨U, ?_⟩⟩
 obtain⟨e3,n0,n1,n2,l0,l1,l2⟩:=Ex (f:=f) (t:=0) UL
 refine⟨_,U,dk,_,fI,_,U,s1 _ _ Ho,T.bU,T.gW,l0, ?_⟩
 have k1:oE (fun b=>b=dk) H1 (upd H1 dk (.ins A.Desk fI (bc "fares" (.ref f) fs))):=rL
 have d1:(upd H1 dk (.ins A.Desk fI (bc "fares" (.ref f) fs))) dk=some (.ins A.Desk fI (bc "fares" (.ref f) fs)):=af
 have UM:=hF.but k1 fun l hl=>by
  subst hl
  exact⟨.inr ⟨_,_,_,s1 _ _ Ho,fun g v r q=>by rw[n0 g v r q];decide+kernel⟩,fun q=>(by rw[q,Ho]at PL;cases PL),fun q=>(by rw[q,Ho]at PM;cases PM)⟩
 have W6:gu H (upd H1 dk (.ins A.Desk fI (bc "fares" (.ref f) fs))) dk:=fun b o e hb=>k1 _ _ (s1 _ _ e) hb
 generalize upd H1 dk (.ins A.Desk fI (bc "fares" (.ref f) fs))=H2 at k1 d1 UM W6⊢
 refine⟨_,U, ?_⟩
 intro t dt ht hdt Mz
 refine⟨t,dt,day,H2,U,ht,hdt,Mz,U,fun H3 sl wl tl s3 PN PQ PR hS hT=>⟨U, ?_⟩⟩
 obtain⟨e3,n0,n1,n2,l0,l1,l2⟩:=Ex (f:=f) (t:=t) UL
 have d3:=s3 _ _ d1
 refine⟨_,U,dk,_,fI,_,U,d3,T.bU,T.bD,l1, ?_⟩
 have k3:oE (fun b=>b=dk) H3 (upd H3 dk (.ins A.Desk fI (bc "timetable" (.ref t) (bc "fares" (.ref f) fs)))):=rL
 have d4:(upd H3 dk (.ins A.Desk fI (bc "timetable" (.ref t) (bc "fares" (.ref f) fs)))) dk=some (.ins A.Desk fI (bc "timetable" (.ref t) (bc "fares" (.ref f) fs))):=af
 have M6:=UM.bd
 have M7:=UM.pr.lst
 have UN:=(UM.same s3).but k3 fun l hl=>by
  subst hl
  refine⟨.inr ⟨_,_,_,d3,fun g v r q=>by rw[n1 g v r q];decide+kernel⟩,bH M6 d1 (by intro q;cases q),bH M7 d1 (by intro q;cases q)⟩
 have SS:=hT.but (Ey day M5) k3 fun l hl=>by
  subst hl
  refine⟨.inr ⟨_,_,_,d3,fun g v r q=>by rw[n1 g v r q];decide+kernel⟩,bH hT.st.lst d3 (by intro q;cases q),bH hT.wk.lst d3 (by intro q;cases q),bH hT.tp.lst d3 (by intro q;cases q),mx d3⟩
 have Ys:gu H (upd H3 dk (.ins A.Desk fI (bc "timetable" (.ref t) (bc "fares" (.ref f) fs)))) dk:=fun b o e hb=>k3 _ _ (s3 _ _ (W6 _ _ e hb)) hb
 generalize upd H3 dk (.ins A.Desk fI (bc "timetable" (.ref t) (bc "fares" (.ref f) fs)))=H4 at k3 d4 UN SS Ys⊢
 refine⟨_,U,dk,_,fI,_,U,d4,T.bU,T.de,l2, ?_⟩
 rw[e3]
 have k5:oE (fun b=>b=dk) H4 (upd H4 dk (.ins A.Desk fI (gN f t .dR))):=rL
 have hF5:=UN.but k5 fun l hl=>by
  subst hl
  refine⟨.inr ⟨_,_,_,d4,fun g v r q=>by rw[n2 g v r q];decide+kernel⟩,bH UN.bd d4 (by intro q;cases q),bH UN.pr.lst d4 (by intro q;cases q)⟩
 have hT5:=SS.but (Ey day M5) k5 fun l hl=>by
  subst hl
  refine⟨.inr ⟨_,_,_,d4,fun g v r q=>by rw[n2 g v r q];decide+kernel⟩,bH SS.st.lst d4 (by intro q;cases q),bH SS.wk.lst d4 (by intro q;cases q),bH SS.tp.lst d4 (by intro q;cases q),mx d4⟩
 have W7:∀b,H2 b=none->H b=none:=fun b hb=>by
  cases e:H b with
  |none=>rfl
  |some o=>
   by_cases c:b=dk
   . rw[c,d1]at hb;cases hb
   rw[W6 b o e c]at hb;cases hb
 refine k _ f t fb pl sl wl tl ⟨fun b o e hb=>k5 _ _ (Ys _ _ e hb) hb,af,hF5,hT5,hS,⟨⟨aw M6 PN,aw M6 PQ,aw M6 PR⟩,aw M7 PN,aw M7 PQ,aw M7 PR⟩,fun b hb=> ?_⟩
 simp only[abo,adh,or_false]at hb
 rcases hb with rfl|rfl|rfl|rfl|rfl
 . exact PL
 . exact PM
 . exact W7 _ PN
 . exact W7 _ PQ
 exact W7 _ PR
def zC(A:Ad):Sp:=fun vs H Q _=>∃(dk fI:Addr)(z day:Nat),vs=[.ref dk, .int (z:Nat), .int (day:Nat)]/\z<=8/\day<=6/\H dk=some (.ins A.Desk fI [])/\
 ∀(H':Hp)(f t fb pl sl wl tl:Addr),F6 A H H' dk fI z day f t fb pl sl wl tl->Q .dR H'
abbrev rO:Stmt:=inClass (top 66) 0
theorem CY:aB ["self","zones","weekday"] ["self","zones","weekday"] (ao rO):=sm
theorem CZ{f:Addr}{fd:FuncData}(F:eH K "__init__" "Desk.__init__" rO f fd)(T:Txt K mg A)(d9:MethAt P w K mg base 3 A.Desk "begin_day" ["self","zones","weekday"] (ub A)):bq P w K mg base eD 4 f fd ["self","zones","weekday"] (zC A):=by
 refine F.ok CY (fun vs H Q E h=> ?_) (fun dz Ar outer s H vs Q E hr h=> ?_)
 . obtain⟨_,_,_,_,rfl,_⟩:=h
   rfl
 obtain⟨dk,fI,z,day,rfl,hz,M5,Ho,k⟩:=h
 refine⟨_,(ah (cF (bB (pv 0) d9 hr (aa (pv 1) (aa (pv 2) ag))))), ?_⟩
 exact⟨_,U,dk,fI,_,U,Ho,U,_,U,_,U,dk,fI,z,day,[],U,hz,M5,Ho, .inl rfl,k⟩
def g6:Sp:=fun vs H Q _=>∃(l:Addr)(xs:List V),vs=[.ref l]/\H l=some (.lst xs)/\xs.length<=2000000/\∀(H':Hp)(p:Addr),ak H H'->H p=none->H' p=some (.lst (V.int (xs.length:Nat)::xs))->Q (.ref p) H'
abbrev wb:Stmt:=top 67
theorem F7:aB ["numbers"] ["numbers"] (ao wb):=sm
theorem F8{f:Addr}{fd:FuncData}(F:eH K "written" "written" wb f fd)(T:Txt K mg A):bq P w K mg base eD 1 f fd ["numbers"] g6:=by
 refine F.ok F7 (fun vs H Q E h=> ?_) (fun dz Ar outer s H vs Q E hr h=> ?_)
 . obtain⟨_,_,rfl,_⟩:=h
   rfl
 obtain⟨l,xs,rfl,hl,hlen,k⟩:=h
 refine⟨_,(ah (aA (bA lY (bb (aa (aP aD (by rfl) T.dF ada (aa (pv 0) ag)) ag)) (pv 0)))), ?_⟩
 refine⟨_,U,_,_,U, .inl (aW.of hl),Ud,fun q hq=> ?_⟩
 have s1:ak H (upd H q (.lst [V.int (xs.length:Nat)])):=ak.upd hq
 refine⟨_,U,q,l,_,_,U,U,af,s1 _ _ hl, ?_,fun p hp=> ?_⟩
 . exact abk (show 1+xs.length<=2000001 by lia) (by decide)
 exact k _ p (s1.trans (ak.upd hp)) (s1.free hp) af
end
end Td
namespace Td
open Sg45
theorem AI{s:Sw83.St}{z d:Nat}(h:6<d\/z<1\/8<z):Sw83.step s (.begins z d)=(s,Sw83.ok (-1)):=by
 show(if 6<d then(s,Sw83.ok (-1))else
  let r:=Sw76.step s.desk (.begins z)
  if r.2.v<0 then(s,Sw83.ok r.2.v)else(⟨Sg45.empty,d,[],r.1,none,0,[],[]⟩,Sw83.ok 0))=_
 by_cases c:6<d
 . rw[if_pos c]
 rw[if_neg c]
 have e:Sw76.step s.desk (.begins z)=(s.desk,Sw76.ok (-1)):=by
  show(if z<1\/Sw76.ZONES<z then(s.desk,Sw76.ok (-1))else(⟨⟨z,[]⟩,[],[]⟩,Sw76.ok 0))=_
  rw[if_pos (by unfold Sw76.ZONES;lia)]
 rw[e]
 rfl
theorem IT{s:Sw83.St}{z d:Nat}(h1:d<=6)(h2:1<=z)(h3:z<=8):Sw83.step s (.begins z d)=(⟨Sg45.empty,d,[],⟨⟨z,[]⟩,[],[]⟩,none,0,[],[]⟩,Sw83.ok 0):=by
 show(if 6<d then(s,Sw83.ok (-1))else
  let r:=Sw76.step s.desk (.begins z)
  if r.2.v<0 then(s,Sw83.ok r.2.v)else(⟨Sg45.empty,d,[],r.1,none,0,[],[]⟩,Sw83.ok 0))=_
 rw[if_neg (by lia)]
 have e:Sw76.step s.desk (.begins z)=(⟨⟨z,[]⟩,[],[]⟩,Sw76.ok 0):=by
  show(if z<1\/Sw76.ZONES<z then(s.desk,Sw76.ok (-1))else(⟨⟨z,[]⟩,[],[]⟩,Sw76.ok 0))=_
  rw[if_neg (by unfold Sw76.ZONES;lia)]
 rw[e]
 rfl
theorem pU{s:Sw83.St}{i j:Nat}:Sw83.step s (.border i j)=(let r:=Sw76.step s.desk (.border i j)
 if r.2.v<0 then(s,Sw83.ok r.2.v)else({s with desk:=r.1},Sw83.ok r.2.v)):=rfl
theorem Ez{s:Sw83.St}{i j:Nat}(h:s.desk.map.zones<=i\/s.desk.map.zones<=j):Sw83.step s (.border i j)=(s,Sw83.ok (-2)):=by
 have e:Sw76.step s.desk (.border i j)=(s.desk,Sw76.ok (-2)):=by
  show(if s.desk.map.zones<=i\/s.desk.map.zones<=j then(s.desk,Sw76.ok (-2))else _)=_
  rw[if_pos h]
 rw[pU,e]
 rfl
theorem EA{s:Sw83.St}{i j:Nat}(h1:i<s.desk.map.zones)(h2:j<s.desk.map.zones)(h:i=j\/s.desk.map.beside i j=true):Sw83.step s (.border i j)=(s,Sw83.ok (-3)):=by
 have e:Sw76.step s.desk (.border i j)=(s.desk,Sw76.ok (-3)):=by
  show(if s.desk.map.zones<=i\/s.desk.map.zones<=j then(s.desk,Sw76.ok (-2))else if i=j\/s.desk.map.beside i j=true then(s.desk,Sw76.ok (-3))else _)=_
  rw[if_neg (by lia),if_pos h]
 rw[pU,e]
 rfl
theorem IU{s:Sw83.St}{i j:Nat}(h1:i<s.desk.map.zones)(h2:j<s.desk.map.zones)(h3:i≠j)(h4:s.desk.map.beside i j=false):Sw83.step s (.border i j)=({s with desk:={s.desk with map:={s.desk.map with pairs:=s.desk.map.pairs++[(i,j)]}}},Sw83.ok 0):=by
 have e:Sw76.step s.desk (.border i j)=({s.desk with map:={s.desk.map with pairs:=s.desk.map.pairs++[(i,j)]}},Sw76.ok 0):=by
  show(if s.desk.map.zones<=i\/s.desk.map.zones<=j then(s.desk,Sw76.ok (-2))else if i=j\/s.desk.map.beside i j=true then(s.desk,Sw76.ok (-3))else _)=_
  rw[if_neg (by lia),if_neg (by rw[h4];simp[h3])]
 rw[pU,e]
 rfl
theorem uc{s:Sw83.St}{p:Sw76.Product}:Sw83.step s (.product p)=(let r:=Sw76.step s.desk (.product p)
 if r.2.v<0 then(s,Sw83.ok r.2.v)else({s with desk:=r.1},Sw83.ok r.2.v)):=rfl
theorem IV{s:Sw83.St}{p:Sw76.Product}(h:s.desk.productOk p=false):Sw83.step s (.product p)=(s,Sw83.ok (-1)):=by
 have e:Sw76.step s.desk (.product p)=(s.desk,Sw76.ok (-1)):=by
  show(if s.desk.productOk p=false then(s.desk,Sw76.ok (-1))else _)=_
  rw[if_pos h]
 rw[uc,e]
 rfl
theorem IW{s:Sw83.St}{p:Sw76.Product}(h:s.desk.productOk p=true)(h2:8<=s.desk.products.length):Sw83.step s (.product p)=(s,Sw83.ok (-5)):=by
 have e:Sw76.step s.desk (.product p)=(s.desk,Sw76.ok (-5)):=by
  show(if s.desk.productOk p=false then(s.desk,Sw76.ok (-1))else if 8<=s.desk.products.length then(s.desk,Sw76.ok (-5))else _)=_
  rw[if_neg (by rw[h];simp),if_pos h2]
 rw[uc,e]
 rfl
theorem M8{s:Sw83.St}{p:Sw76.Product}(h:s.desk.productOk p=true)(h2:s.desk.products.length<8):Sw83.step s (.product p)=({s with desk:={s.desk with products:=s.desk.products++[p]}},Sw83.ok (s.desk.products.length:Nat)):=by
 have e:Sw76.step s.desk (.product p)=({s.desk with products:=s.desk.products++[p]},Sw76.ok (s.desk.products.length:Nat)):=by
  show(if s.desk.productOk p=false then(s.desk,Sw76.ok (-1))else if 8<=s.desk.products.length then(s.desk,Sw76.ok (-5))else _)=_
  rw[if_neg (by rw[h];simp),if_neg (by lia)]
 rw[uc,e]
 show(if(s.desk.products.length:Int)<0 then _ else _)=_
 rw[if_neg (by lia)]
 rfl
theorem eY{c m:Nat}:within (c:Int) 0 (m:Int)=decide (c<=m):=by
 unfold within
 rw[decide_eq_true (by lia),acR]
 by_cases h:c<=m
 . rw[decide_eq_true h,decide_eq_true (by lia)]
 rw[decide_eq_false h,decide_eq_false (by lia)]
theorem zD{s:Sw83.St}{c:Sg45.Call}:s.table_ true c=(s,Sw83.ok (-5)):=rfl
theorem zE{s:Sw83.St}{c:Sg45.Call}{k:Int}(h:does s.table c=(says k,s.table))(hk:k<0):s.table_ false c=(s,Sw83.ok k):=by
 show(if(does s.table c).1.code<0 then(s,Sw83.ok (does s.table c).1.code)else _)=_
 rw[h]
 show(if k<0 then _ else _)=_
 rw[if_pos hk]
 rfl
theorem yn{s:Sw83.St}{c:Sg45.Call}{k:Int}{T:Table}(h:does s.table c=(says k,T))(hk:0<=k):s.table_ false c=({s with table:=T},Sw83.ok k):=by
 show(if(does s.table c).1.code<0 then(s,Sw83.ok (does s.table c).1.code)else({s with table:=(does s.table c).2},Sw83.ok (does s.table c).1.code))=_
 rw[h]
 show(if k<0 then _ else _)=_
 rw[if_neg (by lia)]
 rfl
theorem pV{s:Sw83.St}{c z:Nat}:Sw83.step s (.halt_ c z)=(if s.desk.map.zones<=z then(s,Sw83.ok (-2))else
 let r:=s.table_ (decide (10<=s.table.stops.length)) (.halt_ (c:Int))
 if r.2.v<0 then r else({r.1 with zones:=s.zones++[z]},r.2)):=rfl
theorem BP{T:Table}{c:Nat}:does T (.halt_ (c:Int))=if within (c:Int) 0 ((120:Nat):Int)=false then(says (-2),T)else if T.stops.length=256 then(says (-8),T)else(says (T.stops.length:Nat),{T with stops:=T.stops++[c]}):=rfl
theorem IX{s:Sw83.St}{c z:Nat}(h:s.desk.map.zones<=z):Sw83.step s (.halt_ c z)=(s,Sw83.ok (-2)):=by
 rw[pV,if_pos h]
theorem IY{s:Sw83.St}{c z:Nat}(h:z<s.desk.map.zones)(h2:10<=s.table.stops.length):Sw83.step s (.halt_ c z)=(s,Sw83.ok (-5)):=by
 rw[pV,if_neg (by lia),decide_eq_true h2,zD]
 rfl
theorem F9{s:Sw83.St}{c z:Nat}(h:z<s.desk.map.zones)(h2:s.table.stops.length<10)(h3:120<c):Sw83.step s (.halt_ c z)=(s,Sw83.ok (-2)):=by
 rw[pV,if_neg (by lia),decide_eq_false (by lia),zE (k:= -2) (by rw[BP,eY,if_pos (decide_eq_false (by lia))]) (by lia)]
 rfl
theorem M9{s:Sw83.St}{c z:Nat}(h:z<s.desk.map.zones)(h2:s.table.stops.length<10)(h3:c<=120):Sw83.step s (.halt_ c z)=({s with table:={s.table with stops:=s.table.stops++[c]},zones:=s.zones++[z]},Sw83.ok (s.table.stops.length:Nat)):=by
 rw[pV,if_neg (by lia),decide_eq_false (by lia),yn (k:=(s.table.stops.length:Nat)) (T:={s.table with stops:=s.table.stops++[c]}) (by rw[BP,eY,if_neg (by rw[decide_eq_true (by lia)];simp),if_neg (by lia)]) (by lia)]
 show(if(s.table.stops.length:Int)<0 then _ else _)=_
 rw[if_neg (by lia)]
theorem ud{s:Sw83.St}{a b n:Nat}:Sw83.step s (.walk a b n)=s.table_ (decide (12<=s.table.walks.length)) (.walk (a:Int) (b:Int) (n:Int)):=rfl
theorem BQ{T:Table}{a b n:Nat}:does T (.walk (a:Int) (b:Int) (n:Int))=if(stopOk T (a:Int)&&(stopOk T (b:Int)&&within (n:Int) 0 ((240:Nat):Int)))=false then(says (-2),T)else if T.walks.length=4096 then(says (-8),T)else(says (T.walks.length:Nat),{T with walks:=T.walks++[⟨a,b,n⟩]}):=rfl
theorem pW{T:Table}{a:Nat}:stopOk T (a:Int)=decide (a<T.stops.length):=by
 unfold stopOk within
 rw[decide_eq_true (by lia),acR]
 by_cases h:a<T.stops.length
 . rw[decide_eq_true h,decide_eq_true (by lia)]
 rw[decide_eq_false h,decide_eq_false (by lia)]
theorem IZ{s:Sw83.St}{a b n:Nat}(h:12<=s.table.walks.length):Sw83.step s (.walk a b n)=(s,Sw83.ok (-5)):=by
 rw[ud,decide_eq_true h,zD]
theorem I0{s:Sw83.St}{a b n:Nat}(h:s.table.walks.length<12)(h2:s.table.stops.length<=a\/s.table.stops.length<=b\/240<n):Sw83.step s (.walk a b n)=(s,Sw83.ok (-2)):=by
 rw[ud,decide_eq_false (by lia),zE (k:= -2) (by
  rw[BQ,pW,pW,eY,if_pos]
  rcases h2 with h2|h2|h2
  . rw[decide_eq_false (p:=a<_) (by lia)]
    rfl
  . rw[decide_eq_false (p:=b<_) (by lia)]
    simp
  rw[decide_eq_false (p:=n<=_) (by lia)]
  simp) (by lia)]
theorem Na{s:Sw83.St}{a b n:Nat}(h:s.table.walks.length<12)(h1:a<s.table.stops.length)(h2:b<s.table.stops.length)(h3:n<=240):Sw83.step s (.walk a b n)=({s with table:={s.table with walks:=s.table.walks++[⟨a,b,n⟩]}},Sw83.ok (s.table.walks.length:Nat)):=by
 rw[ud,decide_eq_false (by lia),yn (k:=(s.table.walks.length:Nat)) (T:={s.table with walks:=s.table.walks++[⟨a,b,n⟩]}) (by
  rw[BQ,pW,pW,eY,if_neg (by rw[decide_eq_true h1,decide_eq_true h2,decide_eq_true h3];simp),if_neg (by lia)]) (by lia)]
theorem zF{s:Sw83.St}{p i n:Nat}:Sw83.step s (.late p i n)=s.table_ false (.late (p:Int) (s.day:Int) (i:Int) (n:Int)):=rfl
theorem BR{T:Table}{p d i n:Nat}:does T (.late (p:Int) (d:Int) (i:Int) (n:Int))=if(within (p:Int) 0 ((T.trips.length:Int)-1)&&(within (d:Int) 0 ((6:Nat):Int)&&(within (i:Int) 0 ((63:Nat):Int)&&within (n:Int) 0 ((240:Nat):Int))))=false then(says (-2),T)else(says 0,tZ T d p i n):=rfl
theorem BS{p n:Nat}:within (p:Int) 0 ((n:Int)-1)=decide (p<n):=by
 unfold within
 rw[decide_eq_true (by lia),acR]
 by_cases h:p<n
 . rw[decide_eq_true h,decide_eq_true (by lia)]
 rw[decide_eq_false h,decide_eq_false (by lia)]
theorem Ja{s:Sw83.St}{p i n:Nat}(h:s.table.trips.length<=p\/63<i\/240<n):Sw83.step s (.late p i n)=(s,Sw83.ok (-2)):=by
 rw[zF,zE (k:= -2) (by
  rw[BR,BS,eY,eY,eY,if_pos]
  rcases h with h2|h2|h2
  . rw[decide_eq_false (p:=p<_) (by lia)]
    rfl
  . rw[decide_eq_false (p:=i<=_) (by lia)]
    simp
  rw[decide_eq_false (p:=n<=_) (by lia)]
  simp) (by lia)]
theorem Nb{s:Sw83.St}{p i n:Nat}(hd:s.day<=6)(h1:p<s.table.trips.length)(h2:i<=63)(h3:n<=240):Sw83.step s (.late p i n)=({s with table:=tZ s.table s.day p i n},Sw83.ok 0):=by
 rw[zF,yn (k:=0) (T:=tZ s.table s.day p i n) (by
  rw[BR,BS,eY,eY,eY,if_neg (by rw[decide_eq_true h1,decide_eq_true h2,decide_eq_true h3,decide_eq_true hd];simp)]) (by lia)]
theorem pX{s:Sw83.St}{d:Nat}{l:List Nat}:Sw83.step s (.trip d l)=s.table_ (decide (12<=s.table.trips.length)) (.trip (d:Int) l ((l.length/3:Nat):Int)):=rfl
theorem wc{T:Table}{d n:Nat}{l:List Nat}:does T (.trip (d:Int) l (n:Int))=if(within (d:Int) 1 127&&within (n:Int) 2 64)=false then(says (-2),T)else if callsOk T (callsOf l)=false then(says (-4),T)else if T.trips.length=1024 then(says (-8),T)else(says (T.trips.length:Nat),{T with trips:=T.trips++[iD d (callsOf l)]}):=rfl
theorem kH:∀{l:List Nat},(callsOf l).length=l.length/3
 |[]=>rfl
 |[_]=>by simp[callsOf]
 |[_,_]=>by simp[callsOf]
 |a::b::c::l=>by
  rw[callsOf,abG,kH (l:=l)]
  simp only[abG]
  lia
theorem Jb{s:Sw83.St}{d:Nat}{l:List Nat}(h:12<=s.table.trips.length):Sw83.step s (.trip d l)=(s,Sw83.ok (-5)):=by
 rw[pX,decide_eq_true h,zD]
theorem BU{s:Sw83.St}{d:Nat}{l:List Nat}(h:s.table.trips.length<12)(h2:d<1\/127<d\/(callsOf l).length<2\/64<(callsOf l).length):Sw83.step s (.trip d l)=(s,Sw83.ok (-2)):=by
 rw[kH]at h2
 rw[pX,decide_eq_false (by lia),zE (k:= -2) (by
  rw[wc,if_pos]
  unfold within
  rcases h2 with h2|h2|h2|h2
  . rw[decide_eq_false (p:=(1:Int)<=_) (by lia)]
    rfl
  . rw[decide_eq_false (p:=(d:Int)<=127) (by lia)]
    simp
  . rw[decide_eq_false (p:=(2:Int)<=_) (by lia)]
    simp
  rw[decide_eq_false (p:=((l.length/3:Nat):Int)<=64) (by lia)]
  simp) (by lia)]
theorem Hq{d n:Nat}(h1:1<=d)(h2:d<=127)(h3:2<=n)(h4:n<=64):(within (d:Int) 1 127&&within (n:Int) 2 64)=true:=by
 unfold within
 rw[decide_eq_true (by lia),decide_eq_true (by lia),decide_eq_true (by lia),decide_eq_true (by lia)]
 rfl
theorem Jc{s:Sw83.St}{d:Nat}{l:List Nat}(h:s.table.trips.length<12)(h1:1<=d)(h2:d<=127)(h3:2<=(callsOf l).length)(h4:(callsOf l).length<=64)(h5:callsOk s.table (callsOf l)=false):Sw83.step s (.trip d l)=(s,Sw83.ok (-4)):=by
 rw[kH]at h3 h4
 rw[pX,decide_eq_false (by lia),zE (k:= -4) (by rw[wc,if_neg (by rw[Hq h1 h2 h3 h4];simp),if_pos h5]) (by lia)]
theorem Nc{s:Sw83.St}{d:Nat}{l:List Nat}(h:s.table.trips.length<12)(h1:1<=d)(h2:d<=127)(h3:2<=(callsOf l).length)(h4:(callsOf l).length<=64)(h5:callsOk s.table (callsOf l)=true):Sw83.step s (.trip d l)=({s with table:={s.table with trips:=s.table.trips++[iD d (callsOf l)]}},Sw83.ok (s.table.trips.length:Nat)):=by
 rw[kH]at h3 h4
 rw[pX,decide_eq_false (by lia),yn (k:=(s.table.trips.length:Nat)) (T:={s.table with trips:=s.table.trips++[iD d (callsOf l)]}) (by rw[wc,if_neg (by rw[Hq h1 h2 h3 h4];simp),if_neg (by rw[h5];simp),if_neg (by lia)]) (by lia)]
theorem kO.more {ns vw day:Nat} {p:Trip} (h:kO ns day p) (hn:ns<=vw):kO vw day p:=⟨h.n2,h.RP,fun a ha=>⟨abe (h.cl a ha).1 hn,(h.cl a ha).2⟩,h.od,h.ll,h.lt⟩
theorem nY.stop {s:Sw83.St} {c z:Nat} (ok:nY s) (h:z<s.desk.map.zones) (h2:s.table.stops.length<10) (h3:c<=120):nY {s with table:={s.table with stops:=s.table.stops++[c]},zones:=s.zones++[z]}:=by
 have hl:(s.table.stops++[c]).length=s.table.stops.length+1:=by simp
 refine ok.grow ⟨ok.tab.dy, ?_,fun x hx=> ?_,fun w hw=> ?_,fun p hp=> ?_,ok.tab.nw,ok.tab.nt⟩ ⟨fun i v h=>h,fun i p h=>⟨p,h,rfl,rfl⟩⟩ ?_ ?_ fun y hy=> ?_
 . show(s.table.stops++[c]).length<=10
   lia
 . rcases abq.mp hx with hx|hx
   . exact ok.tab.ch x hx
   simp only[acT]at hx
   lia
 . have:=ok.tab.wk w hw
   show w.from_<(s.table.stops++[c]).length/\w.to<(s.table.stops++[c]).length/\_
   rw[hl]
   lia
 . exact(ok.tab.tp p hp).more (by show _<=(s.table.stops++[c]).length;lia)
 . show _<=(s.table.stops++[c]).length
   lia
 . show(s.zones++[z]).length=(s.table.stops++[c]).length
   rw[abX,abX,ok.zl]
   rfl
 rcases abq.mp hy with hy|hy
 . exact ok.zz y hy
 simp only[acT]at hy
 rw[hy]
 exact h
theorem nY.walk {s:Sw83.St} {a b n:Nat} (ok:nY s) (h:s.table.walks.length<12) (h1:a<s.table.stops.length) (h2:b<s.table.stops.length) (h3:n<=240):nY {s with table:={s.table with walks:=s.table.walks++[⟨a,b,n⟩]}}:=by
 refine ok.grow (zs:=s.zones) ⟨ok.tab.dy,ok.tab.ns,ok.tab.ch,fun w hw=> ?_,ok.tab.tp, ?_,ok.tab.nt⟩ ⟨fun i v h=> ?_,fun i p h=>⟨p,h,rfl,rfl⟩⟩ (abB _) ok.zl ok.zz
 . rcases abq.mp hw with hw|hw
   . exact ok.tab.wk w hw
   simp only[acT]at hw
   rw[hw]
   exact⟨h1,h2,h3⟩
 . show(s.table.walks++[_]).length<=12
   rw[abX,ab1]
   lia
 show(s.table.walks++[_])[i]?=some v
 rw[abU (abt.mp h).1]
 exact h
theorem nY.trip {s:Sw83.St} {d:Nat} {l:List At} (ok:nY s) (h:s.table.trips.length<12) (h3:2<=l.length) (h4:l.length<=64) (h5:callsOk s.table l=true):nY {s with table:={s.table with trips:=s.table.trips++[iD d l]}}:=by
 refine ok.grow (zs:=s.zones) ⟨ok.tab.dy,ok.tab.ns,ok.tab.ch,ok.tab.wk,fun p hp=> ?_,ok.tab.nw, ?_⟩ ⟨fun i v h=>h,fun i p h=> ?_⟩ (abB _) ok.zl ok.zz
 . rcases abq.mp hp with hp|hp
   . exact ok.tab.tp p hp
   simp only[acT]at hp
   rw[hp]
   exact Co h5 h3 h4
 . show(s.table.trips++[_]).length<=12
   rw[abX,ab1]
   lia
 refine⟨p, ?_,U,U⟩
 show(s.table.trips++[_])[i]?=some p
 rw[abU (abt.mp h).1]
 exact h
theorem nY.late {s:Sw83.St} {p i n:Nat} (ok:nY s) (h3:n<=240):nY {s with table:=tZ s.table s.day p i n}:=by
 have get:∀(k:Nat),(tZ s.table s.day p i n).trips[k]?=(s.table.trips[k]?).map fun x=>if k=p then gJ s.day i n x else x:=fun k=>Cn
 refine ok.grow (zs:=s.zones) ⟨ok.tab.dy,ok.tab.ns,ok.tab.ch,ok.tab.wk,fun q hq=> ?_,ok.tab.nw, ?_⟩ ⟨fun i v h=>h,fun k q h=> ?_⟩ (abB _) ok.zl ok.zz
 . obtain⟨k,hk⟩:=acv.mp hq
   rw[get]at hk
   cases e:s.table.trips[k]?with
   |none=>rw[e]at hk;cases hk
   |some y=>
    rw[e]at hk
    have hk:(if k=p then gJ s.day i n y else y)=q:=Option.some.inj hk
    have oy:=ok.tab.tp y (abW e)
    by_cases c:k=p
    . rw[if_pos c]at hk
      subst hk
      refine⟨oy.n2,oy.RP,oy.cl,oy.od, ?_,fun j l hl=> ?_⟩
      . show(y.late.set s.day (i,n)).length=7
        rw[ab0]
        exact oy.ll
      have hl:(y.late.set s.day (i,n))[j]?=some l:=hl
      rw[ace]at hl
      split at hl
      . rename_i cj
        split at hl
        . cases hl
          exact⟨h3,fun q=>(q cj.symm).elim⟩
        cases hl
      exact oy.lt j l hl
    rw[if_neg c]at hk
    subst hk
    exact oy
 . show(s.table.trips.mapIdx _).length<=12
   rw[List.length_mapIdx]
   exact ok.tab.nt
 refine⟨if k=p then gJ s.day i n q else q,by rw[get,h];rfl, ?_, ?_⟩
 . split<;>rfl
 split<;>rfl
theorem nY.prod {s:Sw83.St} {p:Sw76.Product} (ok:nY s) (h:s.desk.productOk p=true) (h2:s.desk.products.length<8):nY {s with desk:={s.desk with products:=s.desk.products++[p]}}:=by
 refine⟨ok.tab,ok.zl,ok.zz,ok.nz, ?_,fun q hq=> ?_,ok.hr⟩
 . show(s.desk.products++[p]).length<=8
   rw[abX,ab1]
   lia
 rcases abq.mp hq with hq|hq
 . exact ok.pr q hq
 simp only[acT]at hq
 subst hq
 unfold Sw76.Desk.productOk Sw76.MOST at h
 simp only[ab6,decide_eq_true_eq]at h
 exact⟨h.2.2.2.2.1,h.2.1⟩
theorem nY.border {s:Sw83.St} {i j:Nat} (ok:nY s):nY {s with desk:={s.desk with map:={s.desk.map with pairs:=s.desk.map.pairs++[(i,j)]}}}:=⟨ok.tab,ok.zl,ok.zz,ok.nz,ok.np,ok.pr,ok.hr⟩
end Td
namespace Td
open PySem PySem.Spec PyProof.Rows L2
def K7(A:Ad)(Pr:List Addr)(H:Hp)(Q:VK)(dk:Addr)(n:Nat)(s:Sw83.St)(x:Sw83.Call):Prop:=
 ∀(H':Hp)(a:Addr),(∀b∈Pr,H' b=H b)->dM A Pr H' dk (n+1) (Sw83.step s x).1->H' a=some (.lst ((Sw83Neutral.out (Sw83.step s x).2).map V.int))->Q (.ref a) H'
def my(A:Ad)(code:Nat):Sp:=fun vs H Q _=>∃(Pr:List Addr)(dk tl:Addr)(n:Nat)(s:Sw83.St)(ns:List Nat)(x:Sw83.Call),vs=[.ref dk, .ref tl]/\dM A Pr H dk n s/\n<=100/\H tl=some (.lst (b9 ns))/\Sw83Neutral.callIn (code::ns)=some x/\
 (Sw83Neutral.out (Sw83.step s x).2).length<=1500000/\K7 A Pr H Q dk n s x
section
variable{A:Ad}{Pr:List Addr}{H H1:Hp}{Q:VK}{dk:Addr}{n:Nat}{s:Sw83.St}{x:Sw83.Call}
theorem dM.up (h:dM A Pr H dk n s):dM A Pr H dk (n+1) s:=by
 obtain⟨fI,f,t,fb,pl,sl,wl,tl,tv,bs,ps,ss,ws,ts,h⟩:=h.ex
 exact⟨fI,f,t,fb,pl,sl,wl,tl,tv,bs,ps,ss,ws,ts,⟨h.ins,h.sx,h.tab,h.tabS,h.ap,h.pr,h.ok,h.tv.to (abO _) rfl rfl rfl rfl rfl⟩⟩
theorem dM.W8 (h:dM A Pr H dk n s):∀b∈Pr,∃o,H b=some o:=fun b hb=>by
 obtain⟨fI,f,t,fb,pl,sl,wl,tl,tv,bs,ps,ss,ws,ts,h⟩:=h.ex
 obtain⟨⟨xs,h1⟩,_⟩:=h.pr b hb
 exact⟨_,h1⟩
theorem m6{c:Int}(k:K7 A Pr H Q dk n s x)(hp:∀b∈Pr,H1 b=H b)(D:dM A Pr H1 dk (n+1) (Sw83.step s x).1)(e:(Sw83.step s x).2=Sw83.ok c)(p:Addr)(h:H1 p=none):Q (.ref p) (upd H1 p (.lst [V.int c])):=by
 refine k _ p (fun b hb=> ?_) (D.same (ak.upd h)) ?_
 . obtain⟨o,ho⟩:=D.W8 b hb
   rw[au (aw ho h)]
   exact hp b hb
 rw[af,e]
 rfl
theorem cW{c:Int}(k:K7 A Pr H Q dk n s x)(D:dM A Pr H dk n s)(sm:ak H H1)(e:Sw83.step s x=(s,Sw83.ok c))(p:Addr)(h:H1 p=none):Q (.ref p) (upd H1 p (.lst [V.int c])):=by
 refine m6 k (fun b hb=> ?_) (by rw[e];exact D.up.same sm) (by rw[e]) p h
 obtain⟨o,ho⟩:=D.W8 b hb
 rw[ho]
 exact sm _ _ ho
theorem mz{zs:List Int}{p:Addr}(k:K7 A Pr H Q dk n s x)(hp:∀b∈Pr,H1 b=H b)(D:dM A Pr H1 dk (n+1) (Sw83.step s x).1)(e:Sw83Neutral.out (Sw83.step s x).2=zs){H2:Hp}(sm:ak H1 H2)(h:H2 p=some (.lst (zs.map V.int))):Q (.ref p) H2:=by
 refine k _ p (fun b hb=> ?_) (D.same sm) (by rw[e];exact h)
 obtain⟨o,ho⟩:=D.W8 b hb
 rw[<-hp b hb,ho]
 exact sm _ _ ho
end
theorem SU{ns:List Nat}{x:Sw83.Call}(h:Sw83Neutral.callIn (0::ns)=some x):∃z d,ns=[z,d]/\x= .begins z d:=by
 rcases ns with _|⟨z,_|⟨d,_|⟨e,r⟩⟩⟩<;>cases h
 exact⟨z,d,U,U⟩
theorem KY{ns:List Nat}{x:Sw83.Call}(h:Sw83Neutral.callIn (1::ns)=some x):∃z d,ns=[z,d]/\x= .border z d:=by
 rcases ns with _|⟨z,_|⟨d,_|⟨e,r⟩⟩⟩<;>cases h
 exact⟨z,d,U,U⟩
theorem SV{ns:List Nat}{x:Sw83.Call}(h:Sw83Neutral.callIn (3::ns)=some x):∃z d,ns=[z,d]/\x= .halt_ z d:=by
 rcases ns with _|⟨z,_|⟨d,_|⟨e,r⟩⟩⟩<;>cases h
 exact⟨z,d,U,U⟩
theorem SW{ns:List Nat}{x:Sw83.Call}(h:Sw83Neutral.callIn (5::ns)=some x):∃a b c,ns=[a,b,c]/\x= .walk a b c:=by
 rcases ns with _|⟨z,_|⟨d,_|⟨e,_|⟨f,r⟩⟩⟩⟩<;>cases h
 exact⟨z,d,e,U,U⟩
theorem SX{ns:List Nat}{x:Sw83.Call}(h:Sw83Neutral.callIn (6::ns)=some x):∃a b c,ns=[a,b,c]/\x= .late a b c:=by
 rcases ns with _|⟨z,_|⟨d,_|⟨e,_|⟨f,r⟩⟩⟩⟩<;>cases h
 exact⟨z,d,e,U,U⟩
theorem SY{ns:List Nat}{x:Sw83.Call}(h:Sw83Neutral.callIn (7::ns)=some x):∃a b c,ns=[a,b,c]/\x= .out a b c:=by
 rcases ns with _|⟨z,_|⟨d,_|⟨e,_|⟨f,r⟩⟩⟩⟩<;>cases h
 exact⟨z,d,e,U,U⟩
theorem S0{ns:List Nat}{x:Sw83.Call}(h:Sw83Neutral.callIn (8::ns)=some x):ns=[]/\x= .on:=by
 rcases ns with _|⟨z,r⟩<;>cases h
 exact⟨U,U⟩
theorem S1{ns:List Nat}{x:Sw83.Call}(h:Sw83Neutral.callIn (9::ns)=some x):ns=[]/\x= .still:=by
 rcases ns with _|⟨z,r⟩<;>cases h
 exact⟨U,U⟩
theorem PU{ns:List Nat}{x:Sw83.Call}(h:Sw83Neutral.callIn (10::ns)=some x):ns=[]/\x= .anew:=by
 rcases ns with _|⟨z,r⟩<;>cases h
 exact⟨U,U⟩
theorem PV{ns:List Nat}{x:Sw83.Call}(h:Sw83Neutral.callIn (11::ns)=some x):ns=[]/\x= .price:=by
 rcases ns with _|⟨z,r⟩<;>cases h
 exact⟨U,U⟩
theorem PX{ns:List Nat}{x:Sw83.Call}(h:Sw83Neutral.callIn (12::ns)=some x):ns=[]/\x= .where_:=by
 rcases ns with _|⟨z,r⟩<;>cases h
 exact⟨U,U⟩
theorem S4{ns:List Nat}{x:Sw83.Call}(h:Sw83Neutral.callIn (4::ns)=some x):∃d n l,ns=d::n::l/\n<=40/\l.length=3*n/\x= .trip d l:=by
 rcases ns with _|⟨d,_|⟨n,l⟩⟩
 . cases h
 . cases h
 have h:(if n<=40/\l.length=3*n then some (Sw83.Call.trip d l)else none)=some x:=h
 split at h
 . rename_i c
   exact⟨d,n,l,U,c.1,c.2,(Option.some.inj h).symm⟩
 cases h
theorem call2{ns:List Nat}{x:Sw83.Call}(h:Sw83Neutral.callIn (2::ns)=some x):(∃z p m n a b,ns=[0,z,p,m,n,a,b]/\x= .product ⟨.any z,p,m,n,a,b⟩)\/∃(zs:List Nat)(p m n a b:Nat),ns=1::zs.length::(zs++[p,m,n,a,b])/\x= .product ⟨.these (Sw76.bitsOf zs),p,m,n,a,b⟩:=by
 have h:((Sw83Neutral.areaIn ns).bind fun a=>match a.2 with
  |[p,m,n,x,y]=>some (Sw83.Call.product ⟨a.1,p,m,n,x,y⟩)
  |_=>none)=some x:=h
 cases e:Sw83Neutral.areaIn ns with
 |none=>rw[e]at h;cases h
 |some ar=>
  obtain⟨ar,l⟩:=ar
  rw[e,acw]at h
  have hl:∃p m n a b,l=[p,m,n,a,b]/\x= .product ⟨ar,p,m,n,a,b⟩:=by
   rcases l with _|⟨p,_|⟨m,_|⟨n,_|⟨a,_|⟨b,_|⟨c,r⟩⟩⟩⟩⟩⟩
   . cases h
   . cases h
   . cases h
   . cases h
   . cases h
   . exact⟨p,m,n,a,b,U,(Option.some.inj h).symm⟩
   cases h
  obtain⟨p,m,n,a,b,rfl,rfl⟩:=hl
  rcases ns with _|⟨c,r⟩
  . cases e
  by_cases c0:c=0
  . subst c0
    rcases r with _|⟨z,r⟩
    . cases e
    have e:some (Sw76.Area.any z,r)=some (ar,[p,m,n,a,b]):=e
    have e:=Option.some.inj e
    have e1:Sw76.Area.any z=ar:=(Prod.mk.inj e).1
    have e2:r=[p,m,n,a,b]:=(Prod.mk.inj e).2
    subst e1 e2
    exact .inl ⟨z,p,m,n,a,b,rfl,rfl⟩
  by_cases c1:c=1
  . subst c1
    have e:((Sw83Neutral.zonesIn r).map fun x=>(Sw76.Area.these x.1,x.2))=some (ar,[p,m,n,a,b]):=e
    unfold Sw83Neutral.zonesIn at e
    rcases r with _|⟨c,r⟩
    . cases e
    have e:(((if c<=40/\c<=r.length then some (r.take c,r.drop c)else none).bind fun x=>if(x.1.all fun z=>decide (z<=31))=true then some (Sw76.bitsOf x.1,x.2)else none).map fun x=>(Sw76.Area.these x.1,x.2))=some (ar,[p,m,n,a,b]):=e
    by_cases cc:c<=40/\c<=r.length
    . rw[if_pos cc,acw]at e
      split at e
      . have e:=Option.some.inj e
        have e1:Sw76.Area.these (Sw76.bitsOf (r.take c))=ar:=(Prod.mk.inj e).1
        have e2:r.drop c=[p,m,n,a,b]:=(Prod.mk.inj e).2
        subst e1
        refine .inr ⟨r.take c,p,m,n,a,b, ?_,rfl⟩
        rw[<-e2,acU,abR,adi cc.2]
      cases e
    rw[if_neg cc]at e
    cases e
  exfalso
  rcases c with _|_|c
  . exact c0 rfl
  . exact c1 rfl
  cases e
section
variable{A:Ad}{Pr:List Addr}{H H':Hp}{dk:Addr}{n:Nat}{s:Sw83.St}{fI f t fb pl sl wl tl:Addr}{tv:V}{bs:List Nat}{ps ss ws ts:List Addr}
theorem ik.at_ (D:ik A Pr H dk n s fI f t fb pl sl wl tl tv bs ps ss ws ts):dM A Pr H dk n s:=⟨fI,f,t,fb,pl,sl,wl,tl,tv,bs,ps,ss,ws,ts,D⟩
theorem ik.tabs (D:ik A Pr H dk n s fI f t fb pl sl wl tl tv bs ps ss ws ts) {l:Addr} (hl:l=sl\/l=wl\/l=tl) (k:gu H H' l) {T':Sg45.Table} {zs':List Nat} {Si Sj W9:List Addr} (tab:iZ A H' t sl wl tl Si Sj W9 T' zs' s.day) (tabS:AB sl wl tl W9) (ok:nY {s with table:=T',zones:=zs'}):
 dM A Pr H' dk (n+1) {s with table:=T',zones:=zs'}/\∀b∈Pr,H' b=H b:=by
 have PY:∃xs,H l=some (.lst xs):=by
  rcases hl with rfl|rfl|rfl
  . exact⟨_,D.tab.st.lst⟩
  . exact⟨_,D.tab.wk.lst⟩
  exact⟨_,D.tab.tp.lst⟩
 obtain⟨xs,hx⟩:=PY
 have GQ:l∈[fb,pl,sl,wl,tl]:=by
  simp only[abo,adh,or_false]
  exact .inr (.inr hl)
 have O5:fb≠l:=by
  rcases hl with rfl|rfl|rfl
  . exact D.ap.1.1
  . exact D.ap.1.2.1
  exact D.ap.1.2.2
 have npl:pl≠l:=by
  rcases hl with rfl|rfl|rfl
  . exact D.ap.2.1
  . exact D.ap.2.2.1
  exact D.ap.2.2.2
 have nb:∀b∈Pr,b≠l:=fun b hb q=>(D.pr b hb).2 (by rw[q];exact GQ)
 have kb:∀b∈Pr,H' b=H b:=fun b hb=>by
  obtain⟨⟨zs,h1⟩,_⟩:=D.pr b hb
  rw[h1]
  exact k _ _ h1 (nb b hb)
 refine⟨⟨fI,f,t,fb,pl,sl,wl,tl,tv,bs,ps,Si,Sj,W9,⟨?_, ?_,tab,tabS,D.ap,fun b hb=> ?_,ok, ?_⟩⟩,kb⟩
 . exact k _ _ D.ins (bH D.ins hx (by intro q;cases q))
 . exact D.sx.but (v8 k) fun b hb=>by
    subst hb
    exact⟨m5 hx,O5,npl⟩
 . obtain⟨⟨zs,h1⟩,h2⟩:=D.pr b hb
   exact⟨⟨zs,by rw[kb b hb];exact h1⟩,h2⟩
 refine gM.to (s:=s) (D.tv.but (v8 k) fun b hb=> ?_) (abO _) rfl rfl rfl rfl rfl
 subst hb
 exact⟨m5 hx, .inl (abr _ GQ)⟩
theorem ik.late (D:ik A Pr H dk n s fI f t fb pl sl wl tl tv bs ps ss ws ts) {l:Addr} {p:Sg45.Trip} (hl:jh A s.day H l p) (k:gu H H' l) {T':Sg45.Table} (tab:iZ A H' t sl wl tl ss ws ts T' s.zones s.day) (ok:nY {s with table:=T'}):
 dM A Pr H' dk (n+1) {s with table:=T'}/\∀b∈Pr,H' b=H b:=by
 obtain⟨dl,cl,cs,hx,_⟩:=hl.ex
 have kb:∀b∈Pr,H' b=H b:=fun b hb=>by
  obtain⟨⟨zs,h1⟩,_⟩:=D.pr b hb
  rw[h1]
  exact k _ _ h1 (bH h1 hx (by intro q;cases q))
 refine⟨⟨fI,f,t,fb,pl,sl,wl,tl,tv,bs,ps,ss,ws,ts,⟨?_, ?_,tab,D.tabS,D.ap,fun b hb=> ?_,ok, ?_⟩⟩,kb⟩
 . refine k _ _ D.ins (bH D.ins hx ?_)
   intro q
   injection q with _ _ q
   exact fQ (by decide+kernel) q
 . exact D.sx.but (v8 k) fun b hb=>by
    subst hb
    exact⟨sv hx (by decide+kernel),bH D.sx.bd hx (by intro q;cases q),bH D.sx.pr.lst hx (by intro q;cases q)⟩
 . obtain⟨⟨zs,h1⟩,h2⟩:=D.pr b hb
   exact⟨⟨zs,by rw[kb b hb];exact h1⟩,h2⟩
 refine gM.to (s:=s) (D.tv.but (v8 k) fun b hb=> ?_) (abO _) rfl rfl rfl rfl rfl
 subst hb
 exact⟨sv hx (by decide+kernel), .inr ⟨_,_,_,hx⟩⟩
theorem ik.NP (D:ik A Pr H dk n s fI f t fb pl sl wl tl tv bs ps ss ws ts) {l:Addr} (hl:l=fb\/l=pl) (k:gu H H' l) {d':Sw76.Desk} {So:List Nat} {Yt:List Addr} (sx:nM A H' f fb pl So Yt d') (hz:d'.map.zones=s.desk.map.zones) (ok:nY {s with desk:=d'}):
 dM A Pr H' dk (n+1) {s with desk:=d'}/\∀b∈Pr,H' b=H b:=by
 have PY:∃xs,H l=some (.lst xs):=by
  rcases hl with rfl|rfl
  . exact⟨_,D.sx.bd⟩
  exact⟨_,D.sx.pr.lst⟩
 obtain⟨xs,hx⟩:=PY
 have ug:v9 A H l:=by
  rcases hl with rfl|rfl
  . refine xi (zs:=Js bs) ?_
    rw[<-CP]
    exact D.sx.bd
  exact zB D.sx.pr AG
 have GQ:l∈[fb,pl,sl,wl,tl]:=by
  simp only[abo,adh,or_false]
  rcases hl with h|h
  . exact .inl h
  exact .inr (.inl h)
 have nt:sl≠l/\wl≠l/\tl≠l:=by
  rcases hl with rfl|rfl
  . exact⟨abp D.ap.1.1,abp D.ap.1.2.1,abp D.ap.1.2.2⟩
  exact⟨abp D.ap.2.1,abp D.ap.2.2.1,abp D.ap.2.2.2⟩
 have nb:∀b∈Pr,b≠l:=fun b hb q=>(D.pr b hb).2 (by rw[q];exact GQ)
 have kb:∀b∈Pr,H' b=H b:=fun b hb=>by
  obtain⟨⟨zs,h1⟩,_⟩:=D.pr b hb
  rw[h1]
  exact k _ _ h1 (nb b hb)
 refine⟨⟨fI,f,t,fb,pl,sl,wl,tl,tv,So,Yt,ss,ws,ts,⟨?_,sx, ?_,D.tabS,D.ap,fun b hb=> ?_,ok, ?_⟩⟩,kb⟩
 . exact k _ _ D.ins (bH D.ins hx (by intro q;cases q))
 . exact D.tab.but D.ok.tab (v8 k) fun b hb=>by
    subst hb
    exact⟨m5 hx,nt.1,nt.2.1,nt.2.2,ug⟩
 . obtain⟨⟨zs,h1⟩,h2⟩:=D.pr b hb
   exact⟨⟨zs,by rw[kb b hb];exact h1⟩,h2⟩
 refine gM.to (s:=s) (D.tv.but (v8 k) fun b hb=> ?_) (abO _) rfl rfl rfl rfl hz
 subst hb
 exact⟨m5 hx, .inl (abr _ GQ)⟩
theorem Jd{z day:Nat}(N:F6 A H H' dk fI z day f t fb pl sl wl tl)(hz:z<=8)(hd:day<=6)(Yu:∀b∈Pr,∃xs:List Int,H b=some (.lst (xs.map V.int))){C:Addr}{fs:aV}(Ho:H dk=some (.ins C fI fs)):
 dM A Pr H' dk n ⟨Sg45.empty,day,[],⟨⟨z,[]⟩,[],[]⟩,none,0,[],[]⟩/\∀b∈Pr,H' b=H b:=by
 have kb:∀b∈Pr,H' b=H b:=fun b hb=>by
  obtain⟨zs,h1⟩:=Yu b hb
  rw[h1]
  exact N.kp _ _ h1 (bH h1 Ho (by intro q;cases q))
 refine⟨⟨fI,f,t,fb,pl,sl,wl,tl, .dR,_,[],[],[],[],⟨N.ins,N.sx,N.tab,N.tabS,N.ap,fun b hb=> ?_,y0 hd hz,U⟩⟩,kb⟩
 obtain⟨zs,h1⟩:=Yu b hb
 refine⟨⟨zs,by rw[kb b hb];exact h1⟩,fun q=> ?_⟩
 rw[N.fr b q]at h1
 cases h1
end
section
variable{P:Program}{w:World}{K:PySem.W.Frag}{mg:Str->Option Value}{base:Heap}{A:Ad}
abbrev kW:Stmt:=top 69
theorem j5:aB ["desk","told","zones","weekday"] ["desk","told"] (ao kW):=sm
theorem wd{f:Addr}{fd:FuncData}(F:eH K "answer_begins" "answer_begins" kW f fd)(T:Txt K mg A)(d9:MethAt P w K mg base 3 A.Desk "begin_day" ["self","zones","weekday"] (ub A)):bq P w K mg base eD 4 f fd ["desk","told"] (my A 0):=by
 refine F.ok j5 (fun vs H Q E h=> ?_) (fun dz Ar outer s H vs Q E hr h=> ?_)
 . obtain⟨_,_,_,_,_,_,_,rfl,_⟩:=h
   rfl
 obtain⟨Pr,dk,tq,n,st,ns,x,rfl,D,hn,ht,hx,hlen,k⟩:=h
 obtain⟨z,d,rfl,rfl⟩:=SU hx
 obtain⟨fI,f',t,fb,pl,sl,wl,tl,tv,bs,ps,ss,ws,ts,DL⟩:=D.ex
 have S:=aW.of (K:=K) ht
 have g0:oJ (b9 [z,d]) 0=some (.int (z:Nat)):=c9 (n:=0) rfl
 have g1:oJ (b9 [z,d]) 1=some (.int (d:Nat)):=c9 (n:=1) rfl
 have bad:(6<d\/z<1\/8<z)->∀p,H p=none->Q (.ref p) (upd H p (.lst [V.int (-1)])):=fun c p hp=>cW k D (fun _ _ h=>h) (AI c) p hp
 refine⟨_,(ae (aC (i:=2) j5.nd rfl oi (aM ax (pv 1) aj (fun _ _=>rfl)))
  (ae (aC (i:=3) j5.nd rfl oi (aM ax (pv 1) aj (fun _ _=>rfl)))
  (ae (bg (PW.pt (gn (ay iR (pv 3) (bj rfl T.gB) nk) (gn (ay lV (pv 2) aj nk) (gw (ay jF (pv 2) (bj rfl T.jb) nk))))) (ah (aA (bb (aa (cJ bS aj) ag)))) aF)
  (ae (cF (bB (pv 0) d9 hr (aa (pv 2) (aa (pv 3) ag))))
  (ah (aA (bb (aa aj ag)))))))), ?_⟩
 refine⟨_,U,_,_,_,_,U,U,S,g0, ?_⟩
 refine⟨_,U,_,_,_,_,U,U,S,g1, ?_⟩
 refine⟨_,U,_,_,U,U,_,U, ?_⟩
 refine aK (fun q=> ?_) (fun q=> ?_)
 . have q:(7:Int)<=(d:Int):=of_decide_eq_true q
   refine aK (fun _=> ?_) (fun z=>(z rfl).elim)
   exact⟨_,U,Ud,bad (by lia)⟩
 have q1:d<7:=uZ (b:=7) q
 refine⟨_,U,_,_,U,U,_,U, ?_⟩
 refine aK (fun q=> ?_) (fun q=> ?_)
 . have q:(z:Int)<1:=of_decide_eq_true q
   refine aK (fun _=> ?_) (fun z=>(z rfl).elim)
   exact⟨_,U,Ud,bad (by lia)⟩
 have q2:1<=z:=lp (a:=1) (b:=z) q
 refine⟨_,U,_,_,U,U,_,U, ?_⟩
 refine aK (fun q=> ?_) (fun q=> ?_)
 . have q:(8:Int)<(z:Int):=of_decide_eq_true q
   exact⟨_,U,Ud,bad (by lia)⟩
 have q3:z<=8:=lp (a:=z) (b:=8) q
 have e:=IT (s:=st) (show d<=6 by lia) q2 q3
 refine⟨_,U,dk,fI,_,U,DL.ins,U,_,U,_,U,dk,fI,z,d,_,U,q3,(by lia),DL.ins, .inr ⟨_,_,_,U⟩,fun H' f2 t2 fb2 pl2 sl2 wl2 tl2 N=> ?_⟩
 obtain⟨D',kb⟩:=Jd (n:=n+1) N q3 (by lia) (fun b hb=>(DL.pr b hb).1) DL.ins
 refine⟨Ud,m6 k kb (by rw[e];exact D') (by rw[e])⟩
abbrev kX:Stmt:=top 70
theorem we:aB ["desk","told"] ["desk","told"] (ao kX):=sm
theorem wg{f:Addr}{fd:FuncData}(F:eH K "answer_border" "answer_border" kX f fd)(T:Txt K mg A)(iP:MethAt P w K mg base 1 A.c7 "add_border" ["self","i","j"] (Ej A)):bq P w K mg base eD 2 f fd ["desk","told"] (my A 1):=by
 refine F.ok we (fun vs H Q E h=> ?_) (fun dz Ar outer s H vs Q E hr h=> ?_)
 . obtain⟨_,_,_,_,_,_,_,rfl,_⟩:=h
   rfl
 obtain⟨Pr,dk,tq,n,st,ns,x,rfl,D,hn,ht,hx,hlen,k⟩:=h
 obtain⟨i,j,rfl,rfl⟩:=KY hx
 obtain⟨fI,f',t,fb,pl,sl,wl,tl,tv,bs,ps,ss,ws,ts,DL⟩:=D.ex
 obtain⟨df,NQ⟩:=DL.sx.ins
 have S:=aW.of (K:=K) ht
 have g0:oJ (b9 [i,j]) 0=some (.int (i:Nat)):=c9 (n:=0) rfl
 have g1:oJ (b9 [i,j]) 1=some (.int (j:Nat)):=c9 (n:=1) rfl
 refine⟨_,(ah (aA (bb (aa (bB (ai (pv 0) rfl) iP hr (aa (aM ax (pv 1) aj (fun _ _=>rfl)) (aa (aM ax (pv 1) aj (fun _ _=>rfl)) ag))) ag)))), ?_⟩
 refine⟨_,U,_,_,_,_,_,U,DL.ins,T.bU,T.gW,U,f',df,_,U,NQ,U,_,U,_,_,_,_,U,U,S,g0,_,U,_,_,_,_,U,U,S,g1,f',fb,pl,bs,ps,st.desk,i,j,U,DL.sx,DL.ok.nz,fun c=> ?_,fun c1 c2 c=> ?_,fun c1 c2 c3 c4 H' So kk sx=> ?_⟩
 . exact⟨Ud,cW k D (fun _ _ h=>h) (Ez c)⟩
 . exact⟨Ud,cW k D (fun _ _ h=>h) (EA c1 c2 c)⟩
 have e:=IU c1 c2 c3 c4
 obtain⟨D',kb⟩:=DL.NP (.inl rfl) kk sx rfl DL.ok.border
 exact⟨Ud,m6 k kb (by rw[e];exact D') (by rw[e])⟩
abbrev nS:Stmt:=top 72
theorem zG:aB ["desk","told"] ["desk","told"] (ao nS):=sm
theorem zH{f:Addr}{fd:FuncData}(F:eH K "answer_stop" "answer_stop" nS f fd)(T:Txt K mg A)(gO:MethAt P w K mg base 3 A.aJ "add_stop" ["self","change","zone","zones"] (BI A)):bq P w K mg base eD 4 f fd ["desk","told"] (my A 3):=by
 refine F.ok zG (fun vs H Q E h=> ?_) (fun dz Ar outer s H vs Q E hr h=> ?_)
 . obtain⟨_,_,_,_,_,_,_,rfl,_⟩:=h
   rfl
 obtain⟨Pr,dk,tq,n,st,ns,x,rfl,D,hn,ht,hx,hlen,k⟩:=h
 obtain⟨c,z,rfl,rfl⟩:=SV hx
 obtain⟨fI,f',t,fb,pl,sl,wl,tl,tv,bs,ps,ss,ws,ts,DL⟩:=D.ex
 obtain⟨df,NQ⟩:=DL.sx.ins
 obtain⟨dt,IP⟩:=DL.tab.ins
 have S:=aW.of (K:=K) ht
 have g0:oJ (b9 [c,z]) 0=some (.int (c:Nat)):=c9 (n:=0) rfl
 have g1:oJ (b9 [c,z]) 1=some (.int (z:Nat)):=c9 (n:=1) rfl
 refine⟨_,(ah (aA (bb (aa (bB (ai (pv 0) rfl) gO hr (aa (aM ax (pv 1) aj (fun _ _=>rfl)) (aa (aM ax (pv 1) aj (fun _ _=>rfl)) (aa (ai (ai (pv 0) rfl) rfl) ag)))) ag)))), ?_⟩
 refine⟨_,U,_,_,_,_,_,U,DL.ins,T.bU,T.bD,U,t,dt,_,U,IP,U,_,U,_,_,_,_,U,U,S,g0,_,U,_,_,_,_,U,U,S,g1,_,U,_,_,_,_,_,U,DL.ins,T.bU,T.gW,U,_,_,_,_,_,U,NQ,T.bI,T.fY,U,t,sl,wl,tl,ss,ws,ts,st.table,st.zones,st.day,c,z,st.desk.map.zones,U,DL.tab,DL.tabS,DL.ok.tab,fun c1=> ?_,fun c1 c2=> ?_,fun c1 c2 c3=> ?_,fun c1 c2 c3 H' a kk tab=> ?_⟩
 . exact⟨Ud,cW k D (fun _ _ h=>h) (IX c1)⟩
 . exact⟨Ud,cW k D (fun _ _ h=>h) (IY c1 c2)⟩
 . exact⟨Ud,cW k D (fun _ _ h=>h) (F9 c1 c2 c3)⟩
 have e:=M9 c1 c2 c3
 obtain⟨D',kb⟩:=DL.tabs (.inl rfl) kk tab DL.tabS (DL.ok.stop c1 c2 c3)
 exact⟨Ud,m6 k kb (by rw[e];exact D') (by rw[e])⟩
abbrev nT:Stmt:=top 74
theorem zI:aB ["desk","told"] ["desk","told"] (ao nT):=sm
theorem zJ{f:Addr}{fd:FuncData}(F:eH K "answer_walk" "answer_walk" nT f fd)(T:Txt K mg A)(gP:MethAt P w K mg base 3 A.aJ "add_walk" ["self","start","end","minutes"] (BJ A)):bq P w K mg base eD 4 f fd ["desk","told"] (my A 5):=by
 refine F.ok zI (fun vs H Q E h=> ?_) (fun dz Ar outer s H vs Q E hr h=> ?_)
 . obtain⟨_,_,_,_,_,_,_,rfl,_⟩:=h
   rfl
 obtain⟨Pr,dk,tq,n,st,ns,x,rfl,D,hn,ht,hx,hlen,k⟩:=h
 obtain⟨a,b,m,rfl,rfl⟩:=SW hx
 obtain⟨fI,f',t,fb,pl,sl,wl,tl,tv,bs,ps,ss,ws,ts,DL⟩:=D.ex
 obtain⟨dt,IP⟩:=DL.tab.ins
 have S:=aW.of (K:=K) ht
 have g0:oJ (b9 [a,b,m]) 0=some (.int (a:Nat)):=c9 (n:=0) rfl
 have g1:oJ (b9 [a,b,m]) 1=some (.int (b:Nat)):=c9 (n:=1) rfl
 have g2:oJ (b9 [a,b,m]) 2=some (.int (m:Nat)):=c9 (n:=2) rfl
 refine⟨_,(ah (aA (bb (aa (bB (ai (pv 0) rfl) gP hr (aa (aM ax (pv 1) aj (fun _ _=>rfl)) (aa (aM ax (pv 1) aj (fun _ _=>rfl)) (aa (aM ax (pv 1) aj (fun _ _=>rfl)) ag)))) ag)))), ?_⟩
 refine⟨_,U,_,_,_,_,_,U,DL.ins,T.bU,T.bD,U,t,dt,_,U,IP,U,_,U,_,_,_,_,U,U,S,g0,_,U,_,_,_,_,U,U,S,g1,_,U,_,_,_,_,U,U,S,g2,t,sl,wl,tl,ss,ws,ts,st.table,st.zones,st.day,a,b,m,U,DL.tab,DL.tabS,DL.ok.tab,fun c1=> ?_,fun c1 c2=> ?_,fun c1 c2 c3 c4 H' a kk tab=> ?_⟩
 . exact⟨Ud,cW k D (fun _ _ h=>h) (IZ c1)⟩
 . exact⟨Ud,cW k D (fun _ _ h=>h) (I0 c1 c2)⟩
 have e:=Na c1 c2 c3 c4
 obtain⟨D',kb⟩:=DL.tabs (.inr (.inl rfl)) kk tab DL.tabS (DL.ok.walk c1 c2 c3 c4)
 exact⟨Ud,m6 k kb (by rw[e];exact D') (by rw[e])⟩
abbrev nU:Stmt:=top 75
theorem zK:aB ["desk","told"] ["desk","told"] (ao nU):=sm
theorem zL{f:Addr}{fd:FuncData}(F:eH K "answer_late" "answer_late" nU f fd)(T:Txt K mg A)(gk:MethAt P w K mg base 1 A.aJ "tell_late" ["self","number","call","minutes"] (KL A)):bq P w K mg base eD 2 f fd ["desk","told"] (my A 6):=by
 refine F.ok zK (fun vs H Q E h=> ?_) (fun dz Ar outer s H vs Q E hr h=> ?_)
 . obtain⟨_,_,_,_,_,_,_,rfl,_⟩:=h
   rfl
 obtain⟨Pr,dk,tq,n,st,ns,x,rfl,D,hn,ht,hx,hlen,k⟩:=h
 obtain⟨a,b,m,rfl,rfl⟩:=SX hx
 obtain⟨fI,f',t,fb,pl,sl,wl,tl,tv,bs,ps,ss,ws,ts,DL⟩:=D.ex
 obtain⟨dt,IP⟩:=DL.tab.ins
 have S:=aW.of (K:=K) ht
 have g0:oJ (b9 [a,b,m]) 0=some (.int (a:Nat)):=c9 (n:=0) rfl
 have g1:oJ (b9 [a,b,m]) 1=some (.int (b:Nat)):=c9 (n:=1) rfl
 have g2:oJ (b9 [a,b,m]) 2=some (.int (m:Nat)):=c9 (n:=2) rfl
 refine⟨_,(ah (aA (bb (aa (bB (ai (pv 0) rfl) gk hr (aa (aM ax (pv 1) aj (fun _ _=>rfl)) (aa (aM ax (pv 1) aj (fun _ _=>rfl)) (aa (aM ax (pv 1) aj (fun _ _=>rfl)) ag)))) ag)))), ?_⟩
 refine⟨_,U,_,_,_,_,_,U,DL.ins,T.bU,T.bD,U,t,dt,_,U,IP,U,_,U,_,_,_,_,U,U,S,g0,_,U,_,_,_,_,U,U,S,g1,_,U,_,_,_,_,U,U,S,g2,t,sl,wl,tl,ss,ws,ts,st.table,st.zones,st.day,a,b,m,U,DL.tab,DL.tabS,DL.ok.tab,fun c1=> ?_,fun c1 c2 c3 H' y hy kk tab=> ?_⟩
 . exact⟨Ud,cW k D (fun _ _ h=>h) (Ja c1)⟩
 have e:=Nb DL.ok.tab.dy c1 c2 c3
 obtain⟨p,hy⟩:=hy
 obtain⟨D',kb⟩:=DL.late hy kk tab (DL.ok.late c3)
 exact⟨Ud,m6 k kb (by rw[e];exact D') (by rw[e])⟩
end
theorem EB{l:List Nat}{k:Nat}:(b9 l).drop k=b9 (l.drop k):=by unfold b9;rw[List.map_drop]
theorem EC{l:List Nat}{k:Nat}:(b9 l).take k=b9 (l.take k):=by unfold b9;rw[List.map_take]
theorem ED{l:List Nat}{k:Nat}(h:k<=l.length):lB (b9 l) (some (k:Int)) none=b9 (l.drop k):=by
 unfold lB
 rw[uT,cX,adi h,EB,EC]
 rw[show HT.Bd l.length l.length none=l.length from rfl,ac4 (by simp)]
theorem Nd{l:List Nat}{a b:Nat}(h1:a<=b)(h2:b<=l.length):lB (b9 l) (some (a:Int)) (some (b:Int))=b9 ((l.drop a).take (b-a)):=by
 unfold lB
 rw[uT,uT,cX,adi h2,adi (by lia),EB,EC]
theorem Je{lo c:Int}{n:Nat}{g:TG}{tt:TT}{te:TE}{vs:List Nat}{σ:L2.St}{H1:Hp}{D:Addr}{Qd:Hp->Prop}(Pv:Nat->Hp->Prop)(h0:Pv 0 (upd H1 D (.lst [])))
 (hs:∀(i:Nat)H,i<n->Pv i H->g (.int (lo+(i:Nat)*c)) (wipe σ vs) H fun i5 H2=>wipe i5 vs=wipe σ vs/\tt i5 H2 fun b H3=>
  if b=true then te i5 H3 fun y H4=>∃acc,H4 D=some (.lst acc)/\acc.length<sizeLine/\Pv (i+1) (upd H4 D (.lst (acc++[y])))else Pv (i+1) H3) (hd:∀H,Pv n H->Qd H):
 ∃W:Nat->Nat->Hp->Prop,(∃m,W 0 m (upd H1 D (.lst [])))/\∀i m H,W i m H->
  ((RD lo c n).stop i H/\Qd H)\/((RD lo c n).go i H/\∃Nx:Hp->Prop,(∀H',Nx H'->∃m',m'<m/\W (i+1) m' H')/\∀x H',(RD lo c n).GD i H x H'->g x (wipe σ vs) H' fun i5 H2=>wipe i5 vs=wipe σ vs/\tt i5 H2 fun b H3=>
    if b=true then te i5 H3 fun y H4=>∃acc,H4 D=some (.lst acc)/\acc.length<sizeLine/\Nx (upd H4 D (.lst (acc++[y])))else Nx H3):=by
 refine⟨fun i m H=>m=n-i/\i<=n/\Pv i H,⟨n,by simp,abE _,h0⟩, ?_⟩
 rintro i m H ⟨rfl,hi,p⟩
 by_cases di:i<n
 . refine .inr ⟨di,Pv (i+1),fun H' p'=>⟨n-(i+1),by lia,rfl,di,p'⟩,fun x H' y=> ?_⟩
   obtain⟨e,y⟩:=y
   subst e y
   exact hs i _ di p
 have e:i=n:=by lia
 subst e
 exact .inl ⟨abB _,hd H p⟩
theorem xj:∀{m i:Nat}{l:List Nat},l.length=3*m->i<m->∃a b c,l[3*i]?=some a/\l[3*i+1]?=some b/\l[3*i+2]?=some c/\(Sg45.callsOf l)[i]?=some ⟨a,b,c⟩
 |0,i,l,_,h=>by lia
 |m+1,i,l,hl,hi=>by
  rcases l with _|⟨a,_|⟨b,_|⟨c,l⟩⟩⟩
  . simp at hl
  . simp at hl;lia
  . simp at hl;lia
  cases i with
  |zero=>exact⟨a,b,c,rfl,rfl,rfl,rfl⟩
  |succ i=>
   obtain⟨a',b',c',h1,h2,h3,h4⟩:=xj (m:=m) (i:=i) (l:=l) (by simp only[abG]at hl;lia) (by lia)
   refine⟨a',b',c', ?_, ?_, ?_, ?_⟩
   . rw[show 3*(i+1)=3*i+3 by lia]
     exact h1
   . rw[show 3*(i+1)+1=(3*i+1)+3 by lia]
     exact h2
   . rw[show 3*(i+1)+2=(3*i+2)+3 by lia]
     exact h3
   rw[Sg45.callsOf]
   exact h4
theorem rg3:∀n:Fin 41,Builtin.Range.small 2 (2+3*(n.val:Int)) 3=true/\Builtin.Range.rangeSize 2 (2+3*(n.val:Int)) 3=(n.val:Int):=by decide+kernel
theorem Xa{m:Nat}(h:m<=40):XR 2 (2+3*(m:Int)) 3 m:=by
 obtain⟨h1,h2⟩:=rg3 ⟨m,by lia⟩
 exact⟨by decide,by decide,h1,h2⟩
section
variable{A:Ad}{Pr:List Addr}{H H':Hp}{dk:Addr}{n:Nat}{s:Sw83.St}{fI f t fb pl sl wl tl:Addr}{tv:V}{bs:List Nat}{ps ss ws ts:List Addr}
theorem ik.same (h:ik A Pr H dk n s fI f t fb pl sl wl tl tv bs ps ss ws ts) (k:ak H H'):ik A Pr H' dk n s fI f t fb pl sl wl tl tv bs ps ss ws ts:=⟨k _ _ h.ins,h.sx.same k,h.tab.same k,h.tabS,h.ap,fun b hb=>by
 obtain⟨⟨xs,h1⟩,h2⟩:=h.pr b hb
 exact⟨⟨xs,k _ _ h1⟩,h2⟩,h.ok,h.tv.same k⟩
theorem ik.QT (h:ik A Pr H dk n s fI f t fb pl sl wl tl tv bs ps ss ws ts) (k:ak H H'):∀b∈Pr,H' b=H b:=fun b hb=>by
 obtain⟨⟨xs,h1⟩,h2⟩:=h.pr b hb
 rw[h1]
 exact k _ _ h1
end
section
variable{P:Program}{w:World}{K:PySem.W.Frag}{mg:Str->Option Value}{base:Heap}{A:Ad}
theorem EE{Pr:List Addr}{H H1:Hp}{Q:VK}{dk:Addr}{n:Nat}{st:Sw83.St}{fI f t fb pl sl wl tl:Addr}{tv:V}{bs:List Nat}{ps ss ws ts:List Addr}{y:Sw76.Product}(k:K7 A Pr H Q dk n st (.product y))(DL:ik A Pr H dk n st fI f t fb pl sl wl tl tv bs ps ss ws ts)(sm:ak H H1):
 FW A H1 (fun x H2=>[x].length<=sizeLine/\∀p,H2 p=none->Q (.ref p) (upd H2 p (.lst [x]))) f fb pl bs ps st.desk y:=by
 have D:=DL.at_
 have Jf:=DL.same sm
 refine⟨fun c=>⟨Ud,cW k D sm (IV c)⟩,fun c1 c2=>⟨Ud,cW k D sm (IW c1 c2)⟩,fun c1 c2 H' a kk sx=> ?_⟩
 have e:=M8 c1 c2
 obtain⟨D',kb⟩:=Jf.NP (.inr rfl) kk sx rfl (DL.ok.prod c1 c2)
 exact⟨Ud,m6 k (fun b hb=>(kb b hb).trans (DL.QT sm b hb)) (by rw[e];exact D') (by rw[e])⟩
abbrev j6:Stmt:=top 71
theorem m7:aB ["desk","told","end"] ["desk","told"] (ao j6):=sm
theorem va{f:Addr}{fd:FuncData}(F:eH K "answer_product" "answer_product" j6 f fd)(T:Txt K mg A)(fJ:MethAt P w K mg base 4 A.c7 "add_any_product" ["self","any_zones","terms"] (Ek A))(eZ:MethAt P w K mg base 4 A.c7 "add_told_product" ["self","told","terms"] (BN A)):bq P w K mg base eD 5 f fd ["desk","told"] (my A 2):=by
 refine F.ok m7 (fun vs H Q E h=> ?_) (fun dz Ar outer s H vs Q E hr h=> ?_)
 . obtain⟨_,_,_,_,_,_,_,rfl,_⟩:=h
   rfl
 obtain⟨Pr,dk,tq,n,st,ns,x,rfl,D,hn,ht,hx,hlen,k⟩:=h
 obtain⟨fI,f',t,fb,pl,sl,wl,tl,tv,bs,ps,ss,ws,ts,DL⟩:=D.ex
 obtain⟨df,NQ⟩:=DL.sx.ins
 have S:=aW.of (K:=K) ht
 refine⟨_,(ae (bg (ay ku (aM ax (pv 1) aj (fun _ _=>rfl)) aj nk) (ah (aA (bb (aa (bB (ai (pv 0) rfl) fJ hr (aa (aM ax (pv 1) aj (fun _ _=>rfl)) (aa (lX oO (pv 1) (j8 aj) xX) ag))) ag)))) aF)
  (ae (aC (i:=2) m7.nd rfl oi (bA ft aj (aM ax (pv 1) aj (fun _ _=>rfl))))
  (ah (aA (bb (aa (bB (ai (pv 0) rfl) eZ hr (aa (lX oO (pv 1) (j8 aj) (j8 (pv 2))) (aa (lX oO (pv 1) (j8 (pv 2)) xX) ag))) ag)))))), ?_⟩
 rcases call2 hx with⟨z,p,m,q,a,b,rfl,rfl⟩|⟨zs,p,m,q,a,b,rfl,rfl⟩
 . have g0:oJ (b9 [0,z,p,m,q,a,b]) 0=some (.int ((0:Nat):Int)):=c9 (n:=0) rfl
   have g1:oJ (b9 [0,z,p,m,q,a,b]) 1=some (.int (z:Nat)):=c9 (n:=1) rfl
   refine⟨_,U,_,_,_,_,U,U,S,g0,U,_,U, ?_⟩
   refine aK (fun _=> ?_) (fun c=>(c rfl).elim)
   refine⟨_,U,_,_,_,_,_,U,DL.ins,T.bU,T.gW,U,f',df,_,U,NQ,U,_,U,_,_,_,_,U,U,S,g1,_,U,_,U,tq,_,U,S,fun sp EX=> ?_⟩
   have ec:lB (b9 [0,z,p,m,q,a,b]) (some 2) none=b9 [p,m,q,a,b]:=ED (l:=[0,z,p,m,q,a,b]) (k:=2) (by show 2<=7;decide)
   rw[ec]
   have s1:ak H (upd H sp (.lst (b9 [p,m,q,a,b]))):=ak.upd EX
   refine⟨f',fb,pl,sp,bs,ps,st.desk,z,p,m,q,a,b,U,DL.sx.same s1,af,EE k DL s1⟩
 have g0:oJ (b9 (1::zs.length::(zs++[p,m,q,a,b]))) 0=some (.int ((1:Nat):Int)):=c9 (n:=0) rfl
 have g1:oJ (b9 (1::zs.length::(zs++[p,m,q,a,b]))) 1=some (.int (zs.length:Nat)):=c9 (n:=1) rfl
 refine⟨_,U,_,_,_,_,U,U,S,g0,U,_,U, ?_⟩
 refine aK (fun c=> ?_) (fun _=> ?_)
 . exfalso
   have c:decide (V.int ((1:Nat):Int)=V.int 0)=true:=c
   have:=of_decide_eq_true c
   injection this with this
   lia
 refine⟨_,U,_,_,_,_,U,U,S,g1,_,_,U,U, ?_⟩
 dsimp only
 rw[show(2:Int)+(zs.length:Int)=((2+zs.length:Nat):Int) by lia]
 refine⟨_,U,_,_,_,_,_,U,DL.ins,T.bU,T.gW,U,f',df,_,U,NQ,U,_,U,_,U,_,U,_,U,tq,_,U,S,fun zp hzp=> ?_⟩
 have ec:lB (b9 (1::zs.length::(zs++[p,m,q,a,b]))) (some 2) (some ((2+zs.length:Nat):Int))=b9 zs:=by
  have:=Nd (l:=1::zs.length::(zs++[p,m,q,a,b])) (a:=2) (b:=2+zs.length) (by lia) (by simp;lia)
  have e2:((1::zs.length::(zs++[p,m,q,a,b])).drop 2).take (2+zs.length-2)=zs:=by
   rw[show 2+zs.length-2=zs.length by lia]
   show(zs++[p,m,q,a,b]).take zs.length=zs
   simp
  rw[e2]at this
  exact this
 rw[ec]
 have s1:ak H (upd H zp (.lst (b9 zs))):=ak.upd hzp
 have z1:(upd H zp (.lst (b9 zs))) zp=some (.lst (b9 zs)):=af
 generalize upd H zp (.lst (b9 zs))=H1 at s1 z1⊢
 refine⟨_,U,_,U,_,U,tq,_,U,aW.of (s1 _ _ ht),fun sp EX=> ?_⟩
 have ec:lB (b9 (1::zs.length::(zs++[p,m,q,a,b]))) (some ((2+zs.length:Nat):Int)) none=b9 [p,m,q,a,b]:=by
  have:=ED (l:=1::zs.length::(zs++[p,m,q,a,b])) (k:=2+zs.length) (by simp;lia)
  have e2:(1::zs.length::(zs++[p,m,q,a,b])).drop (2+zs.length)=[p,m,q,a,b]:=by
   rw[show 2+zs.length=zs.length+2 by lia]
   show(zs++[p,m,q,a,b]).drop zs.length=_
   simp
  rw[e2]at this
  exact this
 rw[ec]
 have s2:ak H1 (upd H1 sp (.lst (b9 [p,m,q,a,b]))):=ak.upd EX
 exact⟨f',fb,pl,zp,sp,bs,zs,ps,st.desk,p,m,q,a,b,U,DL.sx.same (s1.trans s2),DL.ok.nz,s2 _ _ z1,af,EE k DL (s1.trans s2)⟩
abbrev nV:Stmt:=top 73
theorem mB:aB ["desk","told","calls","at"] ["desk","told"] (ao nV):=sm
theorem zM{f:Addr}{fd:FuncData}(F:eH K "answer_trip" "answer_trip" nV f fd)(T:Txt K mg A)(vP:eG P w K mg base 1 "Call" A.Call ["self","stop","comes","goes"] (uD A.Call ["stop","comes","goes"]))(gQ:MethAt P w K mg base 3 A.aJ "add_trip" ["self","days","calls"] (BK A)):bq P w K mg base eD 4 f fd ["desk","told"] (my A 4):=by
 refine F.ok mB (fun vs H Q E h=> ?_) (fun dz Ar outer s H vs Q E hr h=> ?_)
 . obtain⟨_,_,_,_,_,_,_,rfl,_⟩:=h
   rfl
 obtain⟨Pr,dk,tq,n,st,ns,x,rfl,D,hn,ht,hx,hlen,k⟩:=h
 obtain⟨d,m,l,rfl,hm,hl,rfl⟩:=S4 hx
 obtain⟨fI,f',t,fb,pl,sl,wl,tl,tv,bs,ps,ss,ws,ts,DL⟩:=D.ex
 obtain⟨dt,IP⟩:=DL.tab.ins
 have S:=aW.of (K:=K) ht
 have g0:oJ (b9 (d::m::l)) 0=some (.int (d:Nat)):=c9 (n:=0) rfl
 have Pb:(((b9 (d::m::l)).length:Nat):Int)=2+3*(m:Int):=by
  rw[cX]
  simp only[abG,hl]
  lia
 refine⟨_,(ae (lZ (te:=AZ A.Call (uD A.Call ["stop","comes","goes"]) [] E0 (cK (xr (Ai K) (cT 1) (cT 3)) (cK (xr (Ai K) (cT 1) (xr (E8 fun i j=> .int (i+j)) (cT 3) (tC (.int 1)))) (cK (xr (Ai K) (cT 1) (xr (E8 fun i j=> .int (i+j)) (cT 3) (tC (.int 2)))) lW)))) (i:=2) rfl mB.nd rfl rfl rfl (HW rfl T.pq (aa aj (aa (aP aD (by rfl) T.dF ada (aa (pv 1) ag)) (aa aj ag)))) (ee (own:=[("at",3)]) (by rfl)) (fun _ _ _ _ _=>(aX (i:=3) mB.nd rfl oi)) (fun _ _ _ _ _=>iu) (fun _ _ _ _ _=>(cv vP hr rfl (aa (aM ax (pv 1) (pv 3) (fun _ _=>rfl)) (aa (aM ax (pv 1) (bA ft (pv 3) aj) (fun _ _=>rfl)) (aa (aM ax (pv 1) (bA ft (pv 3) aj) (fun _ _=>rfl)) ag))))))
  (ah (aA (bb (aa (bB (ai (pv 0) rfl) gQ hr (aa (aM ax (pv 1) aj (fun _ _=>rfl)) (aa (pv 2) ag))) ag))))), ?_⟩
 refine⟨_,U,_,_,U, .inl S,_,_,_,m,U,(by rw[Pb];exact Xa hm),fun cl GO=> ?_⟩
 refine Je (fun i H'=>ak H H'/\∃cs,Rep (gE A) H' cl cs ((Sg45.callsOf l).take i)) ⟨ak.upd GO,[],Rep.nil af⟩ ?_ ?_
 . rintro i H' hi ⟨s1,cs,hc⟩
   obtain⟨a,b,c,e1,e2,e3,e4⟩:=xj hl hi
   have i1:oJ (b9 (d::m::l)) (2+(i:Nat)*3)=some (.int (a:Nat)):=by
    rw[show(2:Int)+(i:Int)*3=((3*i+2:Nat):Int) by lia]
    exact c9 (mX e1)
   have i2:oJ (b9 (d::m::l)) (2+(i:Nat)*3+1)=some (.int (b:Nat)):=by
    rw[show(2:Int)+(i:Int)*3+1=((3*i+1+2:Nat):Int) by lia]
    exact c9 (mX e2)
   have i3:oJ (b9 (d::m::l)) (2+(i:Nat)*3+2)=some (.int (c:Nat)):=by
    rw[show(2:Int)+(i:Int)*3+2=((3*i+2+2:Nat):Int) by lia]
    exact c9 (mX e3)
   have S':=aW.of (K:=K) (s1 _ _ ht)
   refine⟨U, ?_⟩
   unfold Dy
   refine aK (fun _=> ?_) (fun c=>(c rfl).elim)
   refine⟨_,U,_,U,_,_,_,_,U,U,S',i1,_,U,_,U,_,_,U,U,_,_,_,_,U,U,S',i2,_,U,_,U,_,_,U,U,_,_,_,_,U,U,S',i3, ?_⟩
   intro y dy hy hdy ir
   refine⟨y,dy,_,U,U,af,U, ?_⟩
   rw[aL]
   have s2:=dE (C:=A.Call) (fs:=[("stop", .int (a:Nat)),("comes", .int (b:Nat)),("goes", .int (c:Nat))]) hy hdy
   refine⟨_,s2 _ _ hc.lst, ?_,ak.fy (s1.trans s2) GO,cs++[y], ?_⟩
   . rw[hc.cz,abR]
     exact acW (Nat.min_le_left _ _) (abe hi (abk hm (by decide)))
   rw[take_snoc e4]
   exact hc.push (lS A) (c8 s2) (by rw[hc.lst];exact s2 _ _ hc.lst) ⟨dy,k9⟩
 rintro H1 ⟨s1,cs,hc⟩
 rw[ac4 (by rw[kH];lia)]at hc
 have Jf:=DL.same s1
 refine⟨_,U,_,_,_,_,_,U,Jf.ins,T.bU,T.bD,U,t,dt,_,U,s1 _ _ IP,U,_,U,_,_,_,_,U,U,aW.of (s1 _ _ ht),g0,_,U,t,sl,wl,tl,cl,ss,ws,ts,cs,st.table,st.zones,st.day,d,Sg45.callsOf l,U,Jf.tab,DL.tabS,DL.ok.tab,hc,fun c1=> ?_,fun c1 c2=> ?_,fun c1 c2 c3 c4=> ?_,fun c1 c2 c3 c4 c5 c6=> ?_,fun c1 c2 c3 c4 c5 c6 H' y kk nd tab=> ?_⟩
 . exact⟨Ud,cW k D s1 (Jb c1)⟩
 . exact⟨Ud,cW k D s1 (BU c1 (by lia))⟩
 . exact⟨Ud,cW k D s1 (BU c1 (by lia))⟩
 . exact⟨Ud,cW k D s1 (Jc c1 c2 c3 c4 c5 c6)⟩
 have e:=Nc c1 c2 c3 c4 c5 c6
 obtain⟨D',kb⟩:=Jf.tabs (.inr (.inr rfl)) kk tab ⟨DL.tabS.sw,DL.tabS.st,DL.tabS.wt,nd⟩ (DL.ok.trip c1 c4 c5 c6)
 exact⟨Ud,m6 k (fun b hb=>(kb b hb).trans (DL.QT s1 b hb)) (by rw[e];exact D') (by rw[e])⟩
end
theorem zN{T:Sg45.Table}{day goal:Nat}{a:Int}:∀{fuel left:Nat}{x:Sg45.Place}{m:List Sg45.Leg},Sg45.search T day goal a (Sg45.instances T day) fuel left x=some m->m.length<=fuel
 |0,left,x,m,h=>by cases h
 |fuel+1,left,x,m,h=>by
  have hc:∀n l,cont T day goal a fuel x n l=some m->m.length<=fuel+1:=by
   intro n l h
   unfold cont at h
   cases e:Sg45.go T day x l with
   |none=>rw[e]at h;cases h
   |some u=>
    rw[e,acw]at h
    cases e2:Sg45.search T day goal a (Sg45.instances T day) fuel n u with
    |none=>rw[e2]at h;cases h
    |some m'=>
     rw[e2]at h
     have h:l::m'=m:=Option.some.inj h
     have:=zN e2
     subst h
     rw[abG]
     lia
  rw[kC]at h
  split at h
  . cases h
    exact abE _
  split at h
  . cases h
  split at h
  . rename_i l e
    cases h
    obtain⟨w,_,e⟩:=acx e
    exact hc _ _ e
  split at h
  . cases h
  obtain⟨z,_,h⟩:=acx h
  obtain⟨i,_,h⟩:=acx h
  split at h
  . cases h
  obtain⟨j,_,h⟩:=acx h
  split at h
  . cases h
  exact hc _ _ h
theorem zO{T:Sg45.Table}{day:Nat}{inst:List (Nat×Int×Sg45.Trip)}:∀{n:Nat}{q:Sg45.Round},(Sg45.rounds T day inst n q).length<=n+1
 |0,q=>abB _
 |n+1,q=>by
  rw[Sg45.rounds]
  split
  . simp
  rw[abG]
  have:=zO (T:=T) (day:=day) (inst:=inst) (n:=n) (q:=Sg45.next_ T day inst q)
  lia
theorem BV{T:Sg45.Table}{day goal:Nat}{x:Sg45.Place}{p:Sw83.Plan}(ok:dQ T day)(h:Sw83.plan T day goal x=some p):p.legs.length<=100000/\∃y,Sg45.follow T day x p.legs=some y:=by
 unfold Sw83.plan at h
 dsimp only at h
 cases e1:Sg45.best (Sw83.arrivals T day x) goal with
 |none=>rw[e1]at h;cases h
 |some a=>
  rw[e1,acw]at h
  cases e2:Sg45.fewest (Sw83.arrivals T day x) goal (fun y=>y==a)with
  |none=>rw[e2]at h;cases h
  |some r=>
   rw[e2,acw]at h
   cases e3:Sg45.search T day goal a (Sg45.instances T day) (2*r+3) r x with
   |none=>rw[e3]at h;cases h
   |some m=>
    rw[e3]at h
    have h:(⟨a,r,m⟩:Sw83.Plan)=p:=Option.some.inj h
    subst h
    obtain⟨y,hy,_⟩:=i8 e3
    refine⟨?_,y,hy⟩
    have h1:=zN e3
    have h2:=Hc ok
    have h3:r<(Sw83.arrivals T day x).length:=by
     unfold Sg45.fewest at e2
     have:=(List.findIdx?_eq_some_iff_findIdx_eq.mp e2).1
     exact this
    have h4:(Sw83.arrivals T day x).length<=Sg45.many T day+1:=by
     unfold Sw83.arrivals
     rw[abI]
     exact zO
    show m.length<=100000
    lia
def xk(H:Hp)(a:Addr)(ns:List Int):Prop:=H a=some (.lst (ns.map V.int))
theorem zP{H H':Hp}{l:Addr}{as:List Addr}{ns:List (List Int)}(r:Rep xk H l as ns)(s:ak H H'):Rep xk H' l as ns:=r.mono (by rw[r.lst];exact s _ _ r.lst) fun a x _ h=>s _ _ h
theorem BW{T:Sg45.Table}{day:Nat}:∀{l:List Sg45.Leg}{x y:Sg45.Place},Sg45.follow T day x l=some y->(Sw83.toldFrom T day x l).length=l.length/\∀(i:Nat)(a:Sg45.Leg),l[i]?=some a->∃ns f t m,(Sw83.toldFrom T day x l)[i]?=some ns/\ns.map V.int=OT a f t m
 |[],x,y,h=>⟨rfl,fun i a h=>by simp at h⟩
 |b::l,x,y,h=>by
  rw[Sg45.follow]at h
  rw[Sw83.toldFrom]
  cases e:Sg45.go T day x b with
  |none=>rw[e]at h;cases h
  |some u=>
   rw[e]at h
   dsimp only
   obtain⟨h1,h2⟩:=BW h
   refine⟨by rw[abG,abG,h1],fun i a hi=> ?_⟩
   cases i with
   |succ i=>exact h2 i a hi
   |zero=>
    cases hi
    cases b with
    |walk w=>
     obtain⟨v,hv,hf,hw,rfl⟩:=fh.mp e
     refine⟨_,v.from_,v.to,x.time+(v.minutes:Int),U, ?_⟩
     rw[uQ hv]
     rfl
    |ride n k i j=>
     obtain⟨p,hp,kN,hj,lA,nX,rfl⟩:=gp.mp e
     have e1:=(cM.mp hp).1
     refine⟨_,0,0,p.comes day k j,U, ?_⟩
     show List.map V.int (match T.trips[n]?with
      |some p=>[(n:Int),k,(i:Int),(j:Int),p.comes day k j]
      |none=>[])=_
     rw[e1]
     rfl
theorem EF{T:Sg45.Table}{day:Nat}{l:List Sg45.Leg}{x y:Sg45.Place}{H0 H:Hp}{L:Addr}{ls:List Addr}(hf:Sg45.follow T day x l=some y)(h:sN H0 H L ls (Sw83.toldFrom T day x l)):Rep ji H L ls l/\Rep xk H L ls (Sw83.toldFrom T day x l)/\∀a∈ls,H0 a=none:=by
 obtain⟨e1,e2⟩:=BW hf
 refine⟨⟨h.lst,h.len.trans e1,fun i a hi=> ?_⟩,⟨h.lst,h.len,fun i ns hi=> ?_⟩,fun a ha=> ?_⟩
 . obtain⟨ns,f,t,m,g1,g2⟩:=e2 i a hi
   obtain⟨b,b1,b2,b3,b4⟩:=h.at_ i ns g1
   exact⟨b,b1,f,t,m,by rw[<-g2];exact b4⟩
 . obtain⟨b,b1,b2,b3,b4⟩:=h.at_ i ns hi
   exact⟨b,b1,b4⟩
 obtain⟨i,hi⟩:=acv.mp ha
 have di:=(abt.mp hi).1
 rw[h.len]at di
 obtain⟨b,b1,b2,b3,b4⟩:=h.at_ i _ (acf di)
 rw[hi]at b1
 cases b1
 exact b2
theorem zQ{v:Int}{l:List (List Int)}{w:List Int}:Sw83Neutral.out ⟨v,l++[w]⟩=Sw83Neutral.out ⟨v,l⟩++(w.length:Int)::w:=by
 unfold Sw83Neutral.out
 simp
theorem EG{v:Int}{l:List (List Int)}{i:Nat}{w:List Int}(h:l[i]?=some w):(Sw83Neutral.out ⟨v,l.take i⟩).length+1+w.length<=(Sw83Neutral.out ⟨v,l⟩).length:=by
 have e:=take_snoc h
 have h1:(Sw83Neutral.out ⟨v,l.take (i+1)⟩).length=(Sw83Neutral.out ⟨v,l.take i⟩).length+1+w.length:=by
  rw[e,zQ,abX,abG]
  lia
 have h2:(Sw83Neutral.out ⟨v,l.take (i+1)⟩).length<=(Sw83Neutral.out ⟨v,l⟩).length:=by
  have:l=l.take (i+1)++l.drop (i+1):=(acU _ _).symm
  conv=>rhs;rw[this]
  unfold Sw83Neutral.out
  dsimp only
  rw[abG,abG,ac6,abX]
  lia
 lia
section
variable{P:Program}{w:World}{K:PySem.W.Frag}{mg:Str->Option Value}{base:Heap}{A:Ad}
def C0(A:Ad):Sp:=fun vs H Q _=>∃(pa L:Addr)(mn:Int)(r:Nat)(ls:List Addr)(nums:List (List Int)),vs=[.ref pa]/\CI A H pa L mn r/\Rep xk H L ls nums/\(Sw83Neutral.out ⟨0,[mn,(r:Int)]::nums⟩).length<=1500000/\
 ∀(H':Hp)(p:Addr),ak H H'->H' p=some (.lst ((Sw83Neutral.out ⟨0,[mn,(r:Int)]::nums⟩).map V.int))->Q (.ref p) H'
abbrev mC:Stmt:=top 68
theorem kY:aB ["plan","answer","leg"] ["plan"] (ao mC):=sm
theorem xN{f:Addr}{fd:FuncData}(F:eH K "written_plan" "written_plan" mC f fd)(T:Txt K mg A)(bQ:FnAt P w K mg base 1 "written" ["numbers"] g6):bq P w K mg base eD 2 f fd ["plan"] (C0 A):=by
 refine F.ok kY (fun vs H Q E h=> ?_) (fun dz Ar outer s H vs Q E hr h=> ?_)
 . obtain⟨_,_,_,_,_,_,rfl,_⟩:=h
   rfl
 obtain⟨pa,L,mn,r,ls,nums,rfl,⟨Jq,sH⟩,hN,hlen,k⟩:=h
 refine⟨_,(ae (aC (i:=1) kY.nd rfl oi (bA lY (bb (aa aj ag)) (aO bQ hr rfl (aa (bb (aa (ai (pv 0) rfl) (aa (ai (pv 0) rfl) ag))) ag))))
  (ae (dI acZ rfl (cG (ai (pv 0) rfl)) (aX (i:=2) kY.nd rfl oi) (ah (cF (k0 ac0 adf adg n9 (pv 1) (aa (aO bQ hr rfl (aa (pv 2) ag)) ag)))))
  (ah (aA (pv 1))))), ?_⟩
 refine⟨Ud,fun l0 h0=> ?_⟩
 have s1:ak H (upd H l0 (.lst [V.int 0])):=ak.upd h0
 have g1:(upd H l0 (.lst [V.int 0])) l0=some (.lst [V.int 0]):=af
 generalize upd H l0 (.lst [V.int 0])=H1 at s1 g1⊢
 refine⟨_,U,_,_,_,_,_,U,s1 _ _ sH,T.iC,T.sL,U,_,U,_,_,_,_,_,U,s1 _ _ sH,T.iC,T.uH,U,Ud,fun l1 h1=> ?_⟩
 have s2:ak H1 (upd H1 l1 (.lst [V.int mn,V.int (r:Nat)])):=ak.upd h1
 refine⟨l1,_,U,af,(by show 2<=2000000;decide),fun H2 p2 s3 QO e2=> ?_⟩
 have LA:=s2.trans s3
 refine⟨l0,p2,_,_,U,U,LA _ _ g1,e2,Ud,fun a ha=> ?_⟩
 have LB:=s1.trans LA
 have s4:ak H (upd H2 a (.lst ([V.int 0]++V.int ((2:Nat):Int)::[V.int mn,V.int (r:Nat)]))):=LB.trans (ak.upd ha)
 have MI:H a=none:=LB.free ha
 have g4:(upd H2 a (.lst ([V.int 0]++V.int ((2:Nat):Int)::[V.int mn,V.int (r:Nat)]))) a=some (.lst ((Sw83Neutral.out ⟨0,[[mn,(r:Int)]]⟩).map V.int)):=af
 show Ah _ _ _ _ (upd H2 a (.lst ([V.int 0]++V.int ((2:Nat):Int)::[V.int mn,V.int (r:Nat)])))
 generalize upd H2 a (.lst ([V.int 0]++V.int ((2:Nat):Int)::[V.int mn,V.int (r:Nat)]))=H4 at s4 g4⊢
 refine⟨_,U,_,_,_,_,_,U,s4 _ _ sH,T.iC,T.mV,U,L,U,⟨_,aW.of (s4 _ _ hN.lst)⟩, ?_⟩
 refine eQ (K:=K) (a:=L) (xs:=ls.map V.ref) (fun i σ H'=>∃o2,σ=[some (.ref pa),some (.ref a),o2]/\ak H H'/\H' a=some (.lst ((Sw83Neutral.out ⟨0,[mn,(r:Int)]::nums.take i⟩).map V.int)))
  ⟨none,rfl,s4,g4⟩ (fun i σ H' _⟨_,_,s5,_⟩=>aW.of (s5 _ _ hN.lst)) ?_ ?_
 . rintro i v σ H5 hv ⟨o2,rfl,s5,g5⟩
   obtain⟨lg,ns,rfl,S5,QC⟩:=(zP hN s5).turn hv
   have hb:=EG (v:=0) (l:=[mn,(r:Int)]::nums) (i:=i+1) (w:=ns) S5
   have hb:(Sw83Neutral.out ⟨0,[mn,(r:Int)]::nums.take i⟩).length+1+ns.length<=_:=hb
   refine⟨_,U, .inl ⟨U,_,aW.of g5⟩,_,U,lg,_,U,QC,(by rw[abI];lia),fun H6 p6 s6 Yv e6=> ?_⟩
   refine⟨a,p6,_,_,U,U,s6 _ _ g5,e6, ?_, ?_⟩
   . rw[abG,abI,abI]
     exact abk (show _<=1500000 by lia) (by decide)
   refine⟨_,U,ak.fy (s5.trans s6) MI, ?_⟩
   rw[af,take_snoc S5,<-acs,zQ,acX,abH,abI]
 rintro σ H5 ⟨o2,rfl,s5,g5⟩
 rw[hN.cz,ac3]at g5
 exact⟨_,U,k H5 a s5 g5⟩
end
end Td
namespace Td
open PySem PySem.Spec PyProof.Rows L2
theorem wj{s:Sw83.St}{a b t:Nat}:Sw83.step s (.out a b t)=(if s.table.stops.length<=a\/s.table.stops.length<=b\/2879<t then(s,Sw83.ok (-2))else
 match Sw83.plan s.table s.day b ⟨a,(t:Int),0⟩with
  |none=>(s,Sw83.ok (-6))
  |some p=>({s with here:=some ⟨a,(t:Int),0⟩,goal:=b,legs:=p.legs,rides:=[]},Sw83.planOut s ⟨a,(t:Int),0⟩ p)):=rfl
theorem K8{s:Sw83.St}{a b t:Nat}(h:s.table.stops.length<=a\/s.table.stops.length<=b\/2879<t):Sw83.step s (.out a b t)=(s,Sw83.ok (-2)):=by
 rw[wj,if_pos h]
theorem K9{s:Sw83.St}{a b t:Nat}(h:¬(s.table.stops.length<=a\/s.table.stops.length<=b\/2879<t))(h2:Sw83.plan s.table s.day b ⟨a,(t:Int),0⟩=none):Sw83.step s (.out a b t)=(s,Sw83.ok (-6)):=by
 rw[wj,if_neg h,h2]
theorem PZ{s:Sw83.St}{a b t:Nat}{p:Sw83.Plan}(h:¬(s.table.stops.length<=a\/s.table.stops.length<=b\/2879<t))(h2:Sw83.plan s.table s.day b ⟨a,(t:Int),0⟩=some p):Sw83.step s (.out a b t)=({s with here:=some ⟨a,(t:Int),0⟩,goal:=b,legs:=p.legs,rides:=[]},Sw83.planOut s ⟨a,(t:Int),0⟩ p):=by
 rw[wj,if_neg h,h2]
theorem oF{s:Sw83.St}{f:Sg45.Place->Sw83.St×Sw83.Ans}(h:s.here=none):s.away f=(s,Sw83.ok (-4)):=by
 unfold Sw83.St.away
 rw[h]
theorem g7{s:Sw83.St}{x:Sg45.Place}{f:Sg45.Place->Sw83.St×Sw83.Ans}(h:s.here=some x):s.away f=f x:=by
 unfold Sw83.St.away
 rw[h]
theorem Jg{s:Sw83.St}{x:Sg45.Place}(h:s.here=some x)(h2:Sw83.plan s.table s.day s.goal x=none):Sw83.step s .anew=(s,Sw83.ok (-6)):=by
 show s.away _=_
 rw[g7 h,h2]
theorem Nf{s:Sw83.St}{x:Sg45.Place}{p:Sw83.Plan}(h:s.here=some x)(h2:Sw83.plan s.table s.day s.goal x=some p):Sw83.step s .anew=({s with legs:=p.legs},Sw83.planOut s x p):=by
 show s.away _=_
 rw[g7 h,h2]
theorem Ng{s:Sw83.St}{x:Sg45.Place}(h:s.here=some x)(h2:s.legs=[]):Sw83.step s .on=(s,Sw83.ok (-3)):=by
 show s.away _=_
 rw[g7 h,h2]
theorem Nh{s:Sw83.St}{x:Sg45.Place}{a:Sg45.Leg}{l:List Sg45.Leg}(h:s.here=some x)(h2:s.legs=a::l)(h3:Sg45.go s.table s.day x a=none):Sw83.step s .on=(s,Sw83.ok (-7)):=by
 show s.away _=_
 rw[g7 h,h2]
 dsimp only
 rw[h3]
theorem S6{s:Sw83.St}{x y:Sg45.Place}{a:Sg45.Leg}{l:List Sg45.Leg}(h:s.here=some x)(h2:s.legs=a::l)(h3:Sg45.go s.table s.day x a=some y):Sw83.step s .on=({s with here:=some y,legs:=l,rides:=s.rides++s.fare a},⟨0,[[(y.halt_:Int),y.time]]⟩):=by
 show s.away _=_
 rw[g7 h,h2]
 dsimp only
 rw[h3]
 rfl
theorem nY.out {s:Sw83.St} {a b t:Nat} {p:Sw83.Plan} (ok:nY s) (h:¬(s.table.stops.length<=a\/s.table.stops.length<=b\/2879<t)) (h2:Sw83.plan s.table s.day b ⟨a,(t:Int),0⟩=some p):qZ s.table ⟨a,(t:Int),0⟩/\nY {s with here:=some ⟨a,(t:Int),0⟩,goal:=b,legs:=p.legs,rides:=[]}:=by
 have px:qZ s.table ⟨a,(t:Int),0⟩:=⟨by show a<_;lia,by show(0:Nat)<=2;lia,by show(0:Int)<=(t:Int);lia,by show(t:Int)<=4560+(if(0:Nat)=2 then 240 else 0);rw[if_neg (by lia)];lia⟩
 refine⟨px,⟨ok.tab,ok.zl,ok.zz,ok.nz,ok.np,ok.pr,fun x hx=> ?_⟩⟩
 have hx:(⟨a,(t:Int),0⟩:Sg45.Place)=x:=Option.some.inj hx
 subst hx
 exact⟨px,(by show b<s.table.stops.length;lia),Bv h2,[],U,fun r hr=>(by cases hr)⟩
theorem nY.anew {s:Sw83.St} {x:Sg45.Place} {p:Sw83.Plan} (ok:nY s) (h:s.here=some x) (h2:Sw83.plan s.table s.day s.goal x=some p):nY {s with legs:=p.legs}:=by
 refine⟨ok.tab,ok.zl,ok.zz,ok.nz,ok.np,ok.pr,fun y hy=> ?_⟩
 have hy:s.here=some y:=hy
 rw[h]at hy
 cases hy
 obtain⟨h1,h3,_,h4⟩:=ok.hr x h
 exact⟨h1,h3,Bv h2,h4⟩
theorem Ni{T:Sg45.Table}{day:Nat}{x y:Sg45.Place}{a:Sg45.Leg}{l:List Sg45.Leg}(h:Fits T day x.halt_ x.way (a::l))(hg:Sg45.go T day x a=some y):Fits T day y.halt_ y.way l:=by
 cases a with
 |walk i=>
  obtain⟨v,hv,lG,hl⟩:=vI h
  rw[lG]at hg
  cases hg
  exact hl
 |ride n k i j=>
  obtain⟨p,hp,kN,hj,hl,lG⟩:=vJ h
  rw[lG]at hg
  split at hg
  . cases hg
    exact hl
  cases hg
theorem nY.on {s:Sw83.St} {x y:Sg45.Place} {a:Sg45.Leg} {l:List Sg45.Leg} (ok:nY s) (h:s.here=some x) (h2:s.legs=a::l) (h3:Sg45.go s.table s.day x a=some y) {R:List R3} (hR:s.rides=R.map mM) (hRo:∀r∈R,Al s.desk.map.zones r):nY {s with here:=some y,legs:=l,rides:=s.rides++s.fare a}/\s.rides++s.fare a=(R++dW s.table s.zones s.day a).map mM/\∀r∈R++dW s.table s.zones s.day a,Al s.desk.map.zones r:=by
 obtain⟨h1,h4,h5,_⟩:=ok.hr x h
 have e:s.rides++s.fare a=(R++dW s.table s.zones s.day a).map mM:=by
  rw[G7,uS,hR,acX]
 have o:∀r∈R++dW s.table s.zones s.day a,Al s.desk.map.zones r:=fun r hr=>by
  rcases abq.mp hr with hr|hr
  . exact hRo r hr
  have:=ok.ride h1.t0 h3
  rw[uS]at this
  exact this r hr
 refine⟨⟨ok.tab,ok.zl,ok.zz,ok.nz,ok.np,ok.pr,fun z hz=> ?_⟩,e,o⟩
 have hz:y=z:=Option.some.inj hz
 subst hz
 rw[h2]at h5
 exact⟨h1.go ok.tab h3,h4,Ni h5 h3,_,e,o⟩
section
variable{A:Ad}{Pr:List Addr}{H H':Hp}{dk:Addr}{n:Nat}{s:Sw83.St}{fI f t fb pl sl wl tl:Addr}{tv:V}{bs:List Nat}{ps ss ws ts:List Addr}
theorem ik.all (D:ik A Pr H dk n s fI f t fb pl sl wl tl tv bs ps ss ws ts):∀b∈[fb,pl,sl,wl,tl]++Pr,∃xs,H b=some (.lst xs):=fun b hb=>by
 rcases abq.mp hb with hb|hb
 . simp only[abo,adh,or_false]at hb
   rcases hb with rfl|rfl|rfl|rfl|rfl
   . exact⟨_,D.sx.bd⟩
   . exact⟨_,D.sx.pr.lst⟩
   . exact⟨_,D.tab.st.lst⟩
   . exact⟨_,D.tab.wk.lst⟩
   exact⟨_,D.tab.tp.lst⟩
 obtain⟨⟨xs,h1⟩,_⟩:=D.pr b hb
 exact⟨_,h1⟩
theorem ik.fresh (D:ik A Pr H dk n s fI f t fb pl sl wl tl tv bs ps ss ws ts) {b:Addr} (hb:H b=none):b∉[fb,pl,sl,wl,tl]++Pr:=fun q=>by
 obtain⟨xs,h⟩:=D.all b q
 rw[hb]at h
 cases h
theorem zR{Pr:List Addr}{H:Hp}{n:Nat}{s:Sw83.St}{x:Sg45.Place}{v dv pa ll rl:Addr}{la ra:List Addr}{R:List R3}(e:s.here=some x)(TL:rM A Pr H v dv pa ll rl la ra R n s x):gM A Pr H (.ref v) n s:=by
 unfold gM
 rw[e]
 exact⟨v,dv,pa,ll,rl,la,ra,R,U,TL⟩
theorem ik.P0 (D:ik A Pr H dk n s fI f t fb pl sl wl tl tv bs ps ss ws ts) {S:Addr->Prop} (k:oE S H H') (hS:∀l,S l->(K6 H l ["zones","any_zones","weekday","change","start","stop","days"])/\v9 A H l/\l∉[fb,pl,sl,wl,tl]++Pr) {v:V} (ins:H' dk=some (.ins A.Desk fI (gN f t v))) {s':Sw83.St} {m:Nat} (e1:s'.desk=s.desk) (e2:s'.table=s.table) (e3:s'.zones=s.zones) (e4:s'.day=s.day) (ok:nY s') (tv':gM A ([fb,pl,sl,wl,tl]++Pr) H' v m s'):
 dM A Pr H' dk m s'/\∀b∈Pr,H' b=H b:=by
 have kb:∀b∈Pr,H' b=H b:=fun b hb=>by
  obtain⟨⟨zs,h1⟩,_⟩:=D.pr b hb
  rw[h1]
  exact k _ _ h1 fun z=>(hS b z).2.2 (abD _ hb)
 have sub:∀l ns,(∀x∈ns,x∈(["zones","any_zones","weekday","change","start","stop","days"]:List Str))->K6 H l ["zones","any_zones","weekday","change","start","stop","days"]->K6 H l ns:=fun l ns hn o=>by
  rcases o with o|⟨C,dx,fs,o,q⟩
  . exact .inl o
  exact .inr ⟨C,dx,fs,o,fun f v r e z=>q f v r e (hn f z)⟩
 refine⟨⟨fI,f,t,fb,pl,sl,wl,tl,v,bs,ps,ss,ws,ts,⟨ins, ?_, ?_,D.tabS,D.ap,fun b hb=> ?_,ok,tv'⟩⟩,kb⟩
 . rw[e1]
   refine D.sx.but k fun l hl=> ?_
   obtain⟨o,_,q⟩:=hS l hl
   exact⟨sub l _ (by simp) o,fun z=>q (by rw[<-z];simp),fun z=>q (by rw[<-z];simp)⟩
 . rw[e2,e3,e4]
   refine D.tab.but D.ok.tab k fun l hl=> ?_
   obtain⟨o,nc,q⟩:=hS l hl
   exact⟨sub l _ (by simp) o,fun z=>q (by rw[<-z];simp),fun z=>q (by rw[<-z];simp),fun z=>q (by rw[<-z];simp),nc⟩
 obtain⟨⟨zs,h1⟩,h2⟩:=D.pr b hb
 exact⟨⟨zs,by rw[kb b hb];exact h1⟩,h2⟩
end
section
variable{P:Program}{w:World}{K:PySem.W.Frag}{mg:Str->Option Value}{base:Heap}{A:Ad}
abbrev pY:Stmt:=top 76
theorem fc:aB ["desk","told","start","goal","minute","stops","place","plan"] ["desk","told"] (ao pY):=sm
theorem AJ{f:Addr}{fd:FuncData}(F:eH K "answer_out" "answer_out" pY f fd)(T:Txt K mg A)(pF:eG P w K mg base 1 "Place" A.Place ["self","stop","minute","how"] (uD A.Place ["stop","minute","how"]))(iV:FnAt P w K mg base 6 "find_plan" ["timetable","place","goal"] (tU A))(rP:eG P w K mg base 1 "Traveller" A.aN ["self","place","goal","legs"] (zk A))(fK:FnAt P w K mg base 2 "written_plan" ["plan"] (C0 A)):bq P w K mg base eD 7 f fd ["desk","told"] (my A 7):=by
 refine F.ok fc (fun vs H Q E h=> ?_) (fun dz Ar outer s H vs Q E hr h=> ?_)
 . obtain⟨_,_,_,_,_,_,_,rfl,_⟩:=h
   rfl
 obtain⟨Pr,dk,tq,n,st,ns,x,rfl,D,hn,ht,hx,hlen,k⟩:=h
 obtain⟨a,b,m,rfl,rfl⟩:=SY hx
 obtain⟨fI,f',t,fb,pl,sl,wl,tl,tv,bs,ps,ss,ws,ts,DL⟩:=D.ex
 obtain⟨dt,IP⟩:=DL.tab.ins
 have S:=aW.of (K:=K) ht
 have g0:oJ (b9 [a,b,m]) 0=some (.int (a:Nat)):=c9 (n:=0) rfl
 have g1:oJ (b9 [a,b,m]) 1=some (.int (b:Nat)):=c9 (n:=1) rfl
 have g2:oJ (b9 [a,b,m]) 2=some (.int (m:Nat)):=c9 (n:=2) rfl
 have bad:(st.table.stops.length<=a\/st.table.stops.length<=b\/2879<m)->∀p,H p=none->Q (.ref p) (upd H p (.lst [V.int (-2)])):=fun c p hp=>cW k D (fun _ _ h=>h) (K8 c) p hp
 have lst:(ss.map V.ref).length=st.table.stops.length:=by rw[DL.tab.st.cz,kj DL.tab.zl]
 refine⟨_,(ae (aC (i:=2) fc.nd rfl oi (aM ax (pv 1) aj (fun _ _=>rfl)))
  (ae (aC (i:=3) fc.nd rfl oi (aM ax (pv 1) aj (fun _ _=>rfl)))
  (ae (aC (i:=4) fc.nd rfl oi (aM ax (pv 1) aj (fun _ _=>rfl)))
  (ae (aC (i:=5) fc.nd rfl oi (aP aD (by rfl) T.dF ada (aa (ai (ai (pv 0) rfl) rfl) ag)))
  (ae (bg (PW.pt (gn (ay iR (pv 2) (pv 5) nk) (gn (ay iR (pv 3) (pv 5) nk) (gw (ay jF (pv 4) (bj rfl T.gr) nk))))) (ah (aA (bb (aa (cJ bS aj) ag)))) aF)
  (ae (aC (i:=6) fc.nd rfl oi (cv pF hr rfl (aa (pv 2) (aa (pv 4) (aa (bj rfl T.yh) ag)))))
  (ae (aC (i:=7) fc.nd rfl oi (aO iV hr rfl (aa (ai (pv 0) rfl) (aa (pv 6) (aa (pv 3) ag)))))
  (ae (bg (ay hE (pv 7) cI nk) (ah (aA (bb (aa (cJ bS aj) ag)))) aF)
  (ae (aU (pv 0) (cv rP hr rfl (aa (pv 6) (aa (pv 3) (aa (ai (pv 7) rfl) ag)))) rfl)
  (ah (aA (aO fK hr rfl (aa (pv 7) ag))))))))))))), ?_⟩
 refine⟨_,U,_,_,_,_,U,U,S,g0, ?_⟩
 refine⟨_,U,_,_,_,_,U,U,S,g1, ?_⟩
 refine⟨_,U,_,_,_,_,U,U,S,g2, ?_⟩
 refine⟨_,U,_,_,_,_,_,U,DL.ins,T.bU,T.bD,U,_,_,_,_,_,U,IP,T.az,T.aS,U,_,_,U, .inl (aW.of DL.tab.st.lst), ?_⟩
 rw[lst]
 refine⟨_,U,_,U,_,_,U,U,_,U, ?_⟩
 refine aK (fun q=> ?_) (fun q=> ?_)
 . have q:(st.table.stops.length:Int)<=(a:Int):=of_decide_eq_true q
   refine aK (fun _=> ?_) (fun z=>(z rfl).elim)
   exact⟨_,U,Ud,bad (by lia)⟩
 have q1:a<st.table.stops.length:=uZ q
 refine⟨_,U,_,U,_,_,U,U,_,U, ?_⟩
 refine aK (fun q=> ?_) (fun q=> ?_)
 . have q:(st.table.stops.length:Int)<=(b:Int):=of_decide_eq_true q
   refine aK (fun _=> ?_) (fun z=>(z rfl).elim)
   exact⟨_,U,Ud,bad (by lia)⟩
 have q2:b<st.table.stops.length:=uZ q
 refine⟨_,U,_,_,U,U,_,U, ?_⟩
 refine aK (fun q=> ?_) (fun q=> ?_)
 . have q:(2879:Int)<(m:Int):=of_decide_eq_true q
   exact⟨_,U,Ud,bad (by lia)⟩
 have q3:m<=2879:=lp (a:=m) (b:=2879) q
 have ug:¬(st.table.stops.length<=a\/st.table.stops.length<=b\/2879<m):=by lia
 refine⟨_,U,_,U, ?_⟩
 intro wm S7 qJ Xb ir
 refine⟨wm,S7,_,U,U,af,U, ?_⟩
 rw[aL]
 have s1:=dE (C:=A.Place) (fs:=[("stop", .int (a:Nat)),("minute", .int (m:Nat)),("how", .int 0)]) qJ Xb
 have p1:cY A (mk H wm S7 A.Place [("stop", .int (a:Nat)),("minute", .int (m:Nat)),("how", .int 0)]) wm ⟨a,(m:Int),0⟩:=⟨S7,k9⟩
 show Ah _ _ _ _ (mk H wm S7 A.Place [("stop", .int (a:Nat)),("minute", .int (m:Nat)),("how", .int 0)])
 generalize mk H wm S7 A.Place [("stop", .int (a:Nat)),("minute", .int (m:Nat)),("how", .int 0)]=H1 at s1 p1⊢
 have Jf:=DL.same s1
 have px:qZ st.table ⟨a,(m:Int),0⟩:=⟨q1,by show(0:Nat)<=2;lia,by show(0:Int)<=(m:Int);lia,by show(m:Int)<=4560+(if(0:Nat)=2 then 240 else 0);rw[if_neg (by lia)];lia⟩
 refine⟨_,U,_,_,_,_,_,U,Jf.ins,T.bU,T.bD,U,_,U,_,U,t,wm,b,st.table,st.zones,st.day,⟨a,(m:Int),0⟩,U,⟨sl,wl,tl,ss,ws,ts,Jf.tab⟩,DL.ok.tab,p1,px,q2,fun Xc H2 s2=> ?_,fun p P1 H2 pa L ls s2 sH hL=> ?_⟩
 . refine⟨_,U,U,_,U, ?_⟩
   refine aK (fun _=> ?_) (fun z=>(z rfl).elim)
   exact⟨_,U,Ud,cW k D (s1.trans s2) (K9 ug Xc)⟩
 refine⟨_,U,U,_,U, ?_⟩
 refine aK (fun q=>by cases of_decide_eq_true q) (fun _=> ?_)
 obtain⟨ln,y,rB⟩:=BV DL.ok.tab P1
 obtain⟨Nj,QU,Dx⟩:=EF rB hL
 obtain⟨Jq,Ga⟩:=sH
 have LB:=s1.trans s2
 refine⟨_,U,_,U,_,U,_,_,_,_,_,U,Ga,T.iC,T.mV,U, ?_⟩
 intro v dv hv hdv Mz
 refine⟨v,dv,wm,L,b,H2,U,hv,hdv,Mz,U,fun H3 rl s3 S8 QM hvi=>⟨U, ?_⟩⟩
 have S9:=LB.trans s3
 have Nk:=DL.same S9
 refine⟨_,U,dk,_,fI,_,U,Nk.ins,T.bU,T.de,Ud, ?_⟩
 rw[show bc "traveller" (.ref v) (gN f' t tv)=gN f' t (.ref v)from by
  unfold gN
  rw[fq (by decide+kernel),fq (by decide+kernel),jt]]
 have e:=PZ ug P1
 obtain⟨_,Ta⟩:=DL.ok.out ug P1
 have kS:oE (fun b=>b=dk) H3 (upd H3 dk (.ins A.Desk fI (gN f' t (.ref v)))):=rL
 have P2:∀b xs,H3 b=some (.lst xs)->b≠dk:=fun b xs h=>bH h Nk.ins (by intro q;cases q)
 have TL:rM A ([fb,pl,sl,wl,tl]++Pr) H3 v dv wm L rl ls [] [] (n+1) {st with here:=some ⟨a,(m:Int),0⟩,goal:=b,legs:=p.legs,rides:=[]} ⟨a,(m:Int),0⟩:=by
  refine⟨hvi,iK A _ _ _ _ (c8 (s2.trans s3)) p1,Nj.mono (by rw[Nj.lst];exact s3 _ _ Nj.lst) fun a l _ h=>h.same s3,Rep.nil QM,U,fun r hr=>(by cases hr),ln,abE _, ?_, ?_, ?_,fun c hc=> ?_⟩
  . exact aw Nj.lst S8
  . exact Jf.fresh hL.fr
  . exact(DL.same LB).fresh S8
  exact Jf.fresh (Dx c hc)
 obtain⟨D',kb⟩:=Nk.P0 (m:=n+1) (s':={st with here:=some ⟨a,(m:Int),0⟩,goal:=b,legs:=p.legs,rides:=[]}) kS (fun l hl=>by
  subst hl
  exact⟨sv Nk.ins (by decide+kernel),mx Nk.ins,fun q=>by
   obtain⟨xs,h⟩:=Nk.all l q
   exact P2 _ _ h rfl⟩) af rfl rfl rfl rfl Ta ⟨v,dv,wm,L,rl,ls,[],[],rfl,TL.but kS fun l hl=>by
   subst hl
   exact⟨sv Nk.ins (by decide+kernel), .inr ⟨_,_,_,Nk.ins⟩⟩⟩
 have Jh:∀b o,H3 b=some o->b≠dk->(upd H3 dk (.ins A.Desk fI (gN f' t (.ref v)))) b=some o:=fun b o e hb=>by rw[au hb];exact e
 have Xd:Rep xk (upd H3 dk (.ins A.Desk fI (gN f' t (.ref v)))) L ls (Sw83.toldFrom st.table st.day ⟨a,(m:Int),0⟩ p.legs):=by
  have h3:=zP QU s3
  refine h3.mono (by rw[h3.lst];exact Jh _ _ h3.lst (P2 _ _ h3.lst)) fun c z _ h=> ?_
  exact Jh _ _ h (P2 _ _ h)
 have Xe:CI A (upd H3 dk (.ins A.Desk fI (gN f' t (.ref v)))) pa L p.time p.rides:=⟨Jq,Jh _ _ (s3 _ _ Ga) (bH (s3 _ _ Ga) Nk.ins (by
  intro q
  injection q with _ _ q
  exact fQ (by decide+kernel) q))⟩
 have eo:Sw83Neutral.out (Sw83.step st (.out a b m)).2=Sw83Neutral.out ⟨0,[p.time,(p.rides:Int)]::Sw83.toldFrom st.table st.day ⟨a,(m:Int),0⟩ p.legs⟩:=by rw[e];rfl
 refine⟨_,U,pa,L,p.time,p.rides,ls,_,U,Xe,Xd,(by rw[<-eo];exact hlen),fun H5 r s5 Ux=> ?_⟩
 exact mz k (fun c hc=>(kb c hc).trans (DL.QT S9 c hc)) (by rw[e];exact D') eo s5 Ux
abbrev nW:Stmt:=top 79
theorem mD:aB ["desk","told","traveller","plan"] ["desk","told"] (ao nW):=sm
theorem zS{f:Addr}{fd:FuncData}(F:eH K "answer_anew" "answer_anew" nW f fd)(T:Txt K mg A)(iV:FnAt P w K mg base 6 "find_plan" ["timetable","place","goal"] (tU A))(fK:FnAt P w K mg base 2 "written_plan" ["plan"] (C0 A)):bq P w K mg base eD 7 f fd ["desk","told"] (my A 10):=by
 refine F.ok mD (fun vs H Q E h=> ?_) (fun dz Ar outer s H vs Q E hr h=> ?_)
 . obtain⟨_,_,_,_,_,_,_,rfl,_⟩:=h
   rfl
 obtain⟨Pr,dk,tq,n,st,ns,x,rfl,D,hn,ht,hx,hlen,k⟩:=h
 obtain⟨rfl,rfl⟩:=PU hx
 obtain⟨fI,f',t,fb,pl,sl,wl,tl,tv,bs,ps,ss,ws,ts,DL⟩:=D.ex
 refine⟨_,(ae (aC (i:=2) mD.nd rfl oi (ai (pv 0) rfl))
  (ae (bg (ay hE (pv 2) cI nk) (ah (aA (bb (aa (cJ bS aj) ag)))) aF)
  (ae (aC (i:=3) mD.nd rfl oi (aO iV hr rfl (aa (ai (pv 0) rfl) (aa (ai (pv 2) rfl) (aa (ai (pv 2) rfl) ag)))))
  (ae (bg (ay hE (pv 3) cI nk) (ah (aA (bb (aa (cJ bS aj) ag)))) aF)
  (ae (aU (pv 2) (ai (pv 3) rfl) rfl)
  (ah (aA (aO fK hr rfl (aa (pv 3) ag))))))))), ?_⟩
 refine⟨_,U,_,_,_,_,_,U,DL.ins,T.bU,T.de,U, ?_⟩
 have pZ:=DL.tv
 unfold gM at pZ
 cases eh:st.here with
 |none=>
  rw[eh]at pZ
  have pZ:tv= .dR:=pZ
  subst pZ
  refine⟨_,U,U,_,U, ?_⟩
  refine aK (fun _=> ?_) (fun z=>(z rfl).elim)
  exact⟨_,U,Ud,cW k D (fun _ _ h=>h) (oF eh)⟩
 |some x=>
  rw[eh]at pZ
  obtain⟨v,dv,wm,ll,rl,la,ra,R,rfl,TL⟩:=pZ
  obtain⟨px,Hr,oz,_⟩:=DL.ok.hr x eh
  refine⟨_,U,U,_,U, ?_⟩
  refine aK (fun q=>by cases of_decide_eq_true q) (fun _=> ?_)
  refine⟨_,U,_,_,_,_,_,U,DL.ins,T.bU,T.bD,U,_,U,_,_,_,_,_,U,TL.ins,T.aE,T.cn,U,_,U,_,_,_,_,_,U,TL.ins,T.aE,T.ou,U,t,wm,st.goal,st.table,st.zones,st.day,x,U,⟨sl,wl,tl,ss,ws,ts,DL.tab⟩,DL.ok.tab,TL.pl,px,Hr,fun Xc H2 s2=> ?_,fun p P1 H2 pa L ls s2 sH hL=> ?_⟩
  . refine⟨_,U,U,_,U, ?_⟩
    refine aK (fun _=> ?_) (fun z=>(z rfl).elim)
    exact⟨_,U,Ud,cW k D s2 (Jg eh Xc)⟩
  refine⟨_,U,U,_,U, ?_⟩
  refine aK (fun q=>by cases of_decide_eq_true q) (fun _=> ?_)
  obtain⟨ln,y,rB⟩:=BV DL.ok.tab P1
  obtain⟨Nj,QU,Dx⟩:=EF rB hL
  obtain⟨Jq,Ga⟩:=sH
  have P4:=DL.same s2
  have EH:=TL.same s2
  refine⟨_,U,_,_,_,_,_,U,Ga,T.iC,T.mV,U,_,U,v,_,dv,_,U,EH.ins,T.aE,T.bC,Ud, ?_⟩
  rw[show bc "legs" (.ref L) (fL wm st.goal ll rl)=fL wm st.goal L rl from by
   unfold fL
   rw[fq (by decide+kernel),fq (by decide+kernel),jt]]
  have e:=Nf eh P1
  have Ta:=DL.ok.anew eh P1
  have Jh:∀b o,H2 b=some o->b≠v->(upd H2 v (.ins A.aN dv (fL wm st.goal L rl))) b=some o:=fun b o e hb=>by rw[au hb];exact e
  have QV:∀b xs,H2 b=some (.lst xs)->b≠v:=fun b xs h=>bH h EH.ins (by intro q;cases q)
  have kS:oE (fun b=>b=v) H2 (upd H2 v (.ins A.aN dv (fL wm st.goal L rl))):=rL
  have Xf:rM A ([fb,pl,sl,wl,tl]++Pr) (upd H2 v (.ins A.aN dv (fL wm st.goal L rl))) v dv wm L rl ls ra R (n+1) {st with legs:=p.legs} x:=by
   obtain⟨dp,hp⟩:=EH.pl
   refine⟨af,⟨dp,Jh _ _ hp (bH hp EH.ins (by
    intro q
    injection q with _ _ q
    exact fQ (by decide+kernel) q))⟩,Nj.mono (by rw[Nj.lst];exact Jh _ _ Nj.lst (QV _ _ Nj.lst)) fun a l _ h=> ?_,EH.rd.mono (by rw[EH.rd.lst];exact Jh _ _ EH.rd.lst (QV _ _ EH.rd.lst)) fun a r _ h=> ?_,EH.rs,EH.ro,ln,Nat.le_succ_of_le EH.rn, ?_, ?_,EH.QS,fun c hc=> ?_⟩
   . obtain⟨f0,t0,m0,h⟩:=h
     exact⟨f0,t0,m0,Jh _ _ h (QV _ _ h)⟩
   . obtain⟨d,h⟩:=h
     exact⟨d,Jh _ _ h (bH h EH.ins (by
      intro q
      injection q with _ _ q
      exact fQ (by decide+kernel) q))⟩
   . intro q
     have:=hL.fr
     rw[q,TL.rd.lst]at this
     cases this
   . exact DL.fresh hL.fr
   exact DL.fresh (Dx c hc)
  have P2:dk≠v:=bH P4.ins EH.ins (by
   intro q
   injection q with _ _ q
   exact fQ (by decide+kernel) q)
  obtain⟨D',kb⟩:=P4.P0 (m:=n+1) (s':={st with legs:=p.legs}) (v:= .ref v) kS (fun l hl=>by
   subst hl
   exact⟨sv EH.ins (by decide+kernel),mx EH.ins,fun q=>by
    obtain⟨xs,h⟩:=P4.all l q
    exact QV _ _ h rfl⟩) (Jh _ _ P4.ins P2) rfl rfl rfl rfl Ta (zR eh Xf)
  have Xd:Rep xk (upd H2 v (.ins A.aN dv (fL wm st.goal L rl))) L ls (Sw83.toldFrom st.table st.day x p.legs):=by
   refine QU.mono (by rw[QU.lst];exact Jh _ _ QU.lst (QV _ _ QU.lst)) fun c z _ h=> ?_
   exact Jh _ _ h (QV _ _ h)
  have Xe:CI A (upd H2 v (.ins A.aN dv (fL wm st.goal L rl))) pa L p.time p.rides:=⟨Jq,Jh _ _ Ga (bH Ga EH.ins (by
   intro q
   injection q with _ _ q
   exact fQ (by decide+kernel) q))⟩
  have eo:Sw83Neutral.out (Sw83.step st .anew).2=Sw83Neutral.out ⟨0,[p.time,(p.rides:Int)]::Sw83.toldFrom st.table st.day x p.legs⟩:=by rw[e];rfl
  refine⟨_,U,pa,L,p.time,p.rides,ls,_,U,Xe,Xd,(by rw[<-eo];exact hlen),fun H5 r s5 Ux=> ?_⟩
  exact mz k (fun c hc=>(kb c hc).trans (DL.QT s2 c hc)) (by rw[e];exact D') eo s5 Ux
end
theorem kJ{c:Int}{t0:TE}{ta:TA}{σ:L2.St}{H:Hp}{Q:VK}(vs:List V)(h0:∀R:VK,R (.int c) H->t0 σ H R)(Xg:∀H1,ak H H1->∀R:List V->Hp->Prop,R vs H1->ta σ H1 R)(hlen:vs.length<=1000)(k:∀H' a,ak H H'->H a=none->H' a=some (.lst (.int c:: .int (vs.length:Nat)::vs))->Q (.ref a) H'):
 xr JX (HN (cK t0 lW)) (uj g6 [] E0 (cK (HN ta) lW)) σ H Q:=by
 refine h0 _ ⟨Ud,fun l0 hl0=> ?_⟩
 have s1:ak H (upd H l0 (.lst [V.int c])):=ak.upd hl0
 have g1:(upd H l0 (.lst [V.int c])) l0=some (.lst [V.int c]):=af
 generalize upd H l0 (.lst [V.int c])=H1 at s1 g1⊢
 refine Xg H1 s1 _ ⟨abk hlen (by decide),fun l1 yl=> ?_⟩
 have s2:ak H1 (upd H1 l1 (.lst vs)):=ak.upd yl
 refine⟨l1,vs,U,af,abk hlen (by decide),fun H2 p2 s3 QO e2=> ?_⟩
 have BL:=s2.trans s3
 refine⟨l0,p2,_,_,U,U,BL _ _ g1,e2, ?_,fun a ha=> ?_⟩
 . show 1+(vs.length+1)<=sizeLine
   exact abk (show 1+(vs.length+1)<=1002 by lia) (by decide)
 exact k _ a ((s1.trans BL).trans (ak.upd ha)) ((s1.trans BL).free ha) af
theorem C1{i:Nat}{a0:Addr}{xs:List V}{ta:TA}{σ:L2.St}{H:Hp}{Q:VK}(vs:List V)(hσ:σ[i]?=some (some (.ref a0)))(h0:H a0=some (.lst xs))(hx:xs.length<=1000)(Xg:∀R:List V->Hp->Prop,R vs H->ta σ H R)(hlen:vs.length<=1000)(k:∀H' a,ak H H'->H a=none->H' a=some (.lst (xs++ .int (vs.length:Nat)::vs))->Q (.ref a) H'):
 xr JX (cT i) (uj g6 [] E0 (cK (HN ta) lW)) σ H Q:=by
 refine⟨_,hσ, ?_⟩
 refine Xg _ ⟨abk hlen (by decide),fun l1 yl=> ?_⟩
 have s2:ak H (upd H l1 (.lst vs)):=ak.upd yl
 refine⟨l1,vs,U,af,abk hlen (by decide),fun H2 p2 s3 QO e2=> ?_⟩
 have BL:=s2.trans s3
 refine⟨a0,p2,_,_,U,U,BL _ _ h0,e2, ?_,fun a ha=> ?_⟩
 . show xs.length+(vs.length+1)<=sizeLine
   exact abk (show xs.length+(vs.length+1)<=2001 by lia) (by decide)
 exact k _ a (BL.trans (ak.upd ha)) (BL.free ha) af
theorem Gb{s:Sw83.St}{x y:Sg45.Place}(h:s.here=some x)(h2:Sg45.follow s.table s.day x s.legs=some y):Sw83.step s .still=(s,⟨0,[[y.time]]⟩):=by
 show s.away _=_
 rw[g7 h,h2]
theorem Gd{s:Sw83.St}{x:Sg45.Place}(h:s.here=some x)(h2:Sg45.follow s.table s.day x s.legs=none):Sw83.step s .still=(s,⟨1,[[(((Sw83.missed s.table s.day 0 x s.legs).getD 0:Nat):Int)]]⟩):=by
 show s.away _=_
 rw[g7 h,h2]
 rfl
theorem La{s:Sw83.St}{x:Sg45.Place}(h:s.here=some x):Sw83.step s .where_=(s,⟨0,[[(x.halt_:Int),x.time,(x.way:Int)],[(s.rides.length:Int),(s.legs.length:Int)]]⟩):=by
 show s.away _=_
 rw[g7 h]
 rfl
section
variable{P:Program}{w:World}{K:PySem.W.Frag}{mg:Str->Option Value}{base:Heap}{A:Ad}
abbrev rQ:Stmt:=top 77
theorem vb:aB ["desk","told","traveller"] ["desk","told"] (ao rQ):=sm
theorem C2{f:Addr}{fd:FuncData}(F:eH K "answer_on" "answer_on" rQ f fd)(T:Txt K mg A)(iQ:MethAt P w K mg base 6 A.aN "go_leg" ["self","timetable"] (Hh A))(bQ:FnAt P w K mg base 1 "written" ["numbers"] g6):bq P w K mg base eD 7 f fd ["desk","told"] (my A 8):=by
 refine F.ok vb (fun vs H Q E h=> ?_) (fun dz Ar outer s H vs Q E hr h=> ?_)
 . obtain⟨_,_,_,_,_,_,_,rfl,_⟩:=h
   rfl
 obtain⟨Pr,dk,tq,n,st,ns,x,rfl,D,hn,ht,hx,hlen,k⟩:=h
 obtain⟨rfl,rfl⟩:=S0 hx
 obtain⟨fI,f',t,fb,pl,sl,wl,tl,tv,bs,ps,ss,ws,ts,DL⟩:=D.ex
 refine⟨_,(ae (aC (i:=2) vb.nd rfl oi (ai (pv 0) rfl))
  (ae (bg (ay hE (pv 2) cI nk) (ah (aA (bb (aa (cJ bS aj) ag)))) aF)
  (ae (bg (ay ku (aP aD (by rfl) T.dF ada (aa (ai (pv 2) rfl) ag)) aj nk) (ah (aA (bb (aa (cJ bS aj) ag)))) aF)
  (ae (bg (sY (lU (bB (pv 2) iQ hr (aa (ai (pv 0) rfl) ag)))) (ah (aA (bb (aa (cJ bS aj) ag)))) aF)
  (ah (aA (bA lY (bb (aa aj ag)) (aO bQ hr rfl (aa (bb (aa (ai (ai (pv 2) rfl) rfl) (aa (ai (ai (pv 2) rfl) rfl) ag))) ag))))))))), ?_⟩
 refine⟨_,U,_,_,_,_,_,U,DL.ins,T.bU,T.de,U, ?_⟩
 have pZ:=DL.tv
 unfold gM at pZ
 cases eh:st.here with
 |none=>
  rw[eh]at pZ
  have pZ:tv= .dR:=pZ
  subst pZ
  refine⟨_,U,U,_,U, ?_⟩
  refine aK (fun _=> ?_) (fun z=>(z rfl).elim)
  exact⟨_,U,Ud,cW k D (fun _ _ h=>h) (oF eh)⟩
 |some x=>
  rw[eh]at pZ
  obtain⟨v,dv,wm,ll,rl,la,ra,R,rfl,TL⟩:=pZ
  obtain⟨px,Hr,oz,_⟩:=DL.ok.hr x eh
  refine⟨_,U,U,_,U, ?_⟩
  refine aK (fun q=>by cases of_decide_eq_true q) (fun _=> ?_)
  refine⟨_,U,_,_,_,_,_,U,TL.ins,T.aE,T.bC,U,_,_,U, .inl (aW.of TL.lg.lst),U,_,U, ?_⟩
  rw[TL.lg.cz]
  cases el:st.legs with
  |nil=>
   refine aK (fun _=> ?_) (fun z=>(z rfl).elim)
   exact⟨_,U,Ud,cW k D (fun _ _ h=>h) (Ng eh el)⟩
  |cons l0 legs=>
   refine aK (fun q=> ?_) (fun _=> ?_)
   . exfalso
     have q:=of_decide_eq_true q
     injection q with q
     rw[abG]at q
     lia
   have Xh:=TL.lg
   have Jr:=TL.ln
   rw[el]at Xh oz Jr
   obtain⟨a0,QW,rfl⟩:∃a0 QW,la=a0::QW:=by
    cases la with
    |nil=>have:=Xh.len;cases this
    |cons a0 QW=>exact⟨a0,QW,rfl⟩
   have z8:∀z∈st.zones,z<=8:=fun z hz=>by
    have h1:=DL.ok.zz z hz
    have h2:=DL.ok.nz
    lia
   have hRn:=TL.rn
   refine⟨_,U,v,dv,_,U,TL.ins,U,_,U,_,_,_,_,_,U,DL.ins,T.bU,T.bD,U,v,t,dv,wm,ll,rl,a0,QW,ra,st.table,st.zones,st.day,st.goal,x,l0,legs,R,U,⟨sl,wl,tl,ss,ws,ts,DL.tab⟩,DL.ok.tab,TL.ins,TL.pl,px.hl,Xh,oz,TL.rd,TL.lr,z8,(by lia),(by rw[abG]at Jr;lia),fun lG H1 s1=>⟨_,U, ?_⟩,fun y lG H1 pb lb WB k2 Ph Xi NH Xj Xk=>⟨_,U, ?_⟩⟩
   . exact⟨_,U,Ud,cW k D s1 (Nh eh el lG)⟩
   have e:=S6 eh el lG
   obtain⟨Ta,er,ro'⟩:=DL.ok.on eh el lG TL.rs TL.ro
   have nv:∀b xs,H b=some (.lst xs)->b≠v:=fun b xs h=>bH h TL.ins (by intro q;cases q)
   have P2:dk≠v:=bH DL.ins TL.ins (by
    intro q
    injection q with _ _ q
    exact fQ (by decide+kernel) q)
   have ndr:dk≠rl:=bH DL.ins TL.rd.lst (by intro q;cases q)
   have Xf:rM A ([fb,pl,sl,wl,tl]++Pr) H1 v dv pb lb rl QW WB (R++dW st.table st.zones st.day l0) (n+1) {st with here:=some y,legs:=legs,rides:=st.rides++st.fare l0} y:=by
    refine⟨Xi,NH,Xj,Xk,er,ro', ?_, ?_, ?_, ?_,TL.QS,fun c hc=>TL.UK c (abn _ hc)⟩
    . show legs.length<=100000
      rw[abG]at Jr
      lia
    . have h1:=mr (T:=st.table) (zs:=st.zones) (day:=st.day) (l:=[l0])
      rw[acj,List.flatMap_nil,abM,ab1]at h1
      rw[abX]
      lia
    . intro q
      rw[q,TL.rd.lst]at Ph
      cases Ph
    exact DL.fresh Ph
   obtain⟨D',kb⟩:=DL.P0 (m:=n+1) (s':={st with here:=some y,legs:=legs,rides:=st.rides++st.fare l0}) (v:= .ref v) (PJ k2) (fun l hl=>by
    rcases hl with rfl|rfl
    . exact⟨sv TL.ins (by decide+kernel),mx TL.ins,fun q=>by
       obtain⟨xs,h⟩:=DL.all l q
       exact nv _ _ h rfl⟩
    exact⟨m5 TL.rd.lst,zB TL.rd AH,TL.QS⟩) (k2 _ _ DL.ins P2 ndr) rfl rfl rfl rfl Ta (zR rfl Xf)
   obtain⟨dpb,Tc⟩:=NH
   have eo:Sw83Neutral.out (Sw83.step st .on).2=[0,2,(y.halt_:Int),y.time]:=by rw[e];rfl
   refine kJ (c:=0) (t0:=tC (.int 0)) [.int (y.halt_:Nat), .int y.time] (fun R r=>r) (fun H2 s2 R' r=> ?_) Ud fun H2 a s2 MI ha=> ?_
   . exact⟨_,U,_,_,_,_,_,U,s2 _ _ Xi,T.aE,T.cn,U,_,_,_,_,_,U,s2 _ _ Tc,T.bJ,T.dS,U,_,U,_,_,_,_,_,U,s2 _ _ Xi,T.aE,T.cn,U,_,_,_,_,_,U,s2 _ _ Tc,T.bJ,T.cw,U,r⟩
   exact mz k kb (by rw[e];exact D') eo s2 ha
abbrev mE:Stmt:=top 78
theorem kZ:aB ["desk","told","traveller","places"] ["desk","told"] (ao mE):=sm
theorem xO{f:Addr}{fd:FuncData}(F:eH K "answer_still" "answer_still" mE f fd)(T:Txt K mg A)(bM:MethAt P w K mg base 5 A.aN "places_to_come" ["self","timetable"] (zh A))(bQ:FnAt P w K mg base 1 "written" ["numbers"] g6):bq P w K mg base eD 6 f fd ["desk","told"] (my A 9):=by
 refine F.ok kZ (fun vs H Q E h=> ?_) (fun dz Ar outer s H vs Q E hr h=> ?_)
 . obtain⟨_,_,_,_,_,_,_,rfl,_⟩:=h
   rfl
 obtain⟨Pr,dk,tq,n,st,ns,x,rfl,D,hn,ht,hx,hlen,k⟩:=h
 obtain⟨rfl,rfl⟩:=S1 hx
 obtain⟨fI,f',t,fb,pl,sl,wl,tl,tv,bs,ps,ss,ws,ts,DL⟩:=D.ex
 refine⟨_,(ae (aC (i:=2) kZ.nd rfl oi (ai (pv 0) rfl))
  (ae (bg (ay hE (pv 2) cI nk) (ah (aA (bb (aa (cJ bS aj) ag)))) aF)
  (ae (aC (i:=3) kZ.nd rfl oi (bB (pv 2) bM hr (aa (ai (pv 0) rfl) ag)))
  (ae (bg (ay jF (aP aD (by rfl) T.dF ada (aa (pv 3) ag)) (aP aD (by rfl) T.dF ada (aa (ai (pv 2) rfl) ag)) nk) (ah (aA (bA lY (bb (aa aj ag)) (aO bQ hr rfl (aa (bb (aa (ai (aM ax (pv 3) (cJ bS aj) (fun _ _=>rfl)) rfl) ag)) ag))))) aF)
  (ah (aA (bA lY (bb (aa aj ag)) (aO bQ hr rfl (aa (bb (aa (bA qG (aP aD (by rfl) T.dF ada (aa (pv 3) ag)) aj) ag)) ag))))))))), ?_⟩
 refine⟨_,U,_,_,_,_,_,U,DL.ins,T.bU,T.de,U, ?_⟩
 have pZ:=DL.tv
 unfold gM at pZ
 cases eh:st.here with
 |none=>
  rw[eh]at pZ
  have pZ:tv= .dR:=pZ
  subst pZ
  refine⟨_,U,U,_,U, ?_⟩
  refine aK (fun _=> ?_) (fun z=>(z rfl).elim)
  exact⟨_,U,Ud,cW k D (fun _ _ h=>h) (oF eh)⟩
 |some x=>
  rw[eh]at pZ
  obtain⟨v,dv,wm,ll,rl,la,ra,R,rfl,TL⟩:=pZ
  obtain⟨px,Hr,oz,_⟩:=DL.ok.hr x eh
  refine⟨_,U,U,_,U, ?_⟩
  refine aK (fun q=>by cases of_decide_eq_true q) (fun _=> ?_)
  refine⟨_,U,v,dv,_,U,TL.ins,U,_,U,_,_,_,_,_,U,DL.ins,T.bU,T.bD,U,v,t,dv,wm,ll,rl,la,st.table,st.zones,st.day,st.goal,x,st.legs,U,⟨sl,wl,tl,ss,ws,ts,DL.tab⟩,DL.ok.tab,TL.ins,TL.pl,px,TL.lg,oz,TL.ln,fun H1 b pb s1 hb hR=> ?_⟩
  refine⟨_,U,_,_,U, .inl (aW.of hR.lst),_,U,_,_,_,_,_,U,s1 _ _ TL.ins,T.aE,T.bC,U,_,_,U, .inl (aW.of (s1 _ _ TL.lg.lst)),_,_,U,U,_,U, ?_⟩
  rw[hR.cz,TL.lg.cz]
  have UO:=nA (T:=st.table) (day:=st.day) (l:=st.legs) (x:=x)
  have Yw:=nB (T:=st.table) (day:=st.day) (l:=st.legs) (x:=x) (k:=0)
  have Pc:=sq (T:=st.table) (day:=st.day) (x:=x) (l:=st.legs)
  refine aK (fun q=> ?_) (fun q=> ?_)
  . have q:st.legs.length<(places st.table st.day x st.legs).length:=by
     have:=of_decide_eq_true q
     lia
    rw[if_pos q]at UO
    obtain⟨y,ey⟩:∃y,(places st.table st.day x st.legs)[(places st.table st.day x st.legs).length-1]?=some y:=⟨_,acf (by lia)⟩
    have rB:Sg45.follow st.table st.day x st.legs=some y:=by
     rw[UO,List.getLast?_eq_getElem?]
     exact ey
    have e:=Gb eh rB
    obtain⟨pc,C8,⟨dpc,OL⟩⟩:=hR.get ey
    have eo:Sw83Neutral.out (Sw83.step st .still).2=[0,1,y.time]:=by rw[e];rfl
    refine kJ (c:=0) (t0:=tC (.int 0)) [.int y.time] (fun R r=>r) (fun H2 s2 R' r=> ?_) Ud fun H2 a s2 MI ha=> ?_
    . exact⟨_,U,_,U,_,_,_,_,U,U,aW.of (s2 _ _ hR.lst),yk (by rw[hR.cz];exact C8),_,_,_,_,_,U,s2 _ _ OL,T.bJ,T.cw,U,r⟩
    exact mz (H1:=H1) k (DL.QT s1) (by rw[e];exact D.up.same s1) eo s2 ha
  have q:¬st.legs.length<(places st.table st.day x st.legs).length:=fun z=>q (decide_eq_true (by lia))
  rw[if_neg q]at UO Yw
  have e:=Gd eh UO
  rw[Yw]at e
  have eo:Sw83Neutral.out (Sw83.step st .still).2=[1,1,(((places st.table st.day x st.legs).length:Nat):Int)-1]:=by
   rw[e]
   show [1,1,((0+((places st.table st.day x st.legs).length-1):Nat):Int)]=_
   congr 3
   lia
  refine kJ (c:=1) (t0:=tC (.int 1)) [.int ((((places st.table st.day x st.legs).length:Nat):Int)-1)] (fun R r=>r) (fun H2 s2 R' r=> ?_) Ud fun H2 a s2 MI ha=> ?_
  . refine⟨_,U,_,_,U, .inl (aW.of (s2 _ _ hR.lst)), ?_⟩
    rw[hR.cz]
    exact⟨_,_,U,U,r⟩
  exact mz (H1:=H1) k (DL.QT s1) (by rw[e];exact D.up.same s1) eo s2 ha
abbrev mF:Stmt:=top 81
theorem iE:aB ["desk","told","traveller","place","answer"] ["desk","told"] (ao mF):=sm
theorem xP{f:Addr}{fd:FuncData}(F:eH K "answer_where" "answer_where" mF f fd)(T:Txt K mg A)(bQ:FnAt P w K mg base 1 "written" ["numbers"] g6):bq P w K mg base eD 2 f fd ["desk","told"] (my A 12):=by
 refine F.ok iE (fun vs H Q E h=> ?_) (fun dz Ar outer s H vs Q E hr h=> ?_)
 . obtain⟨_,_,_,_,_,_,_,rfl,_⟩:=h
   rfl
 obtain⟨Pr,dk,tq,n,st,ns,x,rfl,D,hn,ht,hx,hlen,k⟩:=h
 obtain⟨rfl,rfl⟩:=PX hx
 obtain⟨fI,f',t,fb,pl,sl,wl,tl,tv,bs,ps,ss,ws,ts,DL⟩:=D.ex
 refine⟨_,(ae (aC (i:=2) iE.nd rfl oi (ai (pv 0) rfl))
  (ae (bg (ay hE (pv 2) cI nk) (ah (aA (bb (aa (cJ bS aj) ag)))) aF)
  (ae (aC (i:=3) iE.nd rfl oi (ai (pv 2) rfl))
  (ae (aC (i:=4) iE.nd rfl oi (bA lY (bb (aa aj ag)) (aO bQ hr rfl (aa (bb (aa (ai (pv 3) rfl) (aa (ai (pv 3) rfl) (aa (ai (pv 3) rfl) ag)))) ag))))
  (ah (aA (bA lY (pv 4) (aO bQ hr rfl (aa (bb (aa (aP aD (by rfl) T.dF ada (aa (ai (pv 2) rfl) ag)) (aa (aP aD (by rfl) T.dF ada (aa (ai (pv 2) rfl) ag)) ag))) ag))))))))), ?_⟩
 refine⟨_,U,_,_,_,_,_,U,DL.ins,T.bU,T.de,U, ?_⟩
 have pZ:=DL.tv
 unfold gM at pZ
 cases eh:st.here with
 |none=>
  rw[eh]at pZ
  have pZ:tv= .dR:=pZ
  subst pZ
  refine⟨_,U,U,_,U, ?_⟩
  refine aK (fun _=> ?_) (fun z=>(z rfl).elim)
  exact⟨_,U,Ud,cW k D (fun _ _ h=>h) (oF eh)⟩
 |some x=>
  rw[eh]at pZ
  obtain⟨v,dv,wm,ll,rl,la,ra,R,rfl,TL⟩:=pZ
  refine⟨_,U,U,_,U, ?_⟩
  refine aK (fun q=>by cases of_decide_eq_true q) (fun _=> ?_)
  refine⟨_,U,_,_,_,_,_,U,TL.ins,T.aE,T.cn,U, ?_⟩
  obtain⟨dp,hp⟩:=TL.pl
  have e:=La eh
  have eo:Sw83Neutral.out (Sw83.step st .where_).2=[0,3,(x.halt_:Int),x.time,(x.way:Int),2,(R.length:Int),(st.legs.length:Int)]:=by
   rw[e,TL.rs,abI]
   rfl
  refine kJ (c:=0) (t0:=tC (.int 0)) [.int (x.halt_:Nat), .int x.time, .int (x.way:Nat)] (fun R r=>r) (fun H2 s2 R' r=> ?_) Ud fun H2 a s2 MI ha=> ?_
  . exact⟨_,U,_,_,_,_,_,U,s2 _ _ hp,T.bJ,T.dS,U,_,U,_,_,_,_,_,U,s2 _ _ hp,T.bJ,T.cw,U,_,U,_,_,_,_,_,U,s2 _ _ hp,T.bJ,T.kE,U,r⟩
  refine C1 (i:=4) [.int (R.length:Nat), .int (st.legs.length:Nat)] rfl ha Ud (fun R' r=> ?_) Ud fun H3 a3 s3 _ ha3=> ?_
  . refine⟨_,U,_,_,_,_,_,U,s2 _ _ TL.ins,T.aE,T.dU,U,_,_,U, .inl (aW.of (s2 _ _ TL.rd.lst)), ?_⟩
    rw[TL.rd.cz]
    refine⟨_,U,_,_,_,_,_,U,s2 _ _ TL.ins,T.aE,T.bC,U,_,_,U, .inl (aW.of (s2 _ _ TL.lg.lst)), ?_⟩
    rw[TL.lg.cz]
    exact r
  exact mz (H1:=H) k (fun _ _=>rfl) (by rw[e];exact D.up) eo (s2.trans s3) ha3
end
theorem Ge{a b:Option Sw76.Best}{x:Sw76.Best}{n:Nat}(ha:∀y,a=some y->∀t∈y.tickets,t.journeys<=n)(hb:∀y,b=some y->∀t∈y.tickets,t.journeys<=n)(h:Sw76.cheaper a b=some x):∀t∈x.tickets,t.journeys<=n:=by
 cases a with
 |none=>rw[dC]at h;exact hb x h
 |some a=>
  cases b with
  |none=>rw[dB]at h;exact ha x h
  |some b=>
   rw[bt]at h
   split at h
   . exact hb x h
   split at h
   . exact ha x h
   cases h
   exact ha a rfl
theorem Nl{os:Nat->Option Off3}{hs:Nat->Option Sw76.Best}{m f:Nat}(h:∀i b,i<m->hs i=some b->∀t∈b.tickets,t.journeys<=i):∀(l:List Nat)(a:Option Sw76.Best),(∀g∈l,g<=m)->(∀y,a=some y->∀t∈y.tickets,t.journeys<=m)->∀x,l.foldl (g9 os hs m f) a=some x->∀t∈x.tickets,t.journeys<=m:=by
 intro l
 induction l with
 |nil=>intro a _ h x hx;exact h x hx
 |cons g l ih=>
  intro a hl ha x hx
  rw[acb]at hx
  refine ih _ (fun g hg=>hl g (abn _ hg)) (fun y hy=> ?_) x hx
  have hg:=hl g (by simp)
  unfold g9 at hy
  split at hy
  . exact ha y hy
  rename_i c
  have WN:1<=g:=by
   apply acp
   intro q
   have:g=0:=by lia
   subst this
   simp at c
  revert hy
  cases os g with
  |none=>exact fun hy=>ha y hy
  |some o=>
   cases eh:hs (m-g)with
   |none=>exact fun hy=>ha y hy
   |some b=>
    intro hy
    have hb:=h (m-g) b (by lia) eh
    refine Ge ha (fun z hz t ht=> ?_) hy
    cases hz
    rcases abo.mp ht with rfl|ht
    . exact hg
    exact abk (hb t ht) (Nat.sub_le _ _)
theorem zT{d:Sw76.Desk}{n:Nat}:∀{k i:Nat}{b:Sw76.Best},i<k->(dJ d n k).getD i none=some b->∀t∈b.tickets,t.journeys<=i
 |0,i,b,h,_=>by lia
 |k+1,i,b,h,e=>by
  by_cases c:i<k
  . rw[vZ c]at e
    exact zT c e
  have:i=k:=by lia
  subst this
  rw[v7]at e
  split at e
  . cases e
    intro t ht
    cases ht
  rw[ua]at e
  exact Nl (fun j b hj hb=>zT hj hb) _ none (fun g hg=>by have:=abi.mp hg;lia) (fun y hy=>by cases hy) b e
theorem Nm{d:Sw76.Desk}{b:Sw76.Best}(h:d.best=some b):∀t∈b.tickets,t.journeys<2^d.journeys.length:=by
 rw[G5 rfl]at h
 have hp:0<2^d.journeys.length:=acH _
 intro t ht
 exact acW (zT (Nat.sub_lt hp (by decide)) h t ht) (Nat.sub_lt hp (by decide))
theorem EI{T:Sg45.Table}{day:Nat}{x:Sg45.Place}{l:List Sg45.Leg}:(Sw83.missed T day 0 x l).isSome= !decide (l.length<(places T day x l).length):=by
 rw[nB]
 by_cases c:l.length<(places T day x l).length
 . rw[if_pos c,decide_eq_true c]
   rfl
 rw[if_neg c,decide_eq_false c]
 rfl
noncomputable def ue(s:Sw83.St):List Sw76.Journey:=s.rides++s.legs.flatMap s.fare
theorem m8{s:Sw83.St}{x:Sg45.Place}(h:s.here=some x):Sw83.step s .price=(if(Sw83.missed s.table s.day 0 x s.legs).isSome=true then(s,Sw83.ok (-7))else
 if 7<(ue s).length then(s,Sw83.ok (-5))else
 match({s.desk with journeys:=ue s}:Sw76.Desk).best with
  |none=>(s,Sw83.ok (-6))
  |some b=>(s,⟨(b.price:Int),[(b.many:Int)]::b.tickets.map fun t=>(t.product::Sw76.members (ue s).length t.journeys).map Sw83.int⟩)):=by
 show s.away _=_
 rw[g7 h]
 rfl
theorem Gf{s:Sw83.St}{x:Sg45.Place}(h:s.here=some x)(h2:(Sw83.missed s.table s.day 0 x s.legs).isSome=true):Sw83.step s .price=(s,Sw83.ok (-7)):=by
 rw[m8 h,if_pos h2]
theorem Gg{s:Sw83.St}{x:Sg45.Place}(h:s.here=some x)(h2:(Sw83.missed s.table s.day 0 x s.legs).isSome=false)(h3:7<(ue s).length):Sw83.step s .price=(s,Sw83.ok (-5)):=by
 rw[m8 h,if_neg (by rw[h2];simp),if_pos h3]
theorem Gh{s:Sw83.St}{x:Sg45.Place}(h:s.here=some x)(h2:(Sw83.missed s.table s.day 0 x s.legs).isSome=false)(h3:(ue s).length<=7)(h4:({s.desk with journeys:=ue s}:Sw76.Desk).best=none):Sw83.step s .price=(s,Sw83.ok (-6)):=by
 rw[m8 h,if_neg (by rw[h2];simp),if_neg (by lia),h4]
theorem Lb{s:Sw83.St}{x:Sg45.Place}{b:Sw76.Best}(h:s.here=some x)(h2:(Sw83.missed s.table s.day 0 x s.legs).isSome=false)(h3:(ue s).length<=7)(h4:({s.desk with journeys:=ue s}:Sw76.Desk).best=some b):Sw83.step s .price=(s,⟨(b.price:Int),[(b.many:Int)]::b.tickets.map fun t=>Js (t.product::mem t.journeys)⟩):=by
 rw[m8 h,if_neg (by rw[h2];simp),if_neg (by lia),h4]
 dsimp only
 congr 3
 apply acn
 intro t ht
 have:=Nm h4 t ht
 rw[<-eT (k:=(ue s).length) this]
 rfl
theorem BX{s:Sw83.St}:∀{l:List Sg45.Leg},l.flatMap s.fare=(l.flatMap (dW s.table s.zones s.day)).map mM
 |[]=>rfl
 |a::l=>by
  rw[acj,acj,acX,<-BX,G7,uS]
section
variable{P:Program}{w:World}{K:PySem.W.Frag}{mg:Str->Option Value}{base:Heap}{A:Ad}
abbrev mG:Stmt:=top 80
theorem eL:aB ["desk","told","traveller","rides","purchase","answer","ticket"] ["desk","told"] (ao mG):=sm
theorem xQ{f:Addr}{fd:FuncData}(F:eH K "answer_price" "answer_price" mG f fd)(T:Txt K mg A)(fT:MethAt P w K mg base 6 A.aN "can_go_all" ["self","timetable"] (Hf A))(gm:MethAt P w K mg base 6 A.aN "all_rides" ["self","timetable"] (zi A))(j7:MethAt P w K mg base 6 A.c7 "cheapest" ["self","rides"] (zA A))(bQ:FnAt P w K mg base 1 "written" ["numbers"] g6):bq P w K mg base eD 7 f fd ["desk","told"] (my A 11):=by
 refine F.ok eL (fun vs H Q E h=> ?_) (fun dz Ar outer s H vs Q E hr h=> ?_)
 . obtain⟨_,_,_,_,_,_,_,rfl,_⟩:=h
   rfl
 obtain⟨Pr,dk,tq,n,st,ns,x,rfl,D,hn,ht,hx,hlen,k⟩:=h
 obtain⟨rfl,rfl⟩:=PV hx
 obtain⟨fI,f',t,fb,pl,sl,wl,tl,tv,bs,ps,ss,ws,ts,DL⟩:=D.ex
 obtain⟨df,NQ⟩:=DL.sx.ins
 refine⟨_,(ae (aC (i:=2) eL.nd rfl oi (ai (pv 0) rfl))
  (ae (bg (ay hE (pv 2) cI nk) (ah (aA (bb (aa (cJ bS aj) ag)))) aF)
  (ae (bg (sY (lU (bB (pv 2) fT hr (aa (ai (pv 0) rfl) ag)))) (ah (aA (bb (aa (cJ bS aj) ag)))) aF)
  (ae (aC (i:=3) eL.nd rfl oi (bB (pv 2) gm hr (aa (ai (pv 0) rfl) ag)))
  (ae (bg (ay jF (aP aD (by rfl) T.dF ada (aa (pv 3) ag)) (bj rfl T.fm) nk) (ah (aA (bb (aa (cJ bS aj) ag)))) aF)
  (ae (aC (i:=4) eL.nd rfl oi (bB (ai (pv 0) rfl) j7 hr (aa (pv 3) ag)))
  (ae (bg (ay hE (pv 4) cI nk) (ah (aA (bb (aa (cJ bS aj) ag)))) aF)
  (ae (aC (i:=5) eL.nd rfl oi (bA lY (bb (aa (ai (pv 4) rfl) ag)) (aO bQ hr rfl (aa (bb (aa (ai (pv 4) rfl) ag)) ag))))
  (ae (dI acZ rfl (cG (ai (pv 4) rfl)) (aX (i:=6) eL.nd rfl oi) (ah (cF (k0 ac0 adf adg n9 (pv 5) (aa (aO bQ hr rfl (aa (pv 6) ag)) ag)))))
  (ah (aA (pv 5)))))))))))), ?_⟩
 refine⟨_,U,_,_,_,_,_,U,DL.ins,T.bU,T.de,U, ?_⟩
 have pZ:=DL.tv
 unfold gM at pZ
 cases eh:st.here with
 |none=>
  rw[eh]at pZ
  have pZ:tv= .dR:=pZ
  subst pZ
  refine⟨_,U,U,_,U, ?_⟩
  refine aK (fun _=> ?_) (fun z=>(z rfl).elim)
  exact⟨_,U,Ud,cW k D (fun _ _ h=>h) (oF eh)⟩
 |some x=>
  rw[eh]at pZ
  obtain⟨v,dv,wm,ll,rl,la,ra,R,rfl,TL⟩:=pZ
  obtain⟨px,Hr,oz,_⟩:=DL.ok.hr x eh
  refine⟨_,U,U,_,U, ?_⟩
  refine aK (fun q=>by cases of_decide_eq_true q) (fun _=> ?_)
  refine⟨_,U,v,dv,_,U,TL.ins,U,_,U,_,_,_,_,_,U,DL.ins,T.bU,T.bD,U,v,t,dv,wm,ll,rl,la,st.table,st.zones,st.day,st.goal,x,st.legs,U,⟨sl,wl,tl,ss,ws,ts,DL.tab⟩,DL.ok.tab,TL.ins,TL.pl,px,TL.lg,oz,TL.ln,fun H1 s1=>⟨_,U, ?_⟩⟩
  have MU:=EI (T:=st.table) (day:=st.day) (x:=x) (l:=st.legs)
  cases ec:decide (st.legs.length<(places st.table st.day x st.legs).length)with
  |false=>
   rw[ec]at MU
   exact⟨_,U,Ud,cW k D s1 (Gf eh MU)⟩
  |true=>
   rw[ec]at MU
   have MU:(Sw83.missed st.table st.day 0 x st.legs).isSome=false:=MU
   have rB:=nA (T:=st.table) (day:=st.day) (l:=st.legs) (x:=x)
   rw[if_pos (of_decide_eq_true ec)]at rB
   obtain⟨y,ey⟩:∃y,Sg45.follow st.table st.day x st.legs=some y:=by
    rw[rB]
    have Pc:=sq (T:=st.table) (day:=st.day) (x:=x) (l:=st.legs)
    cases e:(places st.table st.day x st.legs).getLast? with
    |none=>
     rw[List.getLast?_eq_none_iff]at e
     rw[e]at Pc
     cases Pc
    |some z=>exact⟨z,rfl⟩
   have QN:=DL.ok.rides px ey
   rw[uS]at QN
   have eJ:ue st=(R++st.legs.flatMap (dW st.table st.zones st.day)).map mM:=by
    unfold ue
    rw[BX,TL.rs,acX]
   have z8:∀z∈st.zones,z<=8:=fun z hz=>by
    have h1:=DL.ok.zz z hz
    have h2:=DL.ok.nz
    lia
   have hRn:=TL.rn
   have Jf:=DL.same s1
   have UP:=TL.same s1
   refine⟨_,U,v,dv,_,U,UP.ins,U,_,U,_,_,_,_,_,U,Jf.ins,T.bU,T.bD,U,v,t,dv,wm,ll,rl,la,ra,st.table,st.zones,st.day,st.goal,st.legs,R,U,⟨sl,wl,tl,ss,ws,ts,Jf.tab⟩,DL.ok.tab,UP.ins,UP.lg,pN oz,z8,TL.ln,UP.rd,(by lia),fun H2 b rb s2 hb Xl=> ?_⟩
   have LB:=s1.trans s2
   have lJ:(R++st.legs.flatMap (dW st.table st.zones st.day)).length=(ue st).length:=by rw[eJ,abI]
   refine⟨_,U,_,_,U, .inl (aW.of Xl.lst),_,_,U,U,_,U, ?_⟩
   rw[Xl.cz,lJ]
   refine aK (fun q=> ?_) (fun q=> ?_)
   . have q:7<(ue st).length:=by
      have:=of_decide_eq_true q
      lia
     exact⟨_,U,Ud,cW k D LB (Gg eh MU q)⟩
   have q:(ue st).length<=7:=by
    apply acp
    intro z
    exact q (decide_eq_true (by lia))
   have P4:=DL.same LB
   refine⟨_,U,_,_,_,_,_,U,P4.ins,T.bU,T.gW,U,f',df,_,U,LB _ _ NQ,U,_,U,f',fb,pl,b,bs,ps,rb,st.desk,_,U,P4.sx,DL.ok.nz,Xl,(by rw[lJ];exact q),fun r hr=> ?_,fun p hp=>(DL.ok.pr p hp).1,DL.ok.np,fun H3 pv s3 P5=> ?_⟩
   . rcases abq.mp hr with hr|hr
     . exact TL.ro r hr
     exact QN r hr
   rw[<-eJ]at P5
   have S9:=LB.trans s3
   cases eb:({st.desk with journeys:=ue st}:Sw76.Desk).best with
   |none=>
    rw[eb]at P5
    have P5:pv= .dR:=P5
    subst P5
    refine⟨_,U,U,_,U, ?_⟩
    refine aK (fun _=> ?_) (fun z=>(z rfl).elim)
    exact⟨_,U,Ud,cW k D S9 (Gh eh MU q eb)⟩
   |some be=>
    rw[eb]at P5
    obtain⟨pa,rfl,sH⟩:=P5
    obtain⟨Jq,Xm,Yx,Xn,Te⟩:=sH.ex
    refine⟨_,U,U,_,U, ?_⟩
    refine aK (fun q=>by cases of_decide_eq_true q) (fun _=> ?_)
    have e:=Lb eh MU q eb
    have eo:Sw83Neutral.out (Sw83.step st .price).2=Sw83Neutral.out ⟨(be.price:Int),[(be.many:Int)]::be.tickets.map fun t=>Js (t.product::mem t.journeys)⟩:=by rw[e]
    have Lv:=hlen
    rw[eo]at Lv
    refine kJ (c:=(be.price:Int)) (t0:=qI K (cT 4) "price") [.int (be.many:Nat)] (fun R r=>⟨_,rfl,_,_,_,_,_,rfl,Xn,T.bV,T.fB,rfl,r⟩) (fun H4 s4 R' r=>⟨_,rfl,_,_,_,_,_,rfl,s4 _ _ Xn,T.bV,T.iB,rfl,r⟩) Ud fun H4 a s4 MI ha=> ?_
    have hN:Rep xk H3 Xm Yx (be.tickets.map fun t=>Js (t.product::mem t.journeys)):=by
     refine⟨Te.lst,by rw[abI,Te.len],fun i ns hi=> ?_⟩
     rw[abV]at hi
     cases et:be.tickets[i]?with
     |none=>rw[et]at hi;cases hi
     |some tk=>
      rw[et]at hi
      obtain⟨c,c1,c2⟩:=Te.at_ i tk et
      have hi:Js (tk.product::mem tk.journeys)=ns:=Option.some.inj hi
      refine⟨c,c1, ?_⟩
      rw[<-hi]
      unfold xk
      rw[<-CP]
      exact c2
    generalize Yy:(be.tickets.map fun t=>Js (t.product::mem t.journeys))=nums at hN eo Lv
    have ha:H4 a=some (.lst ((Sw83Neutral.out ⟨(be.price:Int),[[(be.many:Int)]]⟩).map V.int)):=ha
    refine⟨_,U,_,_,_,_,_,U,s4 _ _ Xn,T.bV,T.iH,U,Xm,U,⟨_,aW.of (s4 _ _ Te.lst)⟩, ?_⟩
    refine eQ (K:=K) (a:=Xm) (xs:=Yx.map V.ref) (fun i σ H'=>∃o6,σ=[some (.ref dk),some (.ref tq),some (.ref v),some (.ref b),some (.ref pa),some (.ref a),o6]/\ak H3 H'/\H' a=some (.lst ((Sw83Neutral.out ⟨(be.price:Int),[(be.many:Int)]::nums.take i⟩).map V.int)))
     ⟨none,rfl,s4,ha⟩ (fun i σ H' _⟨_,_,s5,_⟩=>aW.of (s5 _ _ Te.lst)) ?_ ?_
    . rintro i u σ H5 hu ⟨o6,rfl,s5,g5⟩
      obtain⟨lg,vw,rfl,S5,QC⟩:=(zP hN s5).turn hu
      have hb:=EG (v:=(be.price:Int)) (l:=[(be.many:Int)]::nums) (i:=i+1) (w:=vw) S5
      have hb:(Sw83Neutral.out ⟨(be.price:Int),[(be.many:Int)]::nums.take i⟩).length+1+vw.length<=_:=hb
      refine⟨_,U, .inl ⟨U,_,aW.of g5⟩,_,U,lg,_,U,QC,(by rw[abI];lia),fun H6 p6 s6 Yv e6=> ?_⟩
      refine⟨a,p6,_,_,U,U,s6 _ _ g5,e6, ?_, ?_⟩
      . rw[abG,abI,abI]
        exact abk (show _<=1500000 by lia) (by decide)
      refine⟨_,U,ak.fy (s5.trans s6) MI, ?_⟩
      rw[af,take_snoc S5,<-acs,zQ,acX,abH,abI]
    rintro σ H5 ⟨o6,rfl,s5,g5⟩
    rw[hN.cz,ac3]at g5
    refine⟨_,U, ?_⟩
    exact mz (H1:=H) k (fun _ _=>rfl) (by rw[e];exact D.up) eo (S9.trans s5) g5
end
structure Lc(X:Cx)(f:Addr)(sp:Sp):Prop where
 ex:∃k fd ps,bq X.prog X.w X.K X.mg X.base eD k f fd ps sp/\gg k X.A/\PySem.W.keepIn X.K (.ref f)=true/\Binds X.K fd ps []
def P6(X:Cx)(tf:TE)(t:TA):TE:=fun σ H Q=>tf σ H fun x H1=>∃f sp,x= .ref f/\Lc X f sp/\t σ H1 fun vs H2=>sp (vs++[]) H2 Q E0
theorem Ld{X:Cx}{fe e:Expr}{es:List Expr}{tf:TE}{t:TA}{pos:Pos}(hf:PE X fe tf)(ha:PA X (e::es) t)
 (he0:eval (.Call fe (e::es) [] pos) X.env=(do callWith pos (<-eval fe X.env) [] (backTo pos (starEach (e::es) X.env)) (backToKw pos (keywordEach [] X.env))):=by rfl)
 (he:starEach (e::es) X.env=(false,eval e X.env)::starEach es X.env:=by rfl) (qJ:(backTo pos (starEach es X.env)).any (·.1)=false:=by rfl):
 PE X (.Call fe (e::es) [] pos) (P6 X tf t):=by
 intro pins s σ H Q I h
 refine Call_ (eO (hf pins s σ H _ I h) fun u s1⟨x,H1,I1,rx,f,sp,ex,c,q⟩=> ?_) he0
 obtain⟨k,fd,ps,F,hr,hk,hb⟩:=c.ex
 subst ex
 obtain rfl:u=Value.ref f:=rx
 refine abN (h₀:=X.base) I.ok.mod.Qv hk (eO (ha pos pins s1 σ H1 _ I1 q) fun us s2⟨vs,H2,I2,r,q2⟩=>⟨I2.E1, ?_⟩) he qJ
 exact yB F hr hb .nil Bf I2 r q2
def xR(H H':Hp):Prop:=∀b o u,H b=some (.yo o u)->H' b=some (.yo o u)
def P7(H0:Hp)(t:TE):TE:=fun σ H Q=>t σ H fun v H'=>xR H0 H'->Q v H'
theorem Le{X:Cx}{e:Expr}{t:TE}(h:PE X e t):PE X e (P7 X.Qw t):=by
 intro pins s σ H Q I hw
 exact eO (h pins s σ H _ I hw) fun u s1⟨x,H1,I1,r,q⟩=>⟨x,H1,I1,r,q fun b o u e=>I1.base.yp b o u e⟩
theorem xR.same {H H1 H2:Hp} (h:xR H H1) (s:ak H1 H2):xR H H2:=fun b o u e=>s _ _ (h b o u e)
theorem xR.upd {H H1:Hp} {l:Addr} {xs:List V} {o:HO} (h:xR H H1) (hl:H1 l=some (.lst xs)):xR H (L2.upd H1 l o):=fun b ob u e=>by
 have:=h b ob u e
 rw[au (bH this hl (by intro q;cases q))]
 exact this
theorem zU{rs:List (List Int)}{i:Nat}{r:List Int}(h:rs[i]?=some r):bO rs=bO (rs.take i)++0::(r.length:Int)::(r++bO (rs.drop (i+1))):=by
 have e:rs=rs.take i++r::rs.drop (i+1):=by
  rw[<-drop_cons h,acU]
 conv=>lhs;rw[e]
 unfold bO
 rw[ac6,acj]
 simp
theorem Ji{rs:List (List Int)}{i:Nat}{r:List Int}(h:rs[i]?=some r):(bO (rs.take (i+1))).length=(bO (rs.take i)).length+2+r.length:=by
 rw[take_snoc h]
 unfold bO
 rw[ac6,acj,List.flatMap_nil,abM,abX,abG,abG]
 lia
theorem Lf{rs:List (List Int)}{i:Nat}{r:List Int}(h:rs[i]?=some r):(bT Sw83.init (rs.take i)).length+1+(Sw83Neutral.step (eE Sw83.init (rs.take i)) r).2.length<=(bT Sw83.init rs).length:=by
 have h1:(bT Sw83.init (rs.take (i+1))).length=(bT Sw83.init (rs.take i)).length+1+(Sw83Neutral.step (eE Sw83.init (rs.take i)) r).2.length:=by
  rw[take_snoc h,y3,abX,abG]
  lia
 have app:∀(a b:List (List Int))(s:Sw83.St),(bT s a).length<=(bT s (a++b)).length:=by
  intro a
  induction a with
  |nil=>intro b s;exact abE _
  |cons x a ih=>
   intro b s
   have:=ih b (Sw83Neutral.step s x).1
   rw[acs,bT,bT,abG,abG,abX,abX]
   lia
 have h2:=app (rs.take (i+1)) (rs.drop (i+1)) Sw83.init
 rw[acU]at h2
 lia
theorem EJ{c:Nat}{ns:List Nat}{x:Sw83.Call}(h:Sw83Neutral.callIn (c::ns)=some x):c<13:=by
 rcases c with _|_|_|_|_|_|_|_|_|_|_|_|_|c
 any_goals lia
 cases h
theorem Lg{xs:List V}{a b:Nat}(h1:a<=b)(h2:b<=xs.length):lB xs (some (a:Int)) (some (b:Int))=(xs.drop a).take (b-a):=by
 unfold lB
 rw[uT,uT,adi h2,adi (by lia)]
section
variable{P:Program}{w:World}{K:PySem.W.Frag}{mg:Str->Option Value}{base:Heap}{A:Ad}
def sy(K:PySem.W.Frag):Sp:=fun vs H Q _=>∃(cl:Addr)(zs:List Int),vs=[.ref cl]/\(∀H',xR H H'->aW K H' cl (zs.map V.int))/\PySw83.answers_asked zs=true/\∀(H':Hp)(p:Addr),H' p=some (.lst ((PySw83.answers zs).map V.int))->Q (.ref p) H'
abbrev wo:Stmt:=top 83
theorem gR:aB ["calls","desk","answered","at","start","end","answer"] ["calls"] (ao wo):=sm
theorem Gi{f:Addr}{fd:FuncData}(F:eH K "answers" "answers" wo f fd)(T:Txt K mg A)(Gj:eG P w K mg base 4 "Desk" A.Desk ["self","zones","weekday"] (zC A))(bQ:FnAt P w K mg base 1 "written" ["numbers"] g6){an:Addr}{fs:List Addr}(hAn:mg "ANSWERS"=some (.ref an))(Xo:∀H,xq K H an (fs.map V.ref))
 (UL:∀code,code<13->∃g k gd,fs[code]?=some g/\k<=7/\bq P w K mg base eD k g gd ["desk","told"] (my A code)/\PySem.W.keepIn K (.ref g)=true/\Binds K gd ["desk","told"] []):bq P w K mg base eD 10 f fd ["calls"] (sy K):=by
 refine F.ok gR (fun vs H Q E h=> ?_) (fun dz Ar outer s H vs Q E hr h=> ?_)
 . obtain⟨_,_,rfl,_⟩:=h
   rfl
 obtain⟨cl,zs,rfl,GO,P8,k⟩:=h
 obtain⟨rs,rfl,Xp,aaD,P9,hlen⟩:=Fy P8
 rw[Xp]at k
 refine⟨_,(ae (aC (i:=1) gR.nd rfl oi (cv Gj hr rfl (aa aj (aa aj ag))))
  (ae (aC (i:=2) gR.nd rfl oi (bb ag))
  (ae (aC (i:=3) gR.nd rfl oi aj)
  (ae (qF acZ (ay lV (pv 3) (aP aD (by rfl) T.dF ada (aa (pv 0) ag)) nk) (ae (aC (i:=4) gR.nd rfl oi (bA ft (pv 3) aj))
  (ae (aC (i:=5) gR.nd rfl oi (bA ft (pv 4) (aM ax (pv 0) (bA ft (pv 3) aj) (fun _ _=>rfl))))
  (ae (aC (i:=6) gR.nd rfl oi (Le (Ld (aM Fh (B1 rfl hAn (show RelV (.ref an) (.ref an)from rfl)) (aM ax (pv 0) (pv 4) (fun _ _=>rfl)) (fun _ _=>rfl)) (aa (pv 1) (aa (lX oO (pv 0) (j8 (bA ft (pv 4) aj)) (j8 (pv 5))) ag)))))
  (ae (cF (k0 ac0 adf adg n9 (pv 2) (aa (aO bQ hr rfl (aa (pv 6) ag)) ag)))
  (ah (aC (i:=3) gR.nd rfl oi (pv 5))))))))
  (ah (aA (pv 2))))))), ?_⟩
 refine fun dk fI Ho Xq ir=> ?_
 refine⟨dk,fI,0,0,U,(by lia),(by lia),af,fun H1 f' t fb pl sl wl tl N=>⟨U, ?_⟩⟩
 have s1:ak H H1:=fun b o e=>by
  refine N.kp _ _ ?_ (aw e Ho)
  rw[au (aw e Ho),au (aw e Xq)]
  exact e
 refine⟨abE _,fun EK zV=> ?_⟩
 have s2:ak H1 (upd H1 EK (.lst [])):=ak.upd zV
 have a2:(upd H1 EK (.lst [])) EK=some (.lst ((bT Sw83.init (rs.take 0)).map V.int)):=af
 have D2:dM A [EK] (upd H1 EK (.lst [])) dk 0 (eE Sw83.init (rs.take 0)):=by
  refine⟨fI,f',t,fb,pl,sl,wl,tl, .dR,_,[],[],[],[],⟨s2 _ _ N.ins,N.sx.same s2,N.tab.same s2,N.tabS,N.ap,fun b hb=> ?_,y0 (by lia) (by lia),U⟩⟩
  simp only[acT]at hb
  subst hb
  refine⟨⟨[],af⟩,fun q=> ?_⟩
  simp only[abo,adh,or_false]at q
  rcases q with q|q|q|q|q
  . rw[q,N.sx.bd]at zV;cases zV
  . rw[q,N.sx.pr.lst]at zV;cases zV
  . rw[q,N.tab.st.lst]at zV;cases zV
  . rw[q,N.tab.wk.lst]at zV;cases zV
  rw[q,N.tab.tp.lst]at zV;cases zV
 have f2:xR H (upd H1 EK (.lst [])):=fun b o u e=>s2 _ _ (s1 _ _ e)
 generalize upd H1 EK (.lst [])=H2 at a2 D2 f2⊢
 refine⟨fun m σ H'=>∃(i:Nat)(o4 o5 o6:Option V),i<=rs.length/\m=rs.length-i/\σ=[some (.ref cl),some (.ref dk),some (.ref EK),some (.int ((bO (rs.take i)).length:Nat)),o4,o5,o6]/\xR H H'/\dM A [EK] H' dk i (eE Sw83.init (rs.take i))/\H' EK=some (.lst ((bT Sw83.init (rs.take i)).map V.int)),
  ⟨_,0,none,none,none,abE _,rfl,rfl,f2,D2,a2⟩, ?_⟩
 rintro m σ H3 ⟨i,o4,o5,o6,hi,rfl,rfl,f3,D3,a3⟩
 have S3:=GO H3 f3
 refine⟨_,U,_,U,_,_,U, .inl S3,_,_,U,U,_,U, ?_⟩
 rw[abI]
 refine aK (fun q=> ?_) (fun q=> ?_)
 . have q:(bO (rs.take i)).length<(bO rs).length:=by
    have:=of_decide_eq_true q
    lia
   have di:i<rs.length:=by
    apply acp
    intro c
    rw[ac4 (by lia)]at q
    lia
   obtain⟨r,er⟩:∃r,rs[i]?=some r:=⟨_,acf di⟩
   obtain⟨x,ex⟩:=P9 r (abW er)
   obtain⟨ns,Xr,Lh,_⟩:=Fz ex
   obtain⟨code,told,rfl⟩:∃code told,ns=code::told:=by
    cases ns with
    |nil=>cases Lh
    |cons c l=>exact⟨c,l,rfl⟩
   have Tf:=EJ Lh
   obtain⟨g,kg,gd,eg,hk7,Fg,Tg,DB⟩:=UL code Tf
   have Li:=step_call (s:=eE Sw83.init (rs.take i)) ex
   have NR:=Lf er
   rw[Li]at NR
   dsimp only at NR
   have pP:=zU er
   have Th:=Ji er
   have QM:r.length=told.length+1:=by rw[Xr,abI,abG]
   have UD:(bO (rs.take i)).length+2+r.length<=(bO rs).length:=by
    rw[pP,abX,abG,abG,abX]
    lia
   have g1:oJ ((bO rs).map V.int) (((bO (rs.take i)).length:Nat)+1)=some (.int (r.length:Nat)):=by
    rw[show(((bO (rs.take i)).length:Nat):Int)+1=(((bO (rs.take i)).length+1:Nat):Int) by lia]
    apply c9
    rw[pP,abV,abT (by lia),adj]
    rfl
   have g2:oJ ((bO rs).map V.int) (((bO (rs.take i)).length:Nat)+2)=some (.int (code:Nat)):=by
    rw[show(((bO (rs.take i)).length:Nat):Int)+2=(((bO (rs.take i)).length+2:Nat):Int) by lia]
    apply c9
    rw[pP,abV,abT (by lia),adj,Xr]
    rfl
   have gt:lB ((bO rs).map V.int) (some ((((bO (rs.take i)).length:Nat):Int)+2+1)) (some ((((bO (rs.take i)).length:Nat):Int)+2+(r.length:Int)))=b9 told:=by
    rw[show(((bO (rs.take i)).length:Nat):Int)+2+1=(((bO (rs.take i)).length+3:Nat):Int) by lia,show(((bO (rs.take i)).length:Nat):Int)+2+(r.length:Int)=(((bO (rs.take i)).length+2+r.length:Nat):Int) by lia]
    rw[Lg (by lia) (by rw[abI];lia),<-List.map_drop,<-List.map_take]
    have e1:(bO rs).drop ((bO (rs.take i)).length+3)=told.map (fun n=>((n:Nat):Int))++bO (rs.drop (i+1)):=by
     rw[pP,List.drop_append,List.drop_of_length_le (by lia),List.nil_append,adj,Xr]
     rfl
    rw[e1,show(bO (rs.take i)).length+2+r.length-((bO (rs.take i)).length+3)=told.length by lia]
    rw[List.take_append_of_le_length (by rw[abI];exact abB _),ac4 (by rw[abI];exact abB _)]
    unfold b9
    rw[acm]
    rfl
   refine⟨fun ff H'=>∃m',m'<rs.length-i/\∃(i:Nat)(o4 o5 o6:Option V),i<=rs.length/\m'=rs.length-i/\ff=[some (.ref cl),some (.ref dk),some (.ref EK),some (.int ((bO (rs.take i)).length:Nat)),o4,o5,o6]/\xR H H'/\dM A [EK] H' dk i (eE Sw83.init (rs.take i))/\H' EK=some (.lst ((bT Sw83.init (rs.take i)).map V.int)),fun _ _ h=>h, ?_⟩
   refine⟨_,U,_,_,U,U, ?_⟩
   refine⟨_,U,_,U,_,U,_,_,U,U,_,_,_,_,U,U,S3,g1,_,_,U,U, ?_⟩
   refine⟨_,U,_,U,_,_,_,_,U,U,S3,g2,an,_,_,_,U,U,Xo H3,c9 (n:=code) (v:= .ref g) (by rw[abV,eg];rfl),g,my A code,U,⟨kg,gd,_,Fg,hr.mono (by lia),Tg,DB⟩, ?_⟩
   refine⟨_,U,_,U,_,U,_,_,U,U,_,U,_,U,_,U,cl,_,U,S3,fun tq htq=> ?_⟩
   rw[gt]
   have s4:ak H3 (upd H3 tq (.lst (b9 told))):=ak.upd htq
   have t4:(upd H3 tq (.lst (b9 told))) tq=some (.lst (b9 told)):=af
   have D4:=D3.same s4
   have a4:=s4 _ _ a3
   generalize upd H3 tq (.lst (b9 told))=H4 at s4 t4 D4 a4⊢
   refine⟨[EK],dk,tq,i,eE Sw83.init (rs.take i),told,x,U,D4,(by lia),t4,Lh,(by lia),fun H5 a kb D5 a5=> ?_⟩
   intro f5
   have UQ:=kb EK (by simp)
   rw[a4]at UQ
   refine⟨_,U, .inl ⟨U,_,aW.of UQ⟩,_,U,a,_,U,a5,(by rw[abI];lia),fun H6 p6 s6 Yv e6=> ?_⟩
   refine⟨EK,p6,_,_,U,U,s6 _ _ UQ,e6, ?_, ?_⟩
   . rw[abG,abI,abI]
     exact abk (show _<=1000060 by lia) (by decide)
   refine⟨_,U, ?_⟩
   have e7:(bT Sw83.init (rs.take i)).map V.int++V.int (((List.map V.int (Sw83Neutral.out (Sw83.step (eE Sw83.init (rs.take i)) x).2)).length:Nat):Int)::List.map V.int (Sw83Neutral.out (Sw83.step (eE Sw83.init (rs.take i)) x).2)=(bT Sw83.init (rs.take (i+1))).map V.int:=by
    rw[take_snoc er,y3,Li,acX,abH,abI]
   rw[e7]
   refine⟨_,(by lia),i+1,some (.int ((((bO (rs.take i)).length:Nat):Int)+2)),some (.int ((((bO (rs.take i)).length:Nat):Int)+2+(r.length:Int))),some (.ref a),di,U, ?_, ?_, ?_,af⟩
   . rw[Th]
     rw[show(((bO (rs.take i)).length+2+r.length:Nat):Int)=(((bO (rs.take i)).length:Nat):Int)+2+(r.length:Int) by lia]
     rfl
   . exact(f5.same s6).upd (s6 _ _ UQ)
   have e8:eE Sw83.init (rs.take (i+1))=(Sw83.step (eE Sw83.init (rs.take i)) x).1:=by
    rw[take_snoc er,Ms,Li]
   rw[e8]
   exact(D5.same s6).W5 (by simp)
 have QE:i=rs.length:=by
  apply acp
  intro c
  have di:i<rs.length:=by lia
  obtain⟨r,er⟩:∃r,rs[i]?=some r:=⟨_,acf di⟩
  have pP:=zU er
  apply q
  apply decide_eq_true
  rw[pP,abX,abG]
  lia
 subst QE
 rw[ac3]at a3
 exact⟨_,U,k H3 EK a3⟩
end
structure qe(K:PySem.W.Frag)(x:Str)(st:Stmt):Prop where
 ex:∃f fd,eH K x x st f fd/\PySem.W.nsIn K mainGlobals x=some (some (.ref f))
structure m9(K:PySem.W.Frag)(C:Addr)(m qual:Str)(st:Stmt):Prop where
 ex:∃f fd,eH K m qual st f fd/\PySem.W.findIn K (.ref C) m=some (some (.ref f))/\PySem.W.isFn K (.ref f)=true
theorem bW{K:PySem.W.Frag}{x:Str}{st:Stmt}{f:Addr}{oc:Value}{od an:Option Addr}{B3:Array (Option Value)}{kV doc pm dz ct:Value}(a:PySem.W.nsIn K mainGlobals x=some (some (.ref f)))(l:K.lookup f=some ⟨oc,od, .func (PySem.W.fnOf x x (sg st) (oQ st) (ao st) .none kV doc pm an dz ct),B3⟩)
 (c:PySem.W.codeIn K dz x=true) (k:PySem.W.keepIn K (.ref f)=true):qe K x st:=⟨f,_,J7 l c k,a⟩
theorem bN{K:PySem.W.Frag}{C:Addr}{m qual:Str}{st:Stmt}{f:Addr}{oc:Value}{od an:Option Addr}{B3:Array (Option Value)}{kV doc pm dz ct:Value}(a:PySem.W.findIn K (.ref C) m=some (some (.ref f)))(i:PySem.W.isFn K (.ref f)=true)(l:K.lookup f=some ⟨oc,od, .func (PySem.W.fnOf m qual (sg st) (oQ st) (ao st) .none kV doc pm an dz ct),B3⟩)
 (c:PySem.W.codeIn K dz qual=true) (k:PySem.W.keepIn K (.ref f)=true):m9 K C m qual st:=⟨f,_,J7 l c k,a,i⟩
section
variable{K:PySem.W.Frag}{h:Heap}{mg:Str->Option Value}
theorem bF(P:Program)(w:World)(base:Heap){x:Str}{st:Stmt}{ps:List Str}{sp:Sp}{k:Nat}(X:K.In h)(G:h.Ns mainGlobals mg)(a:qe K x st)(ok:∀f fd,eH K x x st f fd->bq P w K mg base eD k f fd ps sp)(hb:∀f fd,eH K x x st f fd->Binds K fd ps []:=by first|exact(fun _ _ F=>F.binds fun _ _ _ _ _ _=>OM fun _=>rfl)|exact(fun _ _ F=>F.binds fun _ _ _ _ _ _=>Kr fun _ _=>rfl)|exact(fun _ _ F=>F.binds fun _ _ _ _ _ _=>y6 fun _ _ _=>rfl)|exact(fun _ _ F=>F.binds fun _ _ _ _ _ _=>ON fun _ _ _ _=>rfl)|exact(fun _ _ F=>F.binds fun _ _ _ _ _ _=>OO fun _ _ _ _ _=>rfl)|exact(fun _ _ F=>F.binds fun _ _ _ _ _ _=>OP fun _ _ _ _ _ _ _=>rfl)):FnAt P w K mg base k x ps sp:=by
 obtain⟨f,fd,F,e⟩:=a.ex
 exact⟨f,fd,ok f fd F,adk X G e,F.kp,hb f fd F⟩
theorem bG(P:Program)(w:World)(mg:Str->Option Value)(base:Heap){C:Addr}{m qual:Str}{st:Stmt}{ps:List Str}{sp:Sp}{k:Nat}(c:tm K C)(a:m9 K C m qual st)(ok:∀f fd,eH K m qual st f fd->bq P w K mg base eD k f fd ps sp)(hb:∀f fd,eH K m qual st f fd->Binds K fd ps []:=by first|exact(fun _ _ F=>F.binds fun _ _ _ _ _ _=>OM fun _=>rfl)|exact(fun _ _ F=>F.binds fun _ _ _ _ _ _=>Kr fun _ _=>rfl)|exact(fun _ _ F=>F.binds fun _ _ _ _ _ _=>y6 fun _ _ _=>rfl)|exact(fun _ _ F=>F.binds fun _ _ _ _ _ _=>ON fun _ _ _ _=>rfl)|exact(fun _ _ F=>F.binds fun _ _ _ _ _ _=>OO fun _ _ _ _ _=>rfl)|exact(fun _ _ F=>F.binds fun _ _ _ _ _ _=>OP fun _ _ _ _ _ _ _=>rfl)):MethAt P w K mg base k C m ps sp:=by
 obtain⟨f,fd,F,e,i⟩:=a.ex
 exact⟨f,fd,ok f fd F,⟨e,i,F.kp⟩,hb f fd F,c⟩
end
structure BY(K:PySem.W.Frag)(C:Addr):Prop where
 pg:PySem.W.plainGet K C Str.empty=true
 hd:PySem.W.hasDictIn K C=true
 po:PySem.W.plainOver K C=true
 sa:PySem.W.findIn K (.ref C) "__setattr__"=some (some (.builtin "object.__setattr__"))
 ma:PySem.W.makesIn K C=true
 kc:PySem.W.keepIn K (.ref C)=true
def C9(K:PySem.W.Frag)(C:Addr):List Str->Prop
 |[]=>True
 |f::fs=>PySem.W.findIn K (.ref C) f=some none/\C9 K C fs
def wq(K:PySem.W.Frag)(x:Str)(n:Int):Prop:=∃t,PySem.W.nsIn K mainGlobals x=some (some (.int n t))
theorem dN{K:PySem.W.Frag}{x:Str}{n:Int}{t:Tok}(e:PySem.W.nsIn K mainGlobals x=some (some (.int n t))):wq K x n:=⟨t,e⟩
def Yz(K:PySem.W.Frag):List Str->Prop
 |[]=>True
 |x::xs=>PySem.W.nsIn K mainGlobals x=some none/\Yz K xs
structure YA(K:PySem.W.Frag):Prop where
 ex:∃(an:Addr)(od:Option Addr)(n:Nat)(B3:Array (Option Value))(f0 f1 f2 f3 f4 f5 f6 f7 f8 f9 NS NT NU:Addr),PySem.W.nsIn K mainGlobals "ANSWERS"=some (some (.ref an))/\K.lookup an=some ⟨.type "tuple",od, .seq #[.ref f0, .ref f1, .ref f2, .ref f3, .ref f4, .ref f5, .ref f6, .ref f7, .ref f8, .ref f9, .ref NS, .ref NT, .ref NU] n,B3⟩/\PySem.W.nsIn K mainGlobals "answer_begins"=some (some (.ref f0))/\PySem.W.nsIn K mainGlobals "answer_border"=some (some (.ref f1))/\PySem.W.nsIn K mainGlobals "answer_product"=some (some (.ref f2))/\PySem.W.nsIn K mainGlobals "answer_stop"=some (some (.ref f3))/\PySem.W.nsIn K mainGlobals "answer_trip"=some (some (.ref f4))/\PySem.W.nsIn K mainGlobals "answer_walk"=some (some (.ref f5))/\PySem.W.nsIn K mainGlobals "answer_late"=some (some (.ref f6))/\PySem.W.nsIn K mainGlobals "answer_out"=some (some (.ref f7))/\PySem.W.nsIn K mainGlobals "answer_on"=some (some (.ref f8))/\PySem.W.nsIn K mainGlobals "answer_still"=some (some (.ref f9))/\PySem.W.nsIn K mainGlobals "answer_anew"=some (some (.ref NS))/\PySem.W.nsIn K mainGlobals "answer_price"=some (some (.ref NT))/\PySem.W.nsIn K mainGlobals "answer_where"=some (some (.ref NU))
theorem Qa{K:PySem.W.Frag}{an:Addr}{od:Option Addr}{n:Nat}{B3:Array (Option Value)}{f0 f1 f2 f3 f4 f5 f6 f7 f8 f9 NS NT NU:Addr}(e:PySem.W.nsIn K mainGlobals "ANSWERS"=some (some (.ref an)))(l:K.lookup an=some ⟨.type "tuple",od, .seq #[.ref f0, .ref f1, .ref f2, .ref f3, .ref f4, .ref f5, .ref f6, .ref f7, .ref f8, .ref f9, .ref NS, .ref NT, .ref NU] n,B3⟩)(e0:PySem.W.nsIn K mainGlobals "answer_begins"=some (some (.ref f0)))(e1:PySem.W.nsIn K mainGlobals "answer_border"=some (some (.ref f1)))(e2:PySem.W.nsIn K mainGlobals "answer_product"=some (some (.ref f2)))(e3:PySem.W.nsIn K mainGlobals "answer_stop"=some (some (.ref f3)))(e4:PySem.W.nsIn K mainGlobals "answer_trip"=some (some (.ref f4)))(e5:PySem.W.nsIn K mainGlobals "answer_walk"=some (some (.ref f5)))(e6:PySem.W.nsIn K mainGlobals "answer_late"=some (some (.ref f6)))(e7:PySem.W.nsIn K mainGlobals "answer_out"=some (some (.ref f7)))(e8:PySem.W.nsIn K mainGlobals "answer_on"=some (some (.ref f8)))(e9:PySem.W.nsIn K mainGlobals "answer_still"=some (some (.ref f9)))(OR:PySem.W.nsIn K mainGlobals "answer_anew"=some (some (.ref NS)))(Ti:PySem.W.nsIn K mainGlobals "answer_price"=some (some (.ref NT)))(Tj:PySem.W.nsIn K mainGlobals "answer_where"=some (some (.ref NU))):YA K:=⟨⟨an,od,n,B3,f0,f1,f2,f3,f4,f5,f6,f7,f8,f9,NS,NT,NU,e,l,e0,e1,e2,e3,e4,e5,e6,e7,e8,e9,OR,Ti,Tj⟩⟩
structure Qb(K:PySem.W.Frag)(A:Ad):Prop where
 Hs:PySem.W.nsIn K mainGlobals "Stop"=some (some (.ref A.Stop))
 Ht:PySem.W.nsIn K mainGlobals "Walk"=some (some (.ref A.Walk))
 Hu:PySem.W.nsIn K mainGlobals "Call"=some (some (.ref A.Call))
 Hv:PySem.W.nsIn K mainGlobals "Trip"=some (some (.ref A.Trip))
 Lj:PySem.W.nsIn K mainGlobals "Run"=some (some (.ref A.Run))
 vc:PySem.W.nsIn K mainGlobals "Timetable"=some (some (.ref A.aJ))
 zW:PySem.W.nsIn K mainGlobals "Product"=some (some (.ref A.Product))
 Hw:PySem.W.nsIn K mainGlobals "Ride"=some (some (.ref A.xy))
 EL:PySem.W.nsIn K mainGlobals "Offer"=some (some (.ref A.mS))
 xl:PySem.W.nsIn K mainGlobals "Purchase"=some (some (.ref A.bK))
 EM:PySem.W.nsIn K mainGlobals "Fares"=some (some (.ref A.c7))
 EN:PySem.W.nsIn K mainGlobals "Place"=some (some (.ref A.Place))
 Hx:PySem.W.nsIn K mainGlobals "Plan"=some (some (.ref A.Plan))
 EO:PySem.W.nsIn K mainGlobals "Reach"=some (some (.ref A.Reach))
 rR:PySem.W.nsIn K mainGlobals "LastMinutes"=some (some (.ref A.cV))
 vd:PySem.W.nsIn K mainGlobals "Traveller"=some (some (.ref A.aN))
 Hy:PySem.W.nsIn K mainGlobals "Desk"=some (some (.ref A.Desk))
 kd:BY K A.Stop
 dm:BY K A.Walk
 bw:BY K A.Call
 fo:BY K A.Trip
 je:BY K A.Run
 az:BY K A.aJ
 bL:BY K A.Product
 kh:BY K A.xy
 fA:BY K A.mS
 bV:BY K A.bK
 bI:BY K A.c7
 bJ:BY K A.Place
 iC:BY K A.Plan
 b8:BY K A.Reach
 cN:BY K A.cV
 aE:BY K A.aN
 bU:BY K A.Desk
 Hz:C9 K A.Stop ["change","zone"]
 HA:C9 K A.Walk ["start","end","minutes"]
 HB:C9 K A.Call ["stop","comes","goes"]
 HC:C9 K A.Trip ["days","calls","late_call","late_minutes"]
 Lk:C9 K A.Run ["trip","day","calls"]
 ve:C9 K A.aJ ["weekday","stops","walks","trips"]
 zX:C9 K A.Product ["any_zones","zones","price","minutes","begin","end"]
 HD:C9 K A.xy ["goes","comes","zones"]
 ER:C9 K A.mS ["price","ways","product"]
 xm:C9 K A.bK ["price","ways","tickets"]
 ES:C9 K A.c7 ["zones","borders","products"]
 ET:C9 K A.Place ["stop","minute","how"]
 HE:C9 K A.Plan ["minute","rides","legs"]
 EU:C9 K A.Reach ["timetable","there","ready"]
 rS:C9 K A.cV ["off","behind"]
 vf:C9 K A.aN ["place","goal","legs","rides_made"]
 HF:C9 K A.Desk ["fares","timetable","traveller"]
 d8:wq K "MINUTES_OF_DAY" (1440)
 gB:wq K "DAYS_OF_WEEK" (7)
 lI:wq K "MOST_STOPS" (10)
 lK:wq K "MOST_WALKS" (12)
 lL:wq K "MOST_TRIPS" (12)
 j9:wq K "MOST_CHANGE" (120)
 fi:wq K "MOST_WALK_MINUTES" (240)
 mT:wq K "MOST_DAYS" (127)
 i9:wq K "FEWEST_CALLS" (2)
 lM:wq K "MOST_CALLS" (64)
 ja:wq K "END_OF_TRIPS" (2880)
 gT:wq K "MOST_LATE_CALL" (63)
 fj:wq K "MOST_LATE_MINUTES" (240)
 jb:wq K "MOST_ZONES" (8)
 iz:wq K "MOST_PRODUCTS" (8)
 lN:wq K "MOST_PRICE" (1000000)
 jc:wq K "MOST_MINUTES" (1000000)
 jd:wq K "MOST_PERSONS" (9)
 yh:wq K "FRESH" (0)
 DZ:wq K "OFF" (1)
 ot:wq K "BEHIND" (2)
 vK:wq K "WALK" (-1)
 ka:wq K "NEVER" (1000000)
 gr:wq K "LAST_MINUTE_OUT" (2879)
 fm:wq K "MOST_RIDES_PRICED" (7)
 bl:Yz K ["len","range","min","max","list","enumerate","reversed","sorted"]
 zY:qe K "members" vO
 qf:qe K "member_count" mv
 zZ:qe K "has_all" vN
 mH:qe K "are_terms_right" jv
 z4:qe K "hull_of" vT
 kK:qe K "cheapest_purchase" ia
 qg:qe K "ready_minute" md
 rT:qe K "place_after" nD
 rV:qe K "minutes_off" nE
 xn:qe K "earliest" tT
 ng:qe K "last_boardings" jT
 qh:qe K "last_minutes" mm
 il:qe K "last_minutes_by_rides" fE
 sQ:qe K "first_walk" pH
 sR:qe K "first_ride" pI
 nh:qe K "first_call_off" jW
 sS:qe K "first_legs" pJ
 vg:qe K "find_plan" rC
 xo:qe K "ride_now" tW
 vh:qe K "rides_now" rD
 z5:qe K "written" wb
 qi:qe K "written_plan" mC
 oG:qe K "answer_begins" kW
 oH:qe K "answer_border" kX
 ni:qe K "answer_product" j6
 rW:qe K "answer_stop" nS
 rX:qe K "answer_trip" nV
 rY:qe K "answer_walk" nT
 rZ:qe K "answer_late" nU
 sT:qe K "answer_out" pY
 vi:qe K "answer_on" rQ
 qj:qe K "answer_still" mE
 r0:qe K "answer_anew" nW
 qk:qe K "answer_price" mG
 ql:qe K "answer_where" mF
 z6:qe K "answers" wo
 vj:m9 K A.Stop "__init__" "Stop.__init__" rf
 vk:m9 K A.Walk "__init__" "Walk.__init__" rg
 vm:m9 K A.Call "__init__" "Call.__init__" rh
 vn:m9 K A.Trip "__init__" "Trip.__init__" rE
 xp:m9 K A.Run "__init__" "Run.__init__" tN
 nj:m9 K A.aJ "__init__" "Timetable.__init__" jZ
 jG:m9 K A.aJ "add_stop" "Timetable.add_stop" gH
 jH:m9 K A.aJ "add_trip" "Timetable.add_trip" gK
 fg:m9 K A.aJ "are_calls_in_order" "Timetable.are_calls_in_order" dg
 jI:m9 K A.aJ "add_walk" "Timetable.add_walk" gI
 jB:m9 K A.aJ "tell_late" "Timetable.tell_late" gj
 jC:m9 K A.aJ "calls_now" "Timetable.calls_now" gh
 jJ:m9 K A.aJ "runs_now" "Timetable.runs_now" gF
 qm:m9 K A.Product "__init__" "Product.__init__" l9
 mI:m9 K A.Product "is_good" "Product.is_good" jw
 vq:m9 K A.xy "__init__" "Ride.__init__" rj
 sU:m9 K A.mS "__init__" "Offer.__init__" pz
 oI:m9 K A.bK "__init__" "Purchase.__init__" kQ
 sV:m9 K A.c7 "__init__" "Fares.__init__" pT
 lu:m9 K A.c7 "add_border" "Fares.add_border" iO
 iq:m9 K A.c7 "add_any_product" "Fares.add_any_product" fH
 hC:m9 K A.c7 "add_told_product" "Fares.add_told_product" eX
 kL:m9 K A.c7 "add_product" "Fares.add_product" hX
 iW:m9 K A.c7 "hangs_together" "Fares.hangs_together" fR
 kM:m9 K A.c7 "joined_sets" "Fares.joined_sets" h9
 mJ:m9 K A.c7 "offer_for" "Fares.offer_for" jy
 nq:m9 K A.c7 "cheapest" "Fares.cheapest" j3
 sW:m9 K A.Place "__init__" "Place.__init__" pA
 vt:m9 K A.Plan "__init__" "Plan.__init__" rk
 sX:m9 K A.Reach "__init__" "Reach.__init__" pG
 qo:m9 K A.Reach "arrive" "Reach.arrive" mj
 mK:m9 K A.Reach "walk_from" "Reach.walk_from" jn
 mL:m9 K A.Reach "ride_once" "Reach.ride_once" jo
 lx:m9 K A.cV "__init__" "LastMinutes.__init__" iI
 nr:m9 K A.aN "__init__" "Traveller.__init__" j0
 ly:m9 K A.aN "go_leg" "Traveller.go_leg" iN
 gv:m9 K A.aN "places_to_come" "Traveller.places_to_come" eB
 iX:m9 K A.aN "can_go_all" "Traveller.can_go_all" fP
 jD:m9 K A.aN "all_rides" "Traveller.all_rides" gi
 vv:m9 K A.Desk "__init__" "Desk.__init__" rO
 nu:m9 K A.Desk "begin_day" "Desk.begin_day" j4
 an:YA K
section
variable{P:Program}{w:World}{K:PySem.W.Frag}{h:Heap}{mg:Str->Option Value}{base:Heap}{A:Ad}
theorem cE(P:Program)(w:World)(base:Heap){C:Addr}{x qual:Str}{st:Stmt}{ps:List Str}{sp:Sp}{k:Nat}(a:m9 K C "__init__" qual st)(n:PySem.W.nsIn K mainGlobals x=some (some (.ref C)))(c:BY K C)(X:K.In h)(G:h.Ns mainGlobals mg)(ok:∀f fd,eH K "__init__" qual st f fd->bq P w K mg base eD k f fd ps sp)(hb:∀f fd,eH K "__init__" qual st f fd->Binds K fd ps []:=by first|exact(fun _ _ F=>F.binds fun _ _ _ _ _ _=>OM fun _=>rfl)|exact(fun _ _ F=>F.binds fun _ _ _ _ _ _=>Kr fun _ _=>rfl)|exact(fun _ _ F=>F.binds fun _ _ _ _ _ _=>y6 fun _ _ _=>rfl)|exact(fun _ _ F=>F.binds fun _ _ _ _ _ _=>ON fun _ _ _ _=>rfl)|exact(fun _ _ F=>F.binds fun _ _ _ _ _ _=>OO fun _ _ _ _ _=>rfl)|exact(fun _ _ F=>F.binds fun _ _ _ _ _ _=>OP fun _ _ _ _ _ _ _=>rfl)):eG P w K mg base k x C ps sp:=by
 obtain⟨f,fd,F,e,i⟩:=a.ex
 exact⟨f,fd,ok f fd F,⟨c.ma,e,i,c.kc⟩,hb f fd F,adk X G n⟩
theorem BY.cls {C:Addr} (a:BY K C):tm K C:=⟨a.pg,a.hd,a.po,a.sa⟩
theorem dO{x:Str}{n:Int}(X:K.In h)(G:h.Ns mainGlobals mg)(a:wq K x n):∃t,mg x=some (.int n t):=by
 obtain⟨t,e⟩:=a
 exact⟨t,adk X G e⟩
theorem Qc(X:K.In h)(G:h.Ns mainGlobals mg)(a:Qb K A):Txt K mg A:=by
 obtain⟨Tn,To,_⟩:=a.Hz
 obtain⟨Tp,Tq,Tr,_⟩:=a.HA
 obtain⟨Ts,Tv,Tw,_⟩:=a.HB
 obtain⟨Tx,Tz,TB,TC,_⟩:=a.HC
 obtain⟨Xs,Xt,Xu,_⟩:=a.Lk
 obtain⟨Gk,Gm,Gn,Gp,_⟩:=a.ve
 obtain⟨Ll,Lm,Ln,Lo,Lp,Lq,_⟩:=a.zX
 obtain⟨TF,TH,TJ,_⟩:=a.HD
 obtain⟨Qe,Qg,Qh,_⟩:=a.ER
 obtain⟨Jj,Jk,Jl,_⟩:=a.xm
 obtain⟨Qi,Qj,Qk,_⟩:=a.ES
 obtain⟨Ql,Qm,Qn,_⟩:=a.ET
 obtain⟨TK,TM,TN,_⟩:=a.HE
 obtain⟨Qo,Qp,Qq,_⟩:=a.EU
 obtain⟨C4,C5,_⟩:=a.rS
 obtain⟨Gq,Gr,Gs,Gu,_⟩:=a.vf
 obtain⟨TQ,TR,TU,_⟩:=a.HF
 obtain⟨b0,b1,b2,b3,b4,b5,b6,b7,_⟩:=a.bl
 exact⟨dO X G a.d8,dO X G a.gB,dO X G a.lI,dO X G a.lK,dO X G a.lL,dO X G a.j9,dO X G a.fi,dO X G a.mT,dO X G a.i9,dO X G a.lM,dO X G a.ja,dO X G a.gT,dO X G a.fj,dO X G a.jb,dO X G a.iz,dO X G a.lN,dO X G a.jc,dO X G a.jd,dO X G a.yh,dO X G a.DZ,dO X G a.ot,dO X G a.vK,dO X G a.ka,dO X G a.gr,dO X G a.fm,adl X G b0,adl X G b1,adl X G b2,adl X G b3,adl X G b4,adl X G b5,adl X G b6,adl X G b7,a.kd.cls,Tn,To,a.dm.cls,Tp,Tq,Tr,a.bw.cls,Ts,Tv,Tw,a.fo.cls,Tx,Tz,TB,TC,a.je.cls,Xs,Xt,Xu,a.az.cls,Gk,Gm,Gn,Gp,a.bL.cls,Ll,Lm,Ln,Lo,Lp,Lq,a.kh.cls,TF,TH,TJ,a.fA.cls,Qe,Qg,Qh,a.bV.cls,Jj,Jk,Jl,a.bI.cls,Qi,Qj,Qk,a.bJ.cls,Ql,Qm,Qn,a.iC.cls,TK,TM,TN,a.b8.cls,Qo,Qp,Qq,a.cN.cls,C4,C5,a.aE.cls,Gq,Gr,Gs,Gu,a.bU.cls,TQ,TR,TU⟩
theorem Qr(X:K.In h)(G:h.Ns mainGlobals mg){fa:Addr}(Xv:mg "answers"=some (.ref fa))(a:Qb K A):
 ∃fd:FuncData,(∀(s:Shared)(us:List Value),us.length=(["calls"]:List Str).length->BindsTo s fd ⟨us,[]⟩ ((["calls"]:List Str).zip us))/\∀base:Heap,K.In base->base.Ns mainGlobals mg->bq P w K mg base eD 10 fa fd ["calls"] (sy K):=by
 have T:=Qc X G a
 obtain⟨f,fd,F,e⟩:=a.z6.ex
 have e:=Xv.symm.trans (adk X G e)
 cases e
 refine⟨fd,fun s us hu=> ?_,fun base _ _=> ?_⟩
 . obtain⟨oc,od,kV,doc,pm,an,dz,ct,B3,rfl,lk,Ls⟩:=F.ex
   exact match us,hu with|[_],_=> .of_eq rfl
 have dH:=bF P w base X G a.zY fun _ _ F=>FE F T
 have fG:=bF P w base X G a.qf fun _ _ F=>xJ F T dH
 have gf:=bF P w base X G a.zZ fun _ _ F=>FD F
 have jx:=bF P w base X G a.mH fun _ _ F=>t7 F T
 have vX:=bF P w base X G a.z4 fun _ _ F=>FV F T gf fG
 have j1:=cE P w base a.oI a.xl a.bV X G fun _ _ F=>vM F T
 have ic:=bF P w base X G a.kK fun _ _ F=>rK F T dH gf j1
 have cO:=bF P w base X G a.qg fun _ _ F=>xD F T
 have pF:=cE P w base a.sW a.EN a.bJ X G fun _ _ F=>As F T
 have vP:=cE P w base a.vm a.Hu a.bw X G fun _ _ F=>Cu F T
 have bx:=bG P w mg base a.az.cls a.jC fun _ _ F=>pE F T vP
 have du:=bF P w base X G a.rT fun _ _ F=>zc F T pF bx cO
 have nG:=bF P w base X G a.rV fun _ _ F=>zd F T
 have cP:=bG P w mg base a.b8.cls a.qo fun _ _ F=>xF F T
 have dG:=bG P w mg base a.b8.cls a.mK fun _ _ F=>tR F T cP
 have CF:=cE P w base a.sX a.EO a.b8 X G fun _ _ F=>Aw F T cP dG cO
 have jq:=bG P w mg base a.b8.cls a.mL fun _ _ F=>tS F T cP dG nG
 have tV:=bF P w base X G a.xn fun _ _ F=>Ec F T CF jq
 have jV:=bF P w base X G a.ng fun _ _ F=>uO F T
 have nH:=cE P w base a.lx a.rR a.cN X G fun _ _ F=>sD F T
 have jr:=bF P w base X G a.qh fun _ _ F=>xG F T nH
 have fF:=bF P w base X G a.il fun _ _ F=>nI F T jr jV
 have pK:=bF P w base X G a.sQ fun _ _ F=>Ax F T
 have jX:=bF P w base X G a.nh fun _ _ F=>uP F T
 have pL:=bF P w base X G a.sR fun _ _ F=>Az F T cO jX
 have pM:=bF P w base X G a.sS fun _ _ F=>AA F T pK pL du
 have Ku:=cE P w base a.xp a.Lj a.je X G fun _ _ F=>D7 F T
 have gG:=bG P w mg base a.az.cls a.jJ fun _ _ F=>qp F T Ku bx
 have FO:=cE P w base a.vt a.Hx a.iC X G fun _ _ F=>Cz F T
 have iV:=bF P w base X G a.vg fun _ _ F=>CJ F T gG tV fF pM FO
 have FQ:=cE P w base a.vq a.Hw a.kh X G fun _ _ F=>Cw F T
 have tY:=bF P w base X G a.xo fun _ _ F=>Eg F T bx FQ
 have iU:=bF P w base X G a.vh fun _ _ F=>CK F T tY
 have bQ:=bF P w base X G a.z5 fun _ _ F=>F8 F T
 have fK:=bF P w base X G a.qi fun _ _ F=>xN F T bQ
 have CW:=cE P w base a.sV a.EM a.bI X G fun _ _ F=>AE F T
 have rN:=cE P w base a.nj a.vc a.az X G fun _ _ F=>uW F T
 have d9:=bG P w mg base a.bU.cls a.nu fun _ _ F=>u9 F T CW rN
 have xS:=bF P w base X G a.oG fun _ _ F=>wd F T d9
 have iP:=bG P w mg base a.bI.cls a.lu fun _ _ F=>sG F T
 have xT:=bF P w base X G a.oH fun _ _ F=>wg F T iP
 have vW:=cE P w base a.qm a.zW a.bL X G fun _ _ F=>xB F T
 have cS:=bG P w mg base a.bI.cls a.kL fun _ _ F=>rG F T jx vW
 have fJ:=bG P w mg base a.bI.cls a.iq fun _ _ F=>nR F T cS
 have eZ:=bG P w mg base a.bI.cls a.hC fun _ _ F=>mO F T cS
 have wu:=bF P w base X G a.ni fun _ _ F=>va F T fJ eZ
 have FR:=cE P w base a.vj a.Hs a.kd X G fun _ _ F=>Cq F T
 have gO:=bG P w mg base a.az.cls a.jG fun _ _ F=>qt F T FR
 have AK:=bF P w base X G a.rW fun _ _ F=>zH F T gO
 have FU:=cE P w base a.vn a.Hv a.fo X G fun _ _ F=>CM F T
 have dh:=bG P w mg base a.az.cls a.fg fun _ _ F=>jE F T
 have gQ:=bG P w mg base a.az.cls a.jH fun _ _ F=>qx F T FU dh
 have AL:=bF P w base X G a.rX fun _ _ F=>zM F T vP gQ
 have FT:=cE P w base a.vk a.Ht a.dm X G fun _ _ F=>Cs F T
 have gP:=bG P w mg base a.az.cls a.jI fun _ _ F=>qv F T FT
 have AM:=bF P w base X G a.rY fun _ _ F=>zJ F T gP
 have gk:=bG P w mg base a.az.cls a.jB fun _ _ F=>pS F T
 have AN:=bF P w base X G a.rZ fun _ _ F=>zL F T gk
 have rP:=cE P w base a.nr a.vd a.aE X G fun _ _ F=>u1 F T
 have C6:=bF P w base X G a.sT fun _ _ F=>AJ F T pF iV rP fK
 have iQ:=bG P w mg base a.aE.cls a.ly fun _ _ F=>sE F T du iU
 have EV:=bF P w base X G a.vi fun _ _ F=>C2 F T iQ bQ
 have bM:=bG P w mg base a.aE.cls a.gv fun _ _ F=>lQ F T du
 have z7:=bF P w base X G a.qj fun _ _ F=>xO F T bM bQ
 have AO:=bF P w base X G a.r0 fun _ _ F=>zS F T iV fK
 have fT:=bG P w mg base a.aE.cls a.iX fun _ _ F=>oB F T bM
 have gm:=bG P w mg base a.aE.cls a.jD fun _ _ F=>pR F T iU
 have fS:=bG P w mg base a.bI.cls a.iW fun _ _ F=>oC F T dH
 have ib:=bG P w mg base a.bI.cls a.kM fun _ _ F=>rH F T fS fG
 have jz:=bG P w mg base a.bL.cls a.mI fun _ _ F=>t8 F T gf
 have CU:=cE P w base a.sU a.EL a.fA X G fun _ _ F=>Ap F T
 have jA:=bG P w mg base a.bI.cls a.mJ fun _ _ F=>t9 F T jz vX CU
 have j7:=bG P w mg base a.bI.cls a.nq fun _ _ F=>u6 F T ib jA dH ic j1
 have z9:=bF P w base X G a.qk fun _ _ F=>xQ F T fT gm j7 bQ
 have Aa:=bF P w base X G a.ql fun _ _ F=>xP F T bQ
 have Gj:=cE P w base a.vv a.Hy a.bU X G fun _ _ F=>CZ F T d9
 obtain⟨an,od,n,B3,f0,f1,f2,f3,f4,f5,f6,f7,f8,f9,NS,NT,NU,ea,el,e0,e1,e2,e3,e4,e5,e6,e7,e8,e9,OR,Ti,Tj⟩:=a.an.ex
 refine Gi F T Gj bQ (an:=an) (fs:=[f0,f1,f2,f3,f4,f5,f6,f7,f8,f9,NS,NT,NU]) (adk X G ea) (fun H=> .inr ⟨_,_,_,el,rfl,rfl,Ud, ?_⟩) (fun code hc=> ?_)
 . exact(.cons rfl (.cons rfl (.cons rfl (.cons rfl (.cons rfl (.cons rfl (.cons rfl (.cons rfl (.cons rfl (.cons rfl (.cons rfl (.cons rfl (.cons rfl .nil)))))))))))))
 rcases code with _|_|_|_|_|_|_|_|_|_|_|_|_|code
 . obtain⟨g,gd,ok,hm,hk,hb⟩:=xS.ex
   have e':=hm.symm.trans (adk X G e0)
   cases e'
   exact⟨_,4,gd,U,(by lia),ok,hk,hb⟩
 . obtain⟨g,gd,ok,hm,hk,hb⟩:=xT.ex
   have e':=hm.symm.trans (adk X G e1)
   cases e'
   exact⟨_,2,gd,U,(by lia),ok,hk,hb⟩
 . obtain⟨g,gd,ok,hm,hk,hb⟩:=wu.ex
   have e':=hm.symm.trans (adk X G e2)
   cases e'
   exact⟨_,5,gd,U,(by lia),ok,hk,hb⟩
 . obtain⟨g,gd,ok,hm,hk,hb⟩:=AK.ex
   have e':=hm.symm.trans (adk X G e3)
   cases e'
   exact⟨_,4,gd,U,(by lia),ok,hk,hb⟩
 . obtain⟨g,gd,ok,hm,hk,hb⟩:=AL.ex
   have e':=hm.symm.trans (adk X G e4)
   cases e'
   exact⟨_,4,gd,U,(by lia),ok,hk,hb⟩
 . obtain⟨g,gd,ok,hm,hk,hb⟩:=AM.ex
   have e':=hm.symm.trans (adk X G e5)
   cases e'
   exact⟨_,4,gd,U,(by lia),ok,hk,hb⟩
 . obtain⟨g,gd,ok,hm,hk,hb⟩:=AN.ex
   have e':=hm.symm.trans (adk X G e6)
   cases e'
   exact⟨_,2,gd,U,(by lia),ok,hk,hb⟩
 . obtain⟨g,gd,ok,hm,hk,hb⟩:=C6.ex
   have e':=hm.symm.trans (adk X G e7)
   cases e'
   exact⟨_,7,gd,U,(by lia),ok,hk,hb⟩
 . obtain⟨g,gd,ok,hm,hk,hb⟩:=EV.ex
   have e':=hm.symm.trans (adk X G e8)
   cases e'
   exact⟨_,7,gd,U,(by lia),ok,hk,hb⟩
 . obtain⟨g,gd,ok,hm,hk,hb⟩:=z7.ex
   have e':=hm.symm.trans (adk X G e9)
   cases e'
   exact⟨_,6,gd,U,(by lia),ok,hk,hb⟩
 . obtain⟨g,gd,ok,hm,hk,hb⟩:=AO.ex
   have e':=hm.symm.trans (adk X G OR)
   cases e'
   exact⟨_,7,gd,U,(by lia),ok,hk,hb⟩
 . obtain⟨g,gd,ok,hm,hk,hb⟩:=z9.ex
   have e':=hm.symm.trans (adk X G Ti)
   cases e'
   exact⟨_,7,gd,U,(by lia),ok,hk,hb⟩
 . obtain⟨g,gd,ok,hm,hk,hb⟩:=Aa.ex
   have e':=hm.symm.trans (adk X G Tj)
   cases e'
   exact⟨_,2,gd,U,(by lia),ok,hk,hb⟩
 exfalso
 lia
theorem Nn{a0 a1 a2 a3 a4 a5 a6 a7 a8 a9 a10 a11 a12 a13 a14 a15 a16:Addr}(X:K.In h)(G:h.Ns mainGlobals mg){fa:Addr}(Xv:mg "answers"=some (.ref fa))(a:Qb K ⟨a0,a1,a2,a3,a4,a5,a6,a7,a8,a9,a10,a11,a12,a13,a14,a15,a16⟩):
 ∃fd:FuncData,(∀(s:Shared)(us:List Value),us.length=(["calls"]:List Str).length->BindsTo s fd ⟨us,[]⟩ ((["calls"]:List Str).zip us))/\∀base:Heap,K.In base->base.Ns mainGlobals mg->bq P w K mg base eD 10 fa fd ["calls"] (sy K):=Qr X G Xv a
theorem Qs{H:Hp}{cl:Addr}{xs:List V}(hO:Bj H)(h:aW K H cl xs):∀H',xR H H'->aW K H' cl xs:=fun H' f=>by
 rcases h with(h|⟨o,h⟩)|h
 . rcases hO cl with q|⟨o,u,q⟩
   . rw[q]at h
     cases h
   rw[q]at h
   cases h
 . exact .inl (.inr ⟨o,f _ _ _ h⟩)
 exact .inr h
end
end Td
namespace PySem.W.Fast
def tw11629631671738629630:=Nat
def tw10263673254386431828:=Nat
def tw752173641473240283:=Nat
def tw1971373267363359541:=Nat
def tw11915766713563972124:=Nat
def tw8921613401446534872:=Nat
def tw13891981402311989062:=Nat
def tw1733743978624045200:=Nat
def tw8752869096009306477:=Nat
def tw7420377446665132903:=Nat
def tw17418723615240140227:=Nat
def tw4315298274070989275:=Nat
def tw5528548319251547654:=Nat
def tw11022854232999992016:=Nat
def tw18337970274044394637:=Nat
def tw4457916755045340475:=Nat
def tw17853908552719874210:=Nat
def tw11701079698016180837:=Nat
def tw7683876439195179713:=Nat
def tw7839051993781891096:=Nat
def tw9357155954010923914:=Nat
def tw16485847617531179216:=Nat
def tw3186906568563662805:=Nat
def tw2284133048738805976:=Nat
def tw5687949796751599905:=Nat
def tw6561383904584303790:=Nat
def tw15264296894848006396:=Nat
def tw2844742827103695526:=Nat
def tw14811307519292209290:=Nat
def tw5443070514046065578:=Nat
def tw12513640461603869466:=Nat
def tw12089943746118391679:=Nat
def tw14496270100991268377:=Nat
def tw10854395974177894556:=Nat
def tw658335391059304110:=Nat
def tw12003268943314374995:=Nat
def tw9634923366767479439:=Nat
def tw13308566190541412284:=Nat
def tw2012265104693102987:=Nat
def tw1392574639477108267:=Nat
def tw4734173844879974230:=Nat
def tw10648659167584053990:=Nat
def tw2132558593555001426:=Nat
def tw14987274053813109207:=Nat
def tw7044719019389420536:=Nat
def tw14711236315153050648:=Nat
def tw5565094792582889567:=Nat
def tw17300993182574970372:=Nat
def tw14380844923864860328:=Nat
def tw525779940760297963:=Nat
def tw2545217787245467458:=Nat
def tw6822027541780942582:=Nat
def tw4932905228631272513:=Nat
def tw17780709647169618237:=Nat
def tw3600767212803171308:=Nat
def tw3521932361024418764:=Nat
def tw5098666372277801543:=Nat
def tw12079303552917851226:=Nat
def tw10515819834212123343:=Nat
def tw724342107395504674:=Nat
def tw12241768792760524608:=Nat
def tw11872295871054548575:=Nat
def tw18302107771034649827:=Nat
def tw4793411529124907410:=Nat
def tw9215887162897341783:=Nat
def tw17293273296036723196:=Nat
def tw14520252096503764400:=Nat
def tw5038727240453935063:=Nat
def tw18143837958047778094:=Nat
def tw7508516760132681066:=Nat
def tw7342909170381754396:=Nat
def tw2100833216845488966:=Nat
def tw9323529911851429629:=Nat
def tw7035204908308238153:=Nat
def tw3801712980706402447:=Nat
def tw1747414878436459933:=Nat
def tw16153196374002374543:=Nat
def tw16132154053666858162:=Nat
def tw14201918072454082936:=Nat
def tw5505279381890814742:=Nat
def tw11044108865894353166:=Nat
def tw5174861829592011481:=Nat
def tw4569673419548244139:=Nat
def tw871239362945429822:=Nat
def tw3125835230087507897:=Nat
def tw6086991037972252119:=Nat
def tw13118863223970979394:=Nat
def tw2879079249783665007:=Nat
def tw1687646895431117234:=Nat
def tw4298940354316919888:=Nat
def tw3420745607044859064:=Nat
def tw15933524257194115891:=Nat
def tw3996362406122338945:=Nat
def tw2518712801183532041:=Nat
def tw9726277528430973337:=Nat
def tw8131583143127111552:=Nat
def tw10440954251981096969:=Nat
def tw2127099606722588553:=Nat
def tw8540572873793003095:=Nat
def tw17236289212285270200:=Nat
def tw17046491496497760239:=Nat
def tw12054076183290620565:=Nat
def tw100734403147702354:=Nat
def tw11030965480779995169:=Nat
def tw5610343662923095141:=Nat
def tw16992765537842055012:=Nat
def tw7329208810326039791:=Nat
def tw16344702157207720178:=Nat
def tw1556795481178241657:=Nat
def tw13476176255190642717:=Nat
def tw11951523344312795552:=Nat
def tw16477603658014137709:=Nat
def tw1679414337156127376:=Nat
def tw5022341503721373186:=Nat
def tw2900868895867517111:=Nat
def tw14586601639990994720:=Nat
def tw11919889883297196311:=Nat
def tw8336499665381409649:=Nat
def tw13040587364382138053:=Nat
def tw9062121869921534400:=Nat
def tw8420888648527445531:=Nat
def tw18361942509441163428:=Nat
def tw6395091266911786375:=Nat
def tw3380687967263235369:=Nat
def tw1335393959974960227:=Nat
def tw2480288481822614706:=Nat
def tw3379482089712057636:=Nat
def tw4331492100595688122:=Nat
def tw17122879405668912806:=Nat
def tw17248742010782016513:=Nat
def tw12269987064853628999:=Nat
def tw16535721855100218913:=Nat
def tw17440980549349787676:=Nat
def tw15630104299863086477:=Nat
def tw10845946318923658506:=Nat
def tw13078326787345647088:=Nat
def tw6908889115295358906:=Nat
def tw4069099196456509151:=Nat
def tw9991984340500341959:=Nat
def tw38424161093725744:=Nat
def tw11530874507167767972:=Nat
def tw15832103132141748572:=Nat
def tw17738207217459154923:=Nat
def tw16630079623730954477:=Nat
def tw4689337081337228592:=Nat
def tw5449547317878961794:=Nat
def tw13388056910613358124:=Nat
def tw15100106182271655608:=Nat
def tw2902175684014590026:=Nat
def tw16106920072255273394:=Nat
def tw2459278237154175944:=Nat
def tw6964814032201180803:=Nat
def tw2703438515345115390:=Nat
def tw12905075440607979902:=Nat
def tw16203238953080906727:=Nat
def tw10504272096225180222:=Nat
def tw622703384240321286:=Nat
def tw7657336611940120180:=Nat
def tw8550875925964277947:=Nat
def tw12196987530997319329:=Nat
def tw8802971312528200483:=Nat
def tw11098489582030287144:=Nat
def tw15325956732595855982:=Nat
def tw6821934753194896378:=Nat
def tw17268070723802490208:=Nat
def tw4072975785289006181:=Nat
def tw15158544764890350181:=Nat
def tw3029285669601881091:=Nat
def tw16042494555798215685:=Nat
def tw4523549594229263174:=Nat
def tw16505498472173109884:=Nat
def tw15559908394290168228:=Nat
def tw18057208867210890453:=Nat
def tw15216513418610618631:=Nat
def tw4514602993462845961:=Nat
def tw12860864019243130056:=Nat
def tw14995502933622297165:=Nat
def tw18092171651009370913:=Nat
def tw17396289235612221531:=Nat
def tw3826853819634085886:=Nat
def tw138019462252298628:=Nat
def tw17936584552437199745:=Nat
def tw14212662538425957832:=Nat
def tw9859088525229471758:=Nat
def tw1161308937923552813:=Nat
def tw7004236529155194659:=Nat
def tw6429242633209558508:=Nat
def tw3198853200413895691:=Nat
def tw17288783986682624168:=Nat
def tw1065410261199274246:=Nat
def tw17219074253206628029:=Nat
def tw8403672553886862926:=Nat
def tw11861034317435946719:=Nat
def tw9479554842554393144:=Nat
def tw4343207437942699531:=Nat
def tw16381916230183954483:=Nat
def tw7943930271569840017:=Nat
def tw4608316120560922702:=Nat
def tw8016791466910564445:=Nat
def tw12345404613126651657:=Nat
def tw17406694672357143880:=Nat
def tw12923962313213099641:=Nat
def tw3515039856888655413:=Nat
def tw11697402918045121806:=Nat
def tw13165593339655167258:=Nat
def tw6506350628826525047:=Nat
def tw9021393263214477238:=Nat
def tw4665095171802827285:=Nat
def tw5499517067878220151:=Nat
def tw4496587050060743029:=Nat
def tw5702936952949134105:=Nat
def tw3990044052066847107:=Nat
def tw3878071283563613607:=Nat
def tw10367919299723516473:=Nat
def tw17624173689846467432:=Nat
def tw11905600336673114323:=Nat
def tw17039423677372481453:=Nat
def tw10333805870878539370:=Nat
def tw17143752338775346464:=Nat
def tw1787367876956228493:=Nat
def tw2433143295774335574:=Nat
def tw8892945314900016124:=Nat
def tw15423136218659561124:=Nat
def tw14596828719559889656:=Nat
def tw14541892712853925161:=Nat
def tw13625246121679431369:=Nat
def tw3778836517553779888:=Nat
def tw16109019403276682325:=Nat
def tw7536006747981454426:=Nat
def tw12304821185403940108:=Nat
def tw10719786257663308703:=Nat
def tw7985644128692418801:=Nat
def tw7976825349748777175:=Nat
def tw7418130725438052417:=Nat
def tw14226932152616020216:=Nat
def tw2125465019778878406:=Nat
def tw17805259170127374729:=Nat
def tw7565143438581381772:=Nat
def tw16756572937043236172:=Nat
def tw4013111268367698084:=Nat
def tw4399048672367937583:=Nat
def tw13707581353416560755:=Nat
def tw5957024832555502429:=Nat
def tw5490936443501569576:=Nat
def tw12075624089480976900:=Nat
def tw11770474842240432657:=Nat
def tw8198964034423235244:=Nat
def tw412695143005317504:=Nat
def tw5976849499673267518:=Nat
def tw2559074670599028873:=Nat
def tw17954755927600162211:=Nat
def tw16736059861145099741:=Nat
def tw5510366520031688228:=Nat
def tw16102430432085536386:=Nat
def tw18266075436877187153:=Nat
def tw16830752195173076917:=Nat
def tw4666682701896489582:=Nat
def tw9683038883286242969:=Nat
def tw8216672188465007665:=Nat
def tw12237312757937481928:=Nat
def tw18437785754435216896:=Nat
def tw2002373975838931580:=Nat
def tw16540369611051979751:=Nat
def tw12924950693076202482:=Nat
def tw3908484818760191603:=Nat
def tw3322495180449983702:=Nat
def tw15392237477635393205:=Nat
def tw12333504826238538198:=Nat
def tw10269839739982674909:=Nat
def tw13727828368130803632:=Nat
def tw9895946735706886272:=Nat
def tw2314440492307269234:=Nat
def tw17140126471736258807:=Nat
def tw14152423919900442167:=Nat
def tw13407201836529749703:=Nat
def tw17588110380958800240:=Nat
def tw15678963575928799786:=Nat
def tw15289847751698291553:=Nat
def tw1622628641874112468:=Nat
def tw11588356574594067765:=Nat
def tw1866484317419565290:=Nat
def tw16054943370537948801:=Nat
def tw14307194774933754974:=Nat
def tw1355309728262849355:=Nat
def tw7068132683843597932:=Nat
def tw1243494389191638648:=Nat
def tw6237769610433328478:=Nat
def tw16022672126183545989:=Nat
def tw12112620074253626138:=Nat
def tw4398186322449613182:=Nat
def tw18151854396722436819:=Nat
def tw6777386504590464007:=Nat
def tw4220706865741440792:=Nat
def tw17900290724171083291:=Nat
def tw8282476552359413325:=Nat
def tw6633011042180370295:=Nat
def tw14901697204865767647:=Nat
def tw12312941416660479993:=Nat
def tw12416760854833994535:=Nat
def tw5415792755240325625:=Nat
def tw18369636485619017902:=Nat
def tw15165808468937377804:=Nat
def tw985250817841474307:=Nat
def tw6472033933743162793:=Nat
def tw2885580437034779126:=Nat
def tw893952387430721521:=Nat
def tw15236573855878357849:=Nat
def tw9868924155812850720:=Nat
def tw3781967181026986389:=Nat
def tw16607335242392471262:=Nat
def tw7382817115088399775:=Nat
def tw10035801369939284953:=Nat
def tw14452200931762001480:=Nat
def tw17514260790968691841:=Nat
def tw7032501756867763733:=Nat
def tw505074043137494757:=Nat
def tw12748102005551239769:=Nat
def tw6375728933692503098:=Nat
def tw11347190489032382406:=Nat
def tw7552763397414728649:=Nat
def tw17101765720110850799:=Nat
def tw17707131379907791294:=Nat
def tw11116263325214891592:=Nat
def tw6200938999100763176:=Nat
def tw13518928747996581676:=Nat
def tw17114609627893368013:=Nat
def tw10186963565721057409:=Nat
def tw8165790386782285689:=Nat
def tw4208029492721591573:=Nat
def tw4004807783519640936:=Nat
def tw2509686904628923160:=Nat
def tw13958576339798537106:=Nat
def tw15956877242594524998:=Nat
def tw8601744330632403289:=Nat
def tw4535917766743646666:=Nat
def tw18303511308387920427:=Nat
def tw9574721680610332818:=Nat
def tw523530286411830701:=Nat
def tw506632276110060324:=Nat
def tw16964350990832281145:=Nat
def tw10273997895382765855:=Nat
def tw2973966928904119542:=Nat
def tw6715096724667280515:=Nat
def tw17540807403241480453:=Nat
def tw7869313746134445835:=Nat
def tw8852820682678774790:=Nat
def tw1611274573224252843:=Nat
def tw1103025257802841327:=Nat
def tw16159705697116377707:=Nat
def tw2896084797607769107:=Nat
def tw15864981078540117034:=Nat
def tw13609110228684678663:=Nat
def tw9632023713797445878:=Nat
def tw8257413897603856591:=Nat
def tw7501350216154005066:=Nat
def tw10223188252373836811:=Nat
def tw2245003711913652143:=Nat
def tw1085738398666940796:=Nat
def tw6601146041923304792:=Nat
def tw9986398947337997570:=Nat
def tw3527282599335721076:=Nat
def tw17163116636233495692:=Nat
def tw16374393458438283347:=Nat
def tw743997430402470411:=Nat
def tw13826177320148765259:=Nat
def tw8031926215017953793:=Nat
def tw5733330556862787219:=Nat
def tw2601750475157623199:=Nat
def tw14087076810420379942:=Nat
def tw5522756525331591594:=Nat
def tw8401408271525039955:=Nat
def tw1926345030375005317:=Nat
def tw15051826004085335976:=Nat
def tw8008057078690246963:=Nat
def tw13871297534443312828:=Nat
def tw11544689876725152398:=Nat
def tw16508721972164055691:=Nat
def tw9859360500595888188:=Nat
def tw5595819514084980466:=Nat
def tw10557875275502721690:=Nat
def tw5759114735029921050:=Nat
def tw3423873211136479234:=Nat
def tw15381163955002563949:=Nat
def tw15897412169089139735:=Nat
def tw930693107223758595:=Nat
def tw11223646064912368807:=Nat
def tw16039620906866004207:=Nat
def tw1966839815053352856:=Nat
def tw10316168878509175007:=Nat
def tw17360735149333746945:=Nat
def tw125378657974772775:=Nat
def tw14259738111084560137:=Nat
def tw18263709532637150584:=Nat
def tw17582549262442799709:=Nat
def tw7308346992427023785:=Nat
def tw6606947333086111269:=Nat
def tw17373518416388537449:=Nat
def tw15535181077408665657:=Nat
def tw399475123055154656:=Nat
def tw16169496552228942791:=Nat
def tw3148969667780010505:=Nat
def tw1731138979631317028:=Nat
def tw14979724802682284244:=Nat
def tw9145582077992640594:=Nat
def tw6979069326528900435:=Nat
def tw6034082438147803377:=Nat
def tw5982459676347674948:=Nat
def tw17649023969810950414:=Nat
def tw13695666438738585912:=Nat
def tw1206450363900657329:=Nat
def tw14497089946230199623:=Nat
def tw3799129509631618108:=Nat
def tw17705099648868771041:=Nat
def tw15794045959001108979:=Nat
def tw17913932603533713816:=Nat
def tw1224141932086739522:=Nat
def tw6446120488425082885:=Nat
def tw18320436652449556119:=Nat
def tw11730967391566464657:=Nat
def tw3615917273389632105:=Nat
def tw756063677733178779:=Nat
def tw11985551385555472299:=Nat
def tw6851864121696124951:=Nat
def tw7656916770974940466:=Nat
def tw5185445477911763434:=Nat
def tw4548149383234686791:=Nat
def tw3347137735292715820:=Nat
def tw8779289336320095545:=Nat
def tw15202172193325758893:=Nat
def tw16772755789838377552:=Nat
def tw6518822652790526640:=Nat
def tw4218302226960877201:=Nat
def tw7104420347287593646:=Nat
def tw2974369583423630115:=Nat
def tw17041982764658880513:=Nat
def tw1570247230457771454:=Nat
def tw14641519583990656512:=Nat
def tw9898003742921951644:=Nat
def tw7350291652881698380:=Nat
def tw7251632720686594985:=Nat
def tw6659607323229024838:=Nat
def tw5357476208536078616:=Nat
def tw3834563521835003624:=Nat
def tw2869029855987986788:=Nat
def tw280692545942499873:=Nat
def tw2033701032785234755:=Nat
def tw17917949733983807197:=Nat
def tw17508060977803279095:=Nat
def tw17497375670616756284:=Nat
def tw13993964757419316469:=Nat
def tw13784573334537129261:=Nat
def tw12992956770367199333:=Nat
def tw12445555342120922278:=Nat
def tw1172522256054838674:=Nat
def tw11626762709873904096:=Nat
def tw5975749465555572673:=Nat
def tw2603340135196132953:=Nat
def tw15569877703499533992:=Nat
def tw12859061752647724037:=Nat
def tw10161918411293162741:=Nat
def tw9571260849005947554:=Nat
def tw9543569475678612911:=Nat
def tw7958417641049363911:=Nat
def tw1770221987746436849:=Nat
def tw15254197461578293762:=Nat
def tw9899054981451940976:=Nat
def tw9352053591939009645:=Nat
def tw7177772465082606619:=Nat
def tw6033855105382220728:=Nat
def tw16363419302513343722:=Nat
def tw10292142832033462669:=Nat
def tw7190973739982094777:=Nat
def tw2273894174959464723:=Nat
def tw15632181058147493927:=Nat
def tw1516542196440711419:=Nat
def tw14843482414389862028:=Nat
def tw7615432661127077070:=Nat
def tw5250774915316613066:=Nat
def tw9692833392367785894:=Nat
def tw9657470479011636496:=Nat
def tw9005999490768745324:=Nat
def tw735671826938788536:=Nat
def tw695196105033371359:=Nat
def tw6738205811547083494:=Nat
def tw4734579791848424735:=Nat
def tw4395989714348756471:=Nat
def tw3266538105634806215:=Nat
def tw3264800291943144781:=Nat
def tw18343623381585612554:=Nat
def tw18215585910402133650:=Nat
def tw17204807418281019963:=Nat
def tw1685669391003041077:=Nat
def tw14463170585421107808:=Nat
def tw10818104432079709777:=Nat
def tw10100645625553551898:=Nat
def tw9652063347748237585:=Nat
def tw9039950921524318662:=Nat
def tw6107080241337734485:=Nat
def tw3139347436145771870:=Nat
def tw106820466168775388:=Nat
def tw8471263282378990700:=Nat
def tw3585388592661705634:=Nat
def tw15845058273441574402:=Nat
def tw16510855945541224750:=Nat
def tw9156433901418638209:=Nat
def tw7875267086297512066:=Nat
def tw7390196265975246245:=Nat
def tw6407397984828888092:=Nat
def tw5064402717127115497:=Nat
def tw4564121640250820500:=Nat
def tw290262055234579035:=Nat
def tw18036438440773438222:=Nat
def tw18020891413528036309:=Nat
def tw16984164992076064919:=Nat
def tw1324679107535264146:=Nat
def tw12641205986176168697:=Nat
def tw11081158811201020552:=Nat
def tw10957304259533599318:=Nat
def tw1057144346190439946:=Nat
def tw1032960466795055056:=Nat
def tw10131008999194247882:=Nat
def tw8998930047087027060:=Nat
def tw8422916119811987:=Nat
def tw8222254747825611905:=Nat
def tw7210606788242743950:=Nat
def tw6247510682929450930:=Nat
def tw4503630170243954896:=Nat
def tw387854119739999777:=Nat
def tw2422504161571834625:=Nat
def tw17916452961934591853:=Nat
def tw17846973719672873172:=Nat
def tw17114763155063978055:=Nat
def tw15966491981762229164:=Nat
def tw15816451432816415770:=Nat
def tw14653408410264643792:=Nat
def tw13434413234655224780:=Nat
def tw13091476108566098579:=Nat
def tw12541617092393241581:=Nat
def tw8777727872122252585:=Nat
def tw3392462811365950821:=Nat
def tw6486387380556923362:=Nat
def tw5422802605761095544:=Nat
def tw4458674483896289103:=Nat
def tw4065890884717893360:=Nat
def tw3505875914983662716:=Nat
def tw2915688274362487764:=Nat
def tw18147616441194794884:=Nat
def tw17900946429513440695:=Nat
def tw17243648765906366470:=Nat
def tw1659701415182023845:=Nat
def tw15519320883026764634:=Nat
def tw14947750514124300724:=Nat
def tw14143744822017353836:=Nat
def tw1390976878364330121:=Nat
def tw13795732064074663486:=Nat
def tw11770210409216760504:=Nat
def tw11277960694396720906:=Nat
def tw1059647213035956934:=Nat
def tw9839881818632298558:=Nat
def tw9759652502466338053:=Nat
def tw9603260966512432045:=Nat
def tw957264907060637282:=Nat
def tw9530863340503571164:=Nat
def tw9506483972392970165:=Nat
def tw9396554847270213118:=Nat
def tw92798426850882196:=Nat
def tw9276681740003552567:=Nat
def tw9219175113486073188:=Nat
def tw904719610185433120:=Nat
def tw8837474206903026750:=Nat
def tw8708394558915853429:=Nat
def tw86349517450843859:=Nat
def tw8632865627973629125:=Nat
def tw8544169993545398417:=Nat
def tw8503474534308768366:=Nat
def tw8446350636232736792:=Nat
def tw8421808156787637842:=Nat
def tw8399226495658919106:=Nat
def tw8398327382602276073:=Nat
def tw7856901286808468750:=Nat
def tw7826518344472086483:=Nat
def tw7820466597578184379:=Nat
def tw7778109109766175206:=Nat
def tw774393788591457344:=Nat
def tw7641238926430064643:=Nat
def tw7434686149963527351:=Nat
def tw741411742256086959:=Nat
def tw7284006572234939540:=Nat
def tw7069651125785576075:=Nat
def tw7045479064872560478:=Nat
def tw6935301019633399476:=Nat
def tw6906677618861247512:=Nat
def tw6886325219708007164:=Nat
def tw6651363779028285399:=Nat
def tw6609021879116079724:=Nat
def tw6456352205564583270:=Nat
def tw6398540362051354446:=Nat
def tw6394939469351590718:=Nat
def tw6364040064894681114:=Nat
def tw6125787404046013106:=Nat
def tw6106646628945421948:=Nat
def tw608091603818058876:=Nat
def tw5738106254928612313:=Nat
def tw5701642222634625389:=Nat
def tw5633320015953151803:=Nat
def tw5621606388561129931:=Nat
def tw5608373303040434100:=Nat
def tw5532391882575117184:=Nat
def tw5420962529226076409:=Nat
def tw5407509720655562168:=Nat
def tw5205453320909229394:=Nat
def tw5197231341378562770:=Nat
def tw5125910928973329018:=Nat
def tw4970260241888384927:=Nat
def tw4291464617170253436:=Nat
def tw4157089053625856926:=Nat
def tw3999060424706245682:=Nat
def tw3984055689234681185:=Nat
def tw3847712123956832540:=Nat
def tw3815650387375769548:=Nat
def tw3794492544877078349:=Nat
def tw3718846803857309568:=Nat
def tw3632010241662772002:=Nat
def tw3592480888211965849:=Nat
def tw3444469324890096460:=Nat
def tw3439255079243792036:=Nat
def tw3418076261425496692:=Nat
def tw3360865595864551303:=Nat
def tw2825777154075770129:=Nat
def tw2757214019614131018:=Nat
def tw2633497385723539840:=Nat
def tw2377588921309304621:=Nat
def tw2208345328705217676:=Nat
def tw2192614920106071504:=Nat
def tw2184836184258879357:=Nat
def tw208659772505902835:=Nat
def tw2063935834198938750:=Nat
def tw202694206272855054:=Nat
def tw1979999223797745260:=Nat
def tw1951820812626461697:=Nat
def tw18429182890437320964:=Nat
def tw18309329953074913630:=Nat
def tw1826789485442728345:=Nat
def tw18187583249550449762:=Nat
def tw18100261773844507656:=Nat
def tw18053995064975754856:=Nat
def tw17959981186210301320:=Nat
def tw17959689991877072134:=Nat
def tw17772858777953683793:=Nat
def tw17758297863658885651:=Nat
def tw17751034115112535941:=Nat
def tw17436989389759508575:=Nat
def tw17429148060099913956:=Nat
def tw17404398881219584012:=Nat
def tw17278838583440890479:=Nat
def tw17266507270444998995:=Nat
def tw17236602334310656477:=Nat
def tw17045640605523199206:=Nat
def tw16972538695077092680:=Nat
def tw16892822157834124201:=Nat
def tw1676448805498262441:=Nat
def tw16731553097378117601:=Nat
def tw16647710285753454433:=Nat
def tw16538357763814671409:=Nat
def tw16468880528552159963:=Nat
def tw16429288170365902008:=Nat
def tw16292029993168947724:=Nat
def tw16169663920175088766:=Nat
def tw1581917334248933003:=Nat
def tw1577135449772944390:=Nat
def tw15742519383220906974:=Nat
def tw15562282562085207937:=Nat
def tw1540899447162113657:=Nat
def tw15373420124074216516:=Nat
def tw15350610486731096200:=Nat
def tw15294447858238981068:=Nat
def tw15274925140346232895:=Nat
def tw15264057555549970383:=Nat
def tw15211606919115878481:=Nat
def tw15186284457873435154:=Nat
def tw15114828805234968321:=Nat
def tw14948086633499314867:=Nat
def tw14921061189272524785:=Nat
def tw14805338618093770555:=Nat
def tw14801882249184087197:=Nat
def tw14746490052455398655:=Nat
def tw1470680560026240028:=Nat
def tw14649900160471013325:=Nat
def tw14575043596303518460:=Nat
def tw14503915268959225781:=Nat
def tw14488948127270991360:=Nat
def tw14437723998462518196:=Nat
def tw14236144377396072867:=Nat
def tw14215719724664551063:=Nat
def tw14207229759861410236:=Nat
def tw13918015345561562888:=Nat
def tw13899228700064759562:=Nat
def tw13866556635439737715:=Nat
def tw13847005666964116445:=Nat
def tw13816108118937784144:=Nat
def tw1377282804242819966:=Nat
def tw13657942336710669575:=Nat
def tw13434142457655824169:=Nat
def tw13282061427178715709:=Nat
def tw13238707943351797720:=Nat
def tw13103895101698454435:=Nat
def tw12918231037162996592:=Nat
def tw12860360828902184780:=Nat
def tw12840248466142754974:=Nat
def tw12676038948501216829:=Nat
def tw12668293178191766986:=Nat
def tw12633877781363764366:=Nat
def tw12510905846969585353:=Nat
def tw12447893664671146532:=Nat
def tw12390484017582298597:=Nat
def tw12173166748673005226:=Nat
def tw11992915923270244731:=Nat
def tw11946552764623312415:=Nat
def tw11563528587923914406:=Nat
def tw1148281705023383606:=Nat
def tw11470467396503681330:=Nat
def tw11390600134387521379:=Nat
def tw11367648845005313406:=Nat
def tw11362283186250442932:=Nat
def tw11222585240645720058:=Nat
def tw11184736285833829873:=Nat
def tw11146340201966651884:=Nat
def tw10983376396036379391:=Nat
def tw10944869688148765887:=Nat
def tw10774360373628969698:=Nat
def tw10582087829718808969:=Nat
def tw10512659189719960711:=Nat
def tw10471316389858334890:=Nat
def tw102854820866806140:=Nat
def tw10138183842047225287:=Nat
end PySem.W.Fast
open PySem PySem.W PyProof.Rows
set_option maxRecDepth 100000 in
set_option maxHeartbeats 0 in
theorem PySem.Challenge.cw_travelday_s01_answers_holds : PySem.Challenge.rw_travelday_s01_answers.Holds := by
 w_on;k_headS;(case hw=>exact⟨[.list [.int 0, .int 1, .int 12]],by decide+kernel,by decide+kernel⟩)
 k_fillS
 refine L2.Fp (r:=PySem.Challenge.rw_travelday_s01_answers) (k:=10) (CX:=L2.eD) (ps:=["calls"]) (sp:=fun K=>Td.sy K) (by decide+kernel) rfl rfl ⟨rfl,by decide,by decide⟩ (fun w h Y=>PySem.W.kIn_of Y) ?F ?S (fun _ _ _ _ z=>z)
 case F=>
  intro w mg fa h Y KX G Uk
  refine' Td.Nn KX G Uk ?all
  case all=>
   constructor
   (case Hs=>k_is)
   (case Ht=>k_is)
   (case Hu=>k_is)
   (case Hv=>k_is)
   (case Lj=>k_is)
   (case vc=>k_is)
   (case zW=>k_is)
   (case Hw=>k_is)
   (case EL=>k_is)
   (case xl=>k_is)
   (case EM=>k_is)
   (case EN=>k_is)
   (case Hx=>k_is)
   (case EO=>k_is)
   (case rR=>k_is)
   (case vd=>k_is)
   (case Hy=>k_is)
   (case kd=>(constructor;all_goals k_is))
   (case dm=>(constructor;all_goals k_is))
   (case bw=>(constructor;all_goals k_is))
   (case fo=>(constructor;all_goals k_is))
   (case je=>(constructor;all_goals k_is))
   (case az=>(constructor;all_goals k_is))
   (case bL=>(constructor;all_goals k_is))
   (case kh=>(constructor;all_goals k_is))
   (case fA=>(constructor;all_goals k_is))
   (case bV=>(constructor;all_goals k_is))
   (case bI=>(constructor;all_goals k_is))
   (case bJ=>(constructor;all_goals k_is))
   (case iC=>(constructor;all_goals k_is))
   (case b8=>(constructor;all_goals k_is))
   (case cN=>(constructor;all_goals k_is))
   (case aE=>(constructor;all_goals k_is))
   (case bU=>(constructor;all_goals k_is))
   (case Hz=>(repeat' (first|exact trivial|(refine' And.intro ?_ ?_)|k_is)))
   (case HA=>(repeat' (first|exact trivial|(refine' And.intro ?_ ?_)|k_is)))
   (case HB=>(repeat' (first|exact trivial|(refine' And.intro ?_ ?_)|k_is)))
   (case HC=>(repeat' (first|exact trivial|(refine' And.intro ?_ ?_)|k_is)))
   (case Lk=>(repeat' (first|exact trivial|(refine' And.intro ?_ ?_)|k_is)))
   (case ve=>(repeat' (first|exact trivial|(refine' And.intro ?_ ?_)|k_is)))
   (case zX=>(repeat' (first|exact trivial|(refine' And.intro ?_ ?_)|k_is)))
   (case HD=>(repeat' (first|exact trivial|(refine' And.intro ?_ ?_)|k_is)))
   (case ER=>(repeat' (first|exact trivial|(refine' And.intro ?_ ?_)|k_is)))
   (case xm=>(repeat' (first|exact trivial|(refine' And.intro ?_ ?_)|k_is)))
   (case ES=>(repeat' (first|exact trivial|(refine' And.intro ?_ ?_)|k_is)))
   (case ET=>(repeat' (first|exact trivial|(refine' And.intro ?_ ?_)|k_is)))
   (case HE=>(repeat' (first|exact trivial|(refine' And.intro ?_ ?_)|k_is)))
   (case EU=>(repeat' (first|exact trivial|(refine' And.intro ?_ ?_)|k_is)))
   (case rS=>(repeat' (first|exact trivial|(refine' And.intro ?_ ?_)|k_is)))
   (case vf=>(repeat' (first|exact trivial|(refine' And.intro ?_ ?_)|k_is)))
   (case HF=>(repeat' (first|exact trivial|(refine' And.intro ?_ ?_)|k_is)))
   (case d8=>(refine' Td.dN ?e;(case e=>k_is)))
   (case gB=>(refine' Td.dN ?e;(case e=>k_is)))
   (case lI=>(refine' Td.dN ?e;(case e=>k_is)))
   (case lK=>(refine' Td.dN ?e;(case e=>k_is)))
   (case lL=>(refine' Td.dN ?e;(case e=>k_is)))
   (case j9=>(refine' Td.dN ?e;(case e=>k_is)))
   (case fi=>(refine' Td.dN ?e;(case e=>k_is)))
   (case mT=>(refine' Td.dN ?e;(case e=>k_is)))
   (case i9=>(refine' Td.dN ?e;(case e=>k_is)))
   (case lM=>(refine' Td.dN ?e;(case e=>k_is)))
   (case ja=>(refine' Td.dN ?e;(case e=>k_is)))
   (case gT=>(refine' Td.dN ?e;(case e=>k_is)))
   (case fj=>(refine' Td.dN ?e;(case e=>k_is)))
   (case jb=>(refine' Td.dN ?e;(case e=>k_is)))
   (case iz=>(refine' Td.dN ?e;(case e=>k_is)))
   (case lN=>(refine' Td.dN ?e;(case e=>k_is)))
   (case jc=>(refine' Td.dN ?e;(case e=>k_is)))
   (case jd=>(refine' Td.dN ?e;(case e=>k_is)))
   (case yh=>(refine' Td.dN ?e;(case e=>k_is)))
   (case DZ=>(refine' Td.dN ?e;(case e=>k_is)))
   (case ot=>(refine' Td.dN ?e;(case e=>k_is)))
   (case vK=>(refine' Td.dN ?e;(case e=>k_is)))
   (case ka=>(refine' Td.dN ?e;(case e=>k_is)))
   (case gr=>(refine' Td.dN ?e;(case e=>k_is)))
   (case fm=>(refine' Td.dN ?e;(case e=>k_is)))
   (case bl=>(repeat' (first|exact trivial|(refine' And.intro ?_ ?_)|k_is)))
   (case zY=>(refine' Td.bW ?a ?l ?c ?k;(case a=>k_is);(case l=>k_is);(case c=>k_is);(case k=>k_is)))
   (case qf=>(refine' Td.bW ?a ?l ?c ?k;(case a=>k_is);(case l=>k_is);(case c=>k_is);(case k=>k_is)))
   (case zZ=>(refine' Td.bW ?a ?l ?c ?k;(case a=>k_is);(case l=>k_is);(case c=>k_is);(case k=>k_is)))
   (case mH=>(refine' Td.bW ?a ?l ?c ?k;(case a=>k_is);(case l=>k_is);(case c=>k_is);(case k=>k_is)))
   (case z4=>(refine' Td.bW ?a ?l ?c ?k;(case a=>k_is);(case l=>k_is);(case c=>k_is);(case k=>k_is)))
   (case kK=>(refine' Td.bW ?a ?l ?c ?k;(case a=>k_is);(case l=>k_is);(case c=>k_is);(case k=>k_is)))
   (case qg=>(refine' Td.bW ?a ?l ?c ?k;(case a=>k_is);(case l=>k_is);(case c=>k_is);(case k=>k_is)))
   (case rT=>(refine' Td.bW ?a ?l ?c ?k;(case a=>k_is);(case l=>k_is);(case c=>k_is);(case k=>k_is)))
   (case rV=>(refine' Td.bW ?a ?l ?c ?k;(case a=>k_is);(case l=>k_is);(case c=>k_is);(case k=>k_is)))
   (case xn=>(refine' Td.bW ?a ?l ?c ?k;(case a=>k_is);(case l=>k_is);(case c=>k_is);(case k=>k_is)))
   (case ng=>(refine' Td.bW ?a ?l ?c ?k;(case a=>k_is);(case l=>k_is);(case c=>k_is);(case k=>k_is)))
   (case qh=>(refine' Td.bW ?a ?l ?c ?k;(case a=>k_is);(case l=>k_is);(case c=>k_is);(case k=>k_is)))
   (case il=>(refine' Td.bW ?a ?l ?c ?k;(case a=>k_is);(case l=>k_is);(case c=>k_is);(case k=>k_is)))
   (case sQ=>(refine' Td.bW ?a ?l ?c ?k;(case a=>k_is);(case l=>k_is);(case c=>k_is);(case k=>k_is)))
   (case sR=>(refine' Td.bW ?a ?l ?c ?k;(case a=>k_is);(case l=>k_is);(case c=>k_is);(case k=>k_is)))
   (case nh=>(refine' Td.bW ?a ?l ?c ?k;(case a=>k_is);(case l=>k_is);(case c=>k_is);(case k=>k_is)))
   (case sS=>(refine' Td.bW ?a ?l ?c ?k;(case a=>k_is);(case l=>k_is);(case c=>k_is);(case k=>k_is)))
   (case vg=>(refine' Td.bW ?a ?l ?c ?k;(case a=>k_is);(case l=>k_is);(case c=>k_is);(case k=>k_is)))
   (case xo=>(refine' Td.bW ?a ?l ?c ?k;(case a=>k_is);(case l=>k_is);(case c=>k_is);(case k=>k_is)))
   (case vh=>(refine' Td.bW ?a ?l ?c ?k;(case a=>k_is);(case l=>k_is);(case c=>k_is);(case k=>k_is)))
   (case z5=>(refine' Td.bW ?a ?l ?c ?k;(case a=>k_is);(case l=>k_is);(case c=>k_is);(case k=>k_is)))
   (case qi=>(refine' Td.bW ?a ?l ?c ?k;(case a=>k_is);(case l=>k_is);(case c=>k_is);(case k=>k_is)))
   (case oG=>(refine' Td.bW ?a ?l ?c ?k;(case a=>k_is);(case l=>k_is);(case c=>k_is);(case k=>k_is)))
   (case oH=>(refine' Td.bW ?a ?l ?c ?k;(case a=>k_is);(case l=>k_is);(case c=>k_is);(case k=>k_is)))
   (case ni=>(refine' Td.bW ?a ?l ?c ?k;(case a=>k_is);(case l=>k_is);(case c=>k_is);(case k=>k_is)))
   (case rW=>(refine' Td.bW ?a ?l ?c ?k;(case a=>k_is);(case l=>k_is);(case c=>k_is);(case k=>k_is)))
   (case rX=>(refine' Td.bW ?a ?l ?c ?k;(case a=>k_is);(case l=>k_is);(case c=>k_is);(case k=>k_is)))
   (case rY=>(refine' Td.bW ?a ?l ?c ?k;(case a=>k_is);(case l=>k_is);(case c=>k_is);(case k=>k_is)))
   (case rZ=>(refine' Td.bW ?a ?l ?c ?k;(case a=>k_is);(case l=>k_is);(case c=>k_is);(case k=>k_is)))
   (case sT=>(refine' Td.bW ?a ?l ?c ?k;(case a=>k_is);(case l=>k_is);(case c=>k_is);(case k=>k_is)))
   (case vi=>(refine' Td.bW ?a ?l ?c ?k;(case a=>k_is);(case l=>k_is);(case c=>k_is);(case k=>k_is)))
   (case qj=>(refine' Td.bW ?a ?l ?c ?k;(case a=>k_is);(case l=>k_is);(case c=>k_is);(case k=>k_is)))
   (case r0=>(refine' Td.bW ?a ?l ?c ?k;(case a=>k_is);(case l=>k_is);(case c=>k_is);(case k=>k_is)))
   (case qk=>(refine' Td.bW ?a ?l ?c ?k;(case a=>k_is);(case l=>k_is);(case c=>k_is);(case k=>k_is)))
   (case ql=>(refine' Td.bW ?a ?l ?c ?k;(case a=>k_is);(case l=>k_is);(case c=>k_is);(case k=>k_is)))
   (case z6=>(refine' Td.bW ?a ?l ?c ?k;(case a=>k_is);(case l=>k_is);(case c=>k_is);(case k=>k_is)))
   (case vj=>(refine' Td.bN ?a ?i ?l ?c ?k;(case a=>k_is);(case i=>k_is);(case l=>k_is);(case c=>k_is);(case k=>k_is)))
   (case vk=>(refine' Td.bN ?a ?i ?l ?c ?k;(case a=>k_is);(case i=>k_is);(case l=>k_is);(case c=>k_is);(case k=>k_is)))
   (case vm=>(refine' Td.bN ?a ?i ?l ?c ?k;(case a=>k_is);(case i=>k_is);(case l=>k_is);(case c=>k_is);(case k=>k_is)))
   (case vn=>(refine' Td.bN ?a ?i ?l ?c ?k;(case a=>k_is);(case i=>k_is);(case l=>k_is);(case c=>k_is);(case k=>k_is)))
   (case xp=>(refine' Td.bN ?a ?i ?l ?c ?k;(case a=>k_is);(case i=>k_is);(case l=>k_is);(case c=>k_is);(case k=>k_is)))
   (case nj=>(refine' Td.bN ?a ?i ?l ?c ?k;(case a=>k_is);(case i=>k_is);(case l=>k_is);(case c=>k_is);(case k=>k_is)))
   (case jG=>(refine' Td.bN ?a ?i ?l ?c ?k;(case a=>k_is);(case i=>k_is);(case l=>k_is);(case c=>k_is);(case k=>k_is)))
   (case jH=>(refine' Td.bN ?a ?i ?l ?c ?k;(case a=>k_is);(case i=>k_is);(case l=>k_is);(case c=>k_is);(case k=>k_is)))
   (case fg=>(refine' Td.bN ?a ?i ?l ?c ?k;(case a=>k_is);(case i=>k_is);(case l=>k_is);(case c=>k_is);(case k=>k_is)))
   (case jI=>(refine' Td.bN ?a ?i ?l ?c ?k;(case a=>k_is);(case i=>k_is);(case l=>k_is);(case c=>k_is);(case k=>k_is)))
   (case jB=>(refine' Td.bN ?a ?i ?l ?c ?k;(case a=>k_is);(case i=>k_is);(case l=>k_is);(case c=>k_is);(case k=>k_is)))
   (case jC=>(refine' Td.bN ?a ?i ?l ?c ?k;(case a=>k_is);(case i=>k_is);(case l=>k_is);(case c=>k_is);(case k=>k_is)))
   (case jJ=>(refine' Td.bN ?a ?i ?l ?c ?k;(case a=>k_is);(case i=>k_is);(case l=>k_is);(case c=>k_is);(case k=>k_is)))
   (case qm=>(refine' Td.bN ?a ?i ?l ?c ?k;(case a=>k_is);(case i=>k_is);(case l=>k_is);(case c=>k_is);(case k=>k_is)))
   (case mI=>(refine' Td.bN ?a ?i ?l ?c ?k;(case a=>k_is);(case i=>k_is);(case l=>k_is);(case c=>k_is);(case k=>k_is)))
   (case vq=>(refine' Td.bN ?a ?i ?l ?c ?k;(case a=>k_is);(case i=>k_is);(case l=>k_is);(case c=>k_is);(case k=>k_is)))
   (case sU=>(refine' Td.bN ?a ?i ?l ?c ?k;(case a=>k_is);(case i=>k_is);(case l=>k_is);(case c=>k_is);(case k=>k_is)))
   (case oI=>(refine' Td.bN ?a ?i ?l ?c ?k;(case a=>k_is);(case i=>k_is);(case l=>k_is);(case c=>k_is);(case k=>k_is)))
   (case sV=>(refine' Td.bN ?a ?i ?l ?c ?k;(case a=>k_is);(case i=>k_is);(case l=>k_is);(case c=>k_is);(case k=>k_is)))
   (case lu=>(refine' Td.bN ?a ?i ?l ?c ?k;(case a=>k_is);(case i=>k_is);(case l=>k_is);(case c=>k_is);(case k=>k_is)))
   (case iq=>(refine' Td.bN ?a ?i ?l ?c ?k;(case a=>k_is);(case i=>k_is);(case l=>k_is);(case c=>k_is);(case k=>k_is)))
   (case hC=>(refine' Td.bN ?a ?i ?l ?c ?k;(case a=>k_is);(case i=>k_is);(case l=>k_is);(case c=>k_is);(case k=>k_is)))
   (case kL=>(refine' Td.bN ?a ?i ?l ?c ?k;(case a=>k_is);(case i=>k_is);(case l=>k_is);(case c=>k_is);(case k=>k_is)))
   (case iW=>(refine' Td.bN ?a ?i ?l ?c ?k;(case a=>k_is);(case i=>k_is);(case l=>k_is);(case c=>k_is);(case k=>k_is)))
   (case kM=>(refine' Td.bN ?a ?i ?l ?c ?k;(case a=>k_is);(case i=>k_is);(case l=>k_is);(case c=>k_is);(case k=>k_is)))
   (case mJ=>(refine' Td.bN ?a ?i ?l ?c ?k;(case a=>k_is);(case i=>k_is);(case l=>k_is);(case c=>k_is);(case k=>k_is)))
   (case nq=>(refine' Td.bN ?a ?i ?l ?c ?k;(case a=>k_is);(case i=>k_is);(case l=>k_is);(case c=>k_is);(case k=>k_is)))
   (case sW=>(refine' Td.bN ?a ?i ?l ?c ?k;(case a=>k_is);(case i=>k_is);(case l=>k_is);(case c=>k_is);(case k=>k_is)))
   (case vt=>(refine' Td.bN ?a ?i ?l ?c ?k;(case a=>k_is);(case i=>k_is);(case l=>k_is);(case c=>k_is);(case k=>k_is)))
   (case sX=>(refine' Td.bN ?a ?i ?l ?c ?k;(case a=>k_is);(case i=>k_is);(case l=>k_is);(case c=>k_is);(case k=>k_is)))
   (case qo=>(refine' Td.bN ?a ?i ?l ?c ?k;(case a=>k_is);(case i=>k_is);(case l=>k_is);(case c=>k_is);(case k=>k_is)))
   (case mK=>(refine' Td.bN ?a ?i ?l ?c ?k;(case a=>k_is);(case i=>k_is);(case l=>k_is);(case c=>k_is);(case k=>k_is)))
   (case mL=>(refine' Td.bN ?a ?i ?l ?c ?k;(case a=>k_is);(case i=>k_is);(case l=>k_is);(case c=>k_is);(case k=>k_is)))
   (case lx=>(refine' Td.bN ?a ?i ?l ?c ?k;(case a=>k_is);(case i=>k_is);(case l=>k_is);(case c=>k_is);(case k=>k_is)))
   (case nr=>(refine' Td.bN ?a ?i ?l ?c ?k;(case a=>k_is);(case i=>k_is);(case l=>k_is);(case c=>k_is);(case k=>k_is)))
   (case ly=>(refine' Td.bN ?a ?i ?l ?c ?k;(case a=>k_is);(case i=>k_is);(case l=>k_is);(case c=>k_is);(case k=>k_is)))
   (case gv=>(refine' Td.bN ?a ?i ?l ?c ?k;(case a=>k_is);(case i=>k_is);(case l=>k_is);(case c=>k_is);(case k=>k_is)))
   (case iX=>(refine' Td.bN ?a ?i ?l ?c ?k;(case a=>k_is);(case i=>k_is);(case l=>k_is);(case c=>k_is);(case k=>k_is)))
   (case jD=>(refine' Td.bN ?a ?i ?l ?c ?k;(case a=>k_is);(case i=>k_is);(case l=>k_is);(case c=>k_is);(case k=>k_is)))
   (case vv=>(refine' Td.bN ?a ?i ?l ?c ?k;(case a=>k_is);(case i=>k_is);(case l=>k_is);(case c=>k_is);(case k=>k_is)))
   (case nu=>(refine' Td.bN ?a ?i ?l ?c ?k;(case a=>k_is);(case i=>k_is);(case l=>k_is);(case c=>k_is);(case k=>k_is)))
   (case an=>(refine' Td.Qa ?e ?l ?e0 ?e1 ?e2 ?e3 ?e4 ?e5 ?e6 ?e7 ?e8 ?e9 ?OR ?Ti ?Tj;(case e=>k_is);(case l=>k_is);(case e0=>k_is);(case e1=>k_is);(case e2=>k_is);(case e3=>k_is);(case e4=>k_is);(case e5=>k_is);(case e6=>k_is);(case e7=>k_is);(case e8=>k_is);(case e9=>k_is);(case OR=>k_is);(case Ti=>k_is);(case Tj=>k_is)))
 case S=>
  intro K H xs a hO VQ P8 hx
  cases hx with
  |cons h1 h2=>
   cases h2
   cases h1 with
   |lst hs ha=>
    have e:=L2.GS a.1 _ ha
    subst e
    exact⟨_,a.1,U,Td.Qs hO hs,P8,fun H' p hp=> .lst (L2.aW.of hp) (L2.GR _)⟩
