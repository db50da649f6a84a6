import PyProof.Rows.All
import Wide.All
import OpenK.AllK
import Wide.FinOn
import PyProof.EqAt
import PyProof.EqKinds
import PyProof.TupleCall
import Lean
import KE.KDictList
import PyProof.MaxThree
import KE.LcSums
import PyProof.Rows.FactsN_abs
import PyProof.FactsAll.list_3
import PyProof.SeqI3
import PyProof.EnumIter
import PyProof.EnumMake
import PyProof.EnumFor
import PyProof.ZipIter
import PyProof.FactsAll.zip_1
import PyProof.DictIter
import PyProof.MinMaxWalk
import PyProof.Rows.TupDisplay
import PySem.Challenge.RW_whistlebook_k35_whole_bars_read_again
abbrev z0t:=@List.length_map
abbrev z0u:=@List.getElem?_eq_getElem
abbrev z0v:=@List.getElem?_eq_some_iff
abbrev z0w:=@List.length_append
abbrev z0x:=@List.getElem?_map
abbrev z0y:=@List.map_append
abbrev z0z:=@List.mem_singleton
abbrev z00:=@List.mem_cons
abbrev z01:=@decide_eq_true
abbrev z02:=@List.mem_map
abbrev z03:=@Nat.le_refl
abbrev z04:=@List.map_cons
abbrev z05:=@List.mem_of_getElem?
abbrev z06:=@List.mem_append
abbrev z07:=@decide_eq_false
abbrev z08:=@List.size_toArray
abbrev z09:=@Nat.le_trans
abbrev z1a:=@Int.toNat_natCast
abbrev z1b:=@List.take_length
abbrev z1c:=@Nat.lt_of_lt_of_le
abbrev z1d:=@Bool.false_ne_true
abbrev z1e:=@List.mem_cons_of_mem
abbrev z1f:=@List.mem_append_right
abbrev z1g:=@beq_eq_false_iff_ne
abbrev z1h:=@List.length_cons
abbrev z1i:=@List.nodup_cons
abbrev z1j:=@Nat.zero_le
abbrev z1k:=@Nat.ne_of_lt
abbrev z1l:=@List.getD_eq_getElem?_getD
abbrev z1m:=@List.mem_append_left
abbrev z1n:=@List.length_filter_le
abbrev z1o:=@List.mem_cons_self
abbrev z1p:=@List.take_succ_eq_append_getElem
abbrev z1q:=@Int.emod_lt_of_pos
abbrev z1r:=@List.lookup_cons
abbrev z1s:=@List.getElem_mem
abbrev z1t:=@List.mem_filter
abbrev z1u:=@List.getElem?_append_right
abbrev z1v:=@Int.emod_nonneg
abbrev z1w:=@List.getElem?_append_left
abbrev z1x:=@List.getElem?_set_ne
abbrev z1y:=@List.getElem?_set_self
abbrev z1z:=@List.length_take_le
abbrev z10:=@List.not_mem_nil
abbrev z11:=@Option.map_eq_some_iff
abbrev z12:=@Option.map_some
abbrev z13:=@List.getElem_of_mem
abbrev z14:=@Option.isSome_iff_exists
abbrev z15:=@List.mem_range
abbrev z16:=@Nat.lt_of_le_of_lt
abbrev z17:=@Bool.and_eq_true
abbrev z18:=@Int.zero_add
abbrev z19:=@List.length_range
abbrev z2a:=@List.take_add_one
abbrev z2b:=@Nat.le_succ_of_le
abbrev z2c:=@List.filter_append
abbrev z2d:=@List.filter_cons
abbrev z2e:=@List.filter_cons_of_neg
abbrev z2f:=@List.filter_cons_of_pos
abbrev z2g:=@List.nodup_iff_pairwise_ne
abbrev z2h:=@List.append_cancel_left_eq
abbrev z2i:=@Nat.lt_irrefl
abbrev z2j:=@List.append_nil
abbrev z2k:=@List.length_set
abbrev z2l:=@List.append_assoc
abbrev z2m:=@List.map_map
abbrev z2n:=@List.length_eq_zero_iff
abbrev z2o:=@List.mem_singleton_self
abbrev z2p:=@List.length_take
abbrev z2q:=@Bool.false_eq_true
abbrev z2r:=@List.find?_cons
abbrev z2s:=@List.filter_nil
abbrev z2t:=@List.any_cons
abbrev z2u:=@List.reverse_cons
abbrev z2v:=@Nat.lt_succ_of_lt
abbrev z2w:=@List.all_eq_true
abbrev z2x:=@List.filterMap_cons
abbrev z2y:=@List.length_zipWith
abbrev z2z:=@List.map_congr_left
abbrev z20:=@Int.toNat_of_nonneg
abbrev z21:=@List.mem_filterMap
abbrev z22:=@Bool.eq_iff_iff
abbrev z23:=@List.map_nil
abbrev z24:=@Nat.lt_trans
set_option Elab.async false
set_option linter.all false
set_option maxRecDepth 100000
namespace L2
open PySem PySem.Spec PyProof.Rows
noncomputable abbrev Key:=Sum Int Str
noncomputable def G2:Key->Value->Bool
 | .inl k,v=>Value.isInt k v
 | .inr x,v=>Value.isStrOf x v
noncomputable def zjo(w:World):Key->Int
 | .inl k=>hashInt k
 | .inr x=>hashStr w x
theorem Y0:∀ {k:Key} {v:Value},G2 k v=true->(∃ i t,k=Sum.inl i/\v=Value.int i t)\/(∃ x t,k=Sum.inr x/\v=Value.str x t)
 | .inl i,v,h=>by
   obtain⟨t,e⟩:=Value.isInt_shape (k:=i) (v:=v) h;exact .inl ⟨i,t,rfl,e⟩
 | .inr x,v,h=>by
   obtain⟨t,e⟩:=Value.isStrOf_shape (x:=x) (v:=v) h;exact .inr ⟨x,t,rfl,e⟩
theorem za9(i:Int)(t:Tok):G2 (.inl i) (.int i t)=true:=by simp[G2,Value.isInt]
theorem zba(x:Str)(t:Tok):G2 (.inr x) (.str x t)=true:=by simp[G2,Value.isStrOf]
theorem zgq(a b:Int):decide ((Sum.inl a:Key)=Sum.inl b)=(a == b):=by
 by_cases e:a=b
 ·subst e;simp
 ·have h:¬ (Sum.inl a:Key)=Sum.inl b:=fun q=>e (Sum.inl.inj q)
  rw[z07 h];exact(z1g.mpr e).symm
theorem zgr(a b:Str):decide ((Sum.inr a:Key)=Sum.inr b)=decide (a=b):=by
 by_cases e:a=b
 ·subst e;simp
 ·have h:¬ (Sum.inr a:Key)=Sum.inr b:=fun q=>e (Sum.inr.inj q)
  rw[z07 h,z07 e]
theorem zgs(a:Int)(b:Str):decide ((Sum.inl a:Key)=Sum.inr b)=false:=z07 (fun q=>nomatch q)
theorem zgt(a:Str)(b:Int):decide ((Sum.inr a:Key)=Sum.inl b)=false:=z07 (fun q=>nomatch q)
noncomputable def Yr(prog:Program)(w:World):PySem.KeyKind prog w Key where
 is:=G2
 hash:=zjo w
 inj:=fun v a b ha hb=>by
  rcases Y0 ha with ⟨i,t,rfl,rfl⟩|⟨x,t,rfl,rfl⟩
  ·rcases Y0 hb with ⟨j,u,rfl,e⟩|⟨y,u,rfl,e⟩
   ·injection e with e1 _;rw[e1]
   ·exact nomatch e
  ·rcases Y0 hb with ⟨j,u,rfl,e⟩|⟨y,u,rfl,e⟩
   ·exact nomatch e
   ·injection e with e1 _;rw[e1]
 byValue:=fun k v h=>by
  rcases Y0 h with ⟨i,t,rfl,rfl⟩|⟨x,t,rfl,rfl⟩<;>rfl
 pyHash:=fun hv h=>by
  rcases Y0 hv with ⟨i,t,rfl,rfl⟩|⟨x,t,rfl,rfl⟩
  ·exact wpAny_pyHash_int h
  ·exact wpAny_pyHash_str h
 eqBool:=fun hu hv h=>by
  rcases Y0 hu with ⟨i,t,rfl,rfl⟩|⟨x,t,rfl,rfl⟩
  ·rcases Y0 hv with ⟨j,u,rfl,rfl⟩|⟨y,u,rfl,rfl⟩
   ·rw[zgq] at h;exact wpAny_eqBool_int h
   ·rw[zgs] at h;exact SeqAt.EqAt.int_str i t y u _ _ _ _ h
  ·rcases Y0 hv with ⟨j,u,rfl,rfl⟩|⟨y,u,rfl,rfl⟩
   ·rw[zgt] at h;exact SeqAt.EqAt.str_int x t j u _ _ _ _ h
   ·rw[zgr] at h;exact wpAny_eqBool_str h
 «strs»:=fun k x t v h=>by
  rcases Y0 h with ⟨i,u,rfl,e⟩|⟨y,u,rfl,e⟩
  ·exact nomatch e
  ·injection e with e1 _
   subst e1;cases v<;>rfl
theorem Dl(prog:Program)(w:World)(i:Int)(t:Tok):(Yr prog w).is (.inl i) (.int i t)=true:=za9 i t
theorem Dm(prog:Program)(w:World)(x:Str)(t:Tok):(Yr prog w).is (.inr x) (.str x t)=true:=zba x t
inductive V where
 | non|bl (b:Bool)|int (i:Int)|str (x:Str)|byt (b:Array UInt8)|flt (b:UInt64)|ref (a:Addr)|ty (n:String)
 deriving DecidableEq
noncomputable def RelV:V->Value->Prop
 | .non,u=>u=Value.none
 | .bl b,u=>u=Value.bool b
 | .int i,u=>∃ t,u=Value.int i t
 | .str x,u=>∃ t,u=Value.str x t
 | .byt b,u=>∃ t,u=Value.bytes b t
 | .flt b,u=>∃ t,u=Value.float b t
 | .ref a,u=>u=Value.ref a
 | .ty n,u=>u=Value.type n
noncomputable abbrev Vals:List V->List Value->Prop:=Paired RelV
theorem Vals.length{xs:List V}{us:List Value}(r:Vals xs us):xs.length=us.length:=Paired.length r
theorem Vals.get:∀ {xs:List V} {us:List Value} {i:Nat} {x:V},Vals xs us->xs[i]?=some x->∃ u,us[i]?=some u/\RelV x u
 | _,_,_,_,.nil,e=>by simp at e
 | _,_,0,_,.cons r _,e=>by simp at e;subst e;exact⟨_,rfl,r⟩
 | _,_,i+1,x,.cons _ t,e=>by
   obtain⟨u,h1,h2⟩:=Vals.get (i:=i) (x:=x) t (by simpa using e)
   exact⟨u,by simpa using h1,h2⟩
theorem Vals.set{x:V}{u:Value}(r:RelV x u):∀ {xs:List V} {us:List Value} (i:Nat),Vals xs us->Vals (xs.set i x) (us.set i u)
 | _,_,_,.nil=>.nil
 | _,_,0,.cons _ t=>.cons r t
 | _,_,i+1,.cons q t=>.cons q (Vals.set r i t)
theorem Vals.append:∀ {xs ys:List V} {us ws:List Value},Vals xs us->Vals ys ws->Vals (xs++ys) (us++ws)
 | _,_,_,_,.nil,s=>s
 | _,_,_,_,.cons r t,s=>.cons r (Vals.append t s)
theorem Vals.take:∀ {xs:List V} {us:List Value} (n:Nat),Vals xs us->Vals (xs.take n) (us.take n)
 | _,_,0,_=>.nil
 | _,_,_+1,.nil=>.nil
 | _,_,n+1,.cons r t=>.cons r (Vals.take n t)
theorem Vals.drop:∀ {xs:List V} {us:List Value} (n:Nat),Vals xs us->Vals (xs.drop n) (us.drop n)
 | _,_,0,r=>r
 | _,_,_+1,.nil=>.nil
 | _,_,n+1,.cons _ t=>Vals.drop n t
noncomputable def RelO:Option V->Option Value->Prop
 | some v,some u=>RelV v u
 | none,none=>True
 | _,_=>False
noncomputable def KV{κ:Type}:List (κ×V)->List (κ×Value)->Prop:=Paired fun (p:κ×V) (q:κ×Value)=>p.1=q.1/\RelV p.2 q.2
noncomputable def kV:Key->V
 | .inl i=>.int i
 | .inr x=>.str x
inductive HO where
 | lst (xs:List V)
 | tup (xs:List V)
 | dK (kvs:List (Key×V))|dT (kvs:List (List Key×V))
 | set (S:Int->Bool) (n:Nat)
 | ins (C dx:Addr) (fs:List (Str×V))
 | own (x:Addr)
 | xd (fs:List (Str×V))
 | met (f x:Addr)
 | rng (lo hi:Int)
 | frz (o:Obj) (u:HO)
 | tbl (ps:Array Value)
 | ext (φ:Heap->Prop)
noncomputable abbrev Hp:=Addr->Option HO
noncomputable def upd(H:Hp)(a:Addr)(o:HO):Hp:=fun b=>if b=a then some o else H b
theorem Zc{H:Hp}{a:Addr}{o:HO}:upd H a o a=some o:=by unfold upd;rw[if_pos rfl]
theorem Zh{H:Hp}{a b:Addr}{o:HO}(h:b≠a):upd H a o b=H b:=by unfold upd;rw[if_neg h]
theorem K7{H:Hp}{a:Addr}{o u:HO}:upd (upd H a o) a u=upd H a u:=by
 funext b;unfold upd;split<;>rfl
theorem Yt{H:Hp}{a b:Addr}{o u:HO}(h:H a=some o)(h':H b=some u)(d:o≠u):a≠b:=by
 intro e;subst e;rw[h] at h';exact d (Option.some.inj h')
theorem Zg{H:Hp}{a b:Addr}{o:HO}(h:H a=some o)(h':H b=none):a≠b:=by
 intro e;subst e;rw[h] at h';cases h'
section
variable(P:Program)(w:World)
noncomputable def Xa(H:Hp)(h:Heap)(a:Addr):HO->Prop
 | .lst xs=>xs.length<=sizeLine/\∃ (its:List Value) (n:Nat),Vals xs its/\h.get? a=some { cls:=.type "list",data:=.seq its.toArray n }
 | .tup xs=>xs.length<=sizeLine/\∃ its:List Value,Vals xs its/\IsTup h a its.toArray
 | .dK kvs=>kvs.length<=sizeLine/\(a == sysModules)=false/\∃ vs,KV kvs vs/\h.DictOf (Yr P w) a vs
 | .dT kvs=>kvs.length<=sizeLine/\(a == sysModules)=false/\∃ xs:List (List Key×Addr×Value),
   Paired (fun (p:List Key×V) (q:List Key×Addr×Value)=>p.1=q.1/\H q.2.1=some (.tup (p.1.map kV))/\RelV p.2 q.2.2) kvs xs /\
   ∃ o es ep,h.get? a=some o/\o.ExactDict/\o.data=.dict es ep/\es.toList=xs.map (entryOfKey (tupleKind (Yr P w)))/\(xs.map (·.1)).Nodup
 | .set S n=>h.SetOf (intKind P w) a S n
 | .ins C dx fs=>H dx=some (.own a)/\fs.length<=1000/\dx≠a/\h.get? a=some (PySem.W.instObj C dx) /\
   ∃ mA,h.Ns1 dx mA/\(∀ f,RelO (fs.lookup f) (mA f))/\PySem.Within mA (fs.map (·.1))
 | .own _=>∃ o,h.get? a=some o
 | .xd fs=>∃ mA,h.Ns1 a mA/\∀ f,RelO (fs.lookup f) (mA f)
 | .rng lo hi=>∃ t u v,h.get? a=some { cls:=.type "range",data:=.fields #[.int lo t,.int hi u,.int 1 v] }
 | .frz o u=>h.get? a=some o/\Xa H h a u
 | .tbl ps=>h.get? a=some { cls:=.none,data:=.fields ps }
 | .met f x=>h.get? a=some (PySem.W.methodObj (.ref f) (.ref x))
 | .ext φ=>φ h/\(∃ o,h.get? a=some o)/\∀ h1 h2:Heap,φ h1->(∀ o,h1.get? a=some o->h2.get? a=some o)->φ h2
noncomputable def HOk(H:Hp)(h:Heap):Prop:=∀ a o,H a=some o->Xa P w H h a o
end
section
variable{P:Program}{w:World}{H H':Hp}{h h':Heap}{a:Addr}{o:HO}
theorem Xa.lt(x:Xa P w H h a o):a<h.objs.size:=by
 cases o with
 | lst xs=>obtain⟨_,_,_,_,e⟩:=x;exact Heap.lt_size e
 | tup xs=>obtain⟨_,_,_,p⟩:=x;exact p.lt
 | dK kvs=>obtain⟨_,_,_,_,o,_,_,e,_⟩:=x;exact Heap.lt_size e
 | dT kvs=>obtain⟨_,_,_,_,o,_,_,e,_⟩:=x;exact Heap.lt_size e
 | set S n=>obtain⟨o,_,_,_,e,_⟩:=x;exact Heap.lt_size e
 | ins C dx fs=>obtain⟨_,_,_,e,_⟩:=x;exact Heap.lt_size e
 | own y=>obtain⟨_,e⟩:=x;exact Heap.lt_size e
 | xd fs=>obtain⟨_,⟨_,_,_,e,_⟩,_⟩:=x;exact Heap.lt_size e
 | rng lo hi=>obtain⟨_,_,_,e⟩:=x;exact Heap.lt_size e
 | frz ob u=>obtain⟨e,_⟩:=x;exact Heap.lt_size e
 | tbl ps=>exact Heap.lt_size (show h.get? a=some _ from x)
 | met f y=>exact Heap.lt_size (show h.get? a=some _ from x)
 | ext φ=>obtain⟨_,⟨_,e⟩,_⟩:=x;exact Heap.lt_size e
theorem Paired.mapP{α β:Type}{F G:α->β->Prop}:∀ {l₁:List α} {l₂:List β},Paired F l₁ l₂->(∀ a b,F a b->G a b)->Paired G l₁ l₂
 | _,_,.nil,_=>.nil
 | _,_,.cons r t,f=>.cons (f _ _ r) (Paired.mapP t f)
theorem Xa.stay(x:Xa P w H h a o)(k:∀ b u,(b=a\/H b=some (.own a))->h.get? b=some u->h'.get? b=some u)
  (ho:∀ b,H b=some (.own a)->H' b=some (.own a)) (ht:∀ b xs,H b=some (.tup xs)->H' b=some (.tup xs)):Xa P w H' h' a o:=by
 induction o with
 | lst xs=>obtain⟨z,its,n,r,e⟩:=x;exact⟨z,its,n,r,k _ _ (.inl rfl) e⟩
 | tup xs=>obtain⟨z,its,r,ob,e,c⟩:=x;exact⟨z,its,r,ob,k _ _ (.inl rfl) e,c⟩
 | dK kvs=>obtain⟨z,y,vs,r,ob,es,ep,e,c⟩:=x;exact⟨z,y,vs,r,ob,es,ep,k _ _ (.inl rfl) e,c⟩
 | dT kvs =>
   obtain⟨z,y,xs,r,ob,es,ep,e,c⟩:=x;exact⟨z,y,xs,Paired.mapP r fun p q z=>⟨z.1,ht _ _ z.2.1,z.2.2⟩,ob,es,ep,k _ _ (.inl rfl) e,c⟩
 | set S n=>obtain⟨ob,es,ep,t,e,c⟩:=x;exact⟨ob,es,ep,t,k _ _ (.inl rfl) e,c⟩
 | ins C dx fs =>
   obtain⟨d,z,ne,e,mA,⟨od,es,ep,e2,c⟩,r⟩:=x;exact⟨ho _ d,z,ne,k _ _ (.inl rfl) e,mA,⟨od,es,ep,k _ _ (.inr d) e2,c⟩,r⟩
 | own y=>obtain⟨ob,e⟩:=x;exact⟨ob,k _ _ (.inl rfl) e⟩
 | xd fs=>obtain⟨mA,⟨od,es,ep,e,c⟩,r⟩:=x;exact⟨mA,⟨od,es,ep,k _ _ (.inl rfl) e,c⟩,r⟩
 | rng lo hi=>obtain⟨t,u,v,e⟩:=x;exact⟨t,u,v,k _ _ (.inl rfl) e⟩
 | frz ob u ih=>obtain⟨e,q⟩:=x;exact⟨k _ _ (.inl rfl) e,ih q⟩
 | tbl ps =>
   have e:h.get? a=some { cls:=.none,data:=.fields ps }:=x;show h'.get? a=some { cls:=.none,data:=.fields ps };exact k a _ (.inl rfl) e
 | met f y =>
   have e:h.get? a=some (PySem.W.methodObj (.ref f) (.ref y)):=x;show h'.get? a=some (PySem.W.methodObj (.ref f) (.ref y));exact k a _ (.inl rfl) e
 | ext φ=>obtain⟨p,⟨o,e⟩,st⟩:=x;exact⟨st _ _ p fun o q=>k _ _ (.inl rfl) q,⟨o,k _ _ (.inl rfl) e⟩,st⟩
theorem HOk.lt(x:HOk P w H h)(e:H a=some o):a<h.objs.size:=(x a o e).lt
theorem HOk.fresh(x:HOk P w H h)(e:h.objs.size<=a):H a=none:=by
 cases q:H a with
 | none=>rfl
 | some u=>exact absurd (z1c (x.lt q) e) (z2i _)
theorem HOk.kept(x:HOk P w H h)(k:∀ b u,h.get? b=some u->h'.get? b=some u):HOk P w H h':=fun a o e =>
 (x a o e).stay (fun b u _ q=>k b u q) (fun _ q=>q) fun _ _ q=>q
theorem HOk.laid(x:HOk P w H h)(k:∀ b u,h.get? b=some u->h'.get? b=some u)(hp:h.objs.size<=a)(new:Xa P w (upd H a o) h' a o):HOk P w (upd H a o) h':=fun b u e=>by
 have hn:=x.fresh hp;by_cases hb:b=a
 ·subst hb;rw[Zc] at e;cases e;exact new
 ·rw[Zh hb] at e
  exact(x b u e).stay (fun c v _ q=>k c v q) (fun c q=>by rw[Zh (Zg q hn)];exact q) fun c xs q=>by rw[Zh (Zg q hn)];exact q
end
noncomputable def Rd(H:Hp)(a:Addr)(u:HO):Prop:=H a=some u\/∃ o,H a=some (.frz o u)
theorem Rd.ok{P:Program}{w:World}{H:Hp}{h:Heap}{a:Addr}{u:HO}(r:Rd H a u)(x:HOk P w H h):Xa P w H h a u:=by
 rcases r with r|⟨o,r⟩
 ·exact x a u r
 ·obtain⟨_,q⟩:=x a _ r
  exact q
noncomputable def Mut:Option HO->Prop
 | some (.lst _)=>True
 | some (.dK _)=>True
 | some (.dT _)=>True
 | some (.set _ _)=>True
 | some (.ins _ _ _)=>True
 | some (.ext _)=>True
 | _=>False
section
variable{P:Program}{w:World}{H:Hp}{h h':Heap}{x e:Addr}{o':HO}
theorem HOk.write(ok:HOk P w H h)(mu:Mut (H x))(he:e=x\/H e=some (.own x))(k:∀ b u,b≠e->h.get? b=some u->h'.get? b=some u)(heo:∃ u,h'.get? e=some u)
  (new:Xa P w (upd H x o') h' x o'):HOk P w (upd H x o') h':=fun b u q=>by
 have nown:∀ c y,H c=some (.own y)->c≠x:=fun c y r z=>by subst z;rw[r] at mu;exact mu
 have ntup:∀ c xs,H c=some (.tup xs)->c≠x:=fun c xs r z=>by subst z;rw[r] at mu;exact mu
 by_cases hb:b=x
 ·subst hb;rw[Zc] at q;cases q;exact new
 ·rw[Zh hb] at q
  by_cases hbe:b=e
  ·have q':H b=some (.own x):=by
    rcases he with z|z
    ·exact absurd (hbe.trans z) hb
    ·rw[hbe];exact z
   rw[q] at q';cases q'
   obtain⟨v,hv⟩:=heo;exact⟨v,by rw[hbe];exact hv⟩
  ·refine(ok b u q).stay (fun c v hc r=>k c v ?_ r) (fun c r=>by rw[Zh (nown c b r)];exact r) fun c xs r=>by rw[Zh (ntup c xs r)];exact r
   rcases hc with rfl|hc
   ·exact hbe
   ·rintro rfl
    rcases he with z|z
    ·exact nown c b hc z
    ·rw[hc] at z;cases z;exact hb rfl
end
structure Un(fs ex:List Addr)(H H':Hp)(h h':Heap):Prop where
 keep:∀ b o,h.get? b=some o->H b=none->b∉fs->b∉ex->h'.get? b=some o
 slot:∀ b o,h.get? b=some o->H b=none->b∈fs->b∉ex->∃ sl,h'.get? b=some { o with slots:=sl }
 free:∀ b o,h.get? b=some o->H b=none->b∉ex->H' b=none
 there:∀ b o,h.get? b=some o->b∉ex->∃ o',h'.get? b=some o'
 tups:∀ b xs,H b=some (.tup xs)->H' b=some (.tup xs)
 frzs:∀ b o u,H b=some (.frz o u)->H' b=some (.frz o u)
 tbls:∀ b ps,H b=some (.tbl ps)->∃ more,H' b=some (.tbl (ps++more))
section
variable{fs fs' ex ex':List Addr}{H H1 H2:Hp}{h h1 h2 h':Heap}{a x e:Addr}{o:HO}
theorem Un.any(u:Un fs ex H H1 h h1){b:Addr}{ob:Obj}(q:h.get? b=some ob)(n:H b=none)(hx:b∉ex):∃ sl,h1.get? b=some { ob with slots:=sl }:=by
 by_cases hb:b∈fs
 ·exact u.slot b ob q n hb hx
 ·exact⟨ob.slots,u.keep b ob q n hb hx⟩
theorem Un.kept(k:∀ b u,h.get? b=some u->h'.get? b=some u):Un fs ex H H h h' :=
 ⟨fun b ob q _ _ _=>k b ob q,fun b ob q _ _ _=>⟨ob.slots,k b ob q⟩,fun _ _ _ n _=>n,fun b ob q _=>⟨ob,k b ob q⟩,fun _ _ q=>q,fun _ _ _ q=>q,fun _ ps q=>⟨#[],by rw[q];simp⟩⟩
theorem Un.refl:Un fs ex H H h h:=Un.kept fun _ _ q=>q
theorem Un.laid(k:∀ b u,h.get? b=some u->h'.get? b=some u)(hp:h.objs.size<=a)(hn:H a=none):Un fs ex H (upd H a o) h h' where
 keep:=fun b u q _ _ _=>k b u q
 slot:=fun b u q _ _ _=>⟨u.slots,k b u q⟩
 free:=fun b u q n _=>by rw[Zh (z1k (z1c (Heap.lt_size q) hp))];exact n
 there:=fun b u q _=>⟨u,k b u q⟩
 tups:=fun b xs q=>by rw[Zh (Zg q hn)];exact q
 frzs:=fun b u xs q=>by rw[Zh (Zg q hn)];exact q
 tbls:=fun b ps q=>⟨#[],by rw[Zh (Zg q hn),q];simp⟩
theorem Un.write(mu:Mut (H x))(he:e=x\/H e=some (.own x))(k:∀ b u,b≠e->h.get? b=some u->h'.get? b=some u)(heo:∃ u,h'.get? e=some u):Un fs ex H (upd H x o) h h':=by
 have hx:∀ b,H b=none->b≠x:=fun b n z=>by subst z;rw[n] at mu;exact mu
 have hb:∀ b,H b=none->b≠e:=fun b n z=>by
  subst z;rcases he with r|r
  ·exact hx b n r
  ·rw[n] at r;cases r
 have hm:∀ b u,H b=some u->¬ Mut (some u)->b≠x:=fun b u q nm z=>by subst z;rw[q] at mu;exact nm mu
 refine⟨fun b u q n _ _=>k b u (hb b n) q,fun b u q n _ _=>⟨u.slots,k b u (hb b n) q⟩,fun b u q n _=>by rw[Zh (hx b n)];exact n,fun b u q _=>?_,
  fun b xs q=>by rw[Zh (hm b _ q fun z=>z)];exact q,fun b u xs q=>by rw[Zh (hm b _ q fun z=>z)];exact q,fun b ps q=>⟨#[],by rw[Zh (hm b _ q fun z=>z),q];simp⟩⟩
 by_cases hbe:b=e
 ·subst hbe;exact heo
 ·exact⟨u,k b u hbe q⟩
end
noncomputable def trk(h:Heap)(H:Hp):List Addr:=(List.range h.objs.size).filter fun a=>(H a).isSome
noncomputable def Eb(h:Heap)(H:Hp):Heap:=PySem.W.hideAll h (trk h H)
theorem zbb(h:Heap)(H:Hp):(Eb h H).objs.size=h.objs.size:=PySem.W.hideAll_size _ _
theorem zcv{h:Heap}{H:Hp}{b:Addr}{o:Obj}(e:h.get? b=some o)(n:H b=none):(Eb h H).get? b=some o :=
 PySem.W.hideAll_get _ e fun hm=>by
  have q:(H b).isSome=true:=(z1t.mp hm).2;rw[n] at q;simp at q
theorem ze7{h:Heap}{H:Hp}{b:Addr}{o:Obj}(e:(Eb h H).get? b=some o):h.get? b=some o/\H b=none:=by
 have e':h.get? b=some o:=PySem.W.of_hideAll (trk h H) e;refine⟨e',?_⟩;cases q:H b with
 | none=>rfl
 | some x =>
   have hm:b∈trk h H:=z1t.mpr ⟨z15.mpr (Heap.lt_size e'),by simp[q]⟩
   have z:(Eb h H).get? b=none:=PySem.W.hideAll_none (trk h H) hm;rw[z] at e;cases e
structure Mod(K:PySem.W.Frag)(mg:Str->Option Value)(base:Heap):Prop where
 kin:K.In base
 glob:base.Ns mainGlobals mg
 blt:∃ mb,base.Ns builtinsNs mb/\∀ x:Str,x≠"__name__"->mb x=bootBuiltins x
 nolimit:base.NoLimit
structure Cx where
 prog:Program
 w:World
 K:PySem.W.Frag
 mg:Str->Option Value
 base:Heap
 A:Around
 N:List Str
 s₀:Shared
 H₀:Hp
 env:Env
 outer:List Env
 stack:List Env
 ex:List Addr
 fn:Str->Bool
 calm:Bool
 pn:List (Addr×Obj)
 xe:Value->Shared->Prop
 lk:List (Option V):=[]
noncomputable def frs(l:List Env):List Addr:=l.filterMap (·.frame)
noncomputable abbrev Cx.fs(X:Cx):List Addr:=frs X.outer
noncomputable def Vis(sc:Scope)(x:Str):Prop:=sc.names.lookup x=some .local\/sc.names.lookup x=some .cell\/sc.names.lookup x=some .free
noncomputable def Loc(sc:Scope)(x:Str):Prop:=sc.names.lookup x=some .local\/sc.names.lookup x=some .cell
noncomputable def Look(env:Env)(h:Heap)(m:Str->Option Value)(x:Str)(u:Value):Prop :=
 (env.kindOf x=some .local/\m x=some u)\/((env.kindOf x=some .cell\/env.kindOf x=some .free)/\∃ c,env.cells.lookup x=some c/\h.IsCell c (some u))
structure Cx.Ok(X:Cx):Prop where
 mod:Mod X.K X.mg X.base
 kind:X.env.scope.kind=.function
 glob:X.env.globals=mainGlobals
 blt:X.env.builtins=builtinsNs
 above:X.s₀.heap.objs.size<=X.env.locals
 inj:∀ x y c,X.env.cells.lookup x=some c->X.env.cells.lookup y=some c->x=y
 has:∀ x,(X.env.kindOf x=some .cell\/X.env.kindOf x=some .free)->∃ c,X.env.cells.lookup x=some c
 cab:∀ x c,X.fn x=true->X.env.cells.lookup x=some c->X.s₀.heap.objs.size<=c
 hd:X.calm=true->X.A.handled=none
 frames:X.A.frames=some X.stack
 stk:X.stack=X.outer\/(X.stack=X.env :: X.outer/\X.env.frame=some X.env.locals)
 exf:∀ b∈X.ex,b≠X.env.locals/\∀ x c,X.env.cells.lookup x=some c->c≠b
 bs:∀ b o,X.base.get? b=some o->X.s₀.heap.get? b=some o/\X.H₀ b=none
 bsz:X.base.objs.size<=X.s₀.heap.objs.size
 noex:∀ b o,X.base.get? b=some o->b∉X.ex
 exfs:∀ b∈X.ex,b∉X.fs
 funs:X.s₀.heap.FunFrames X.base X.outer
 frf:∀ b∈X.fs,X.H₀ b=none
structure Inv(X:Cx)(pins:List (Addr×Obj))(σ:List (Option V))(H:Hp)(s:Shared):Prop where
 ok:X.Ok
 os:s.os=X.s₀.os
 bare:AllBare s.gens
 base:Un X.fs X.ex X.H₀ H X.s₀.heap s.heap
 loc:∃ m,s.heap.Ns X.env.locals m/\∀ (i:Nat) (x:Str) (v:V),X.N[i]?=some x->(σ[i]?=some (some v)\/X.lk[i]?=some (some v))->Vis X.env.scope x->∃ u,RelV v u/\Look X.env s.heap m x u
 cell:∀ x c,X.env.cells.lookup x=some c->∃ v,s.heap.IsCell c v
 free:H X.env.locals=none
 freeC:∀ x c,X.env.cells.lookup x=some c->H c=none
 pin:∀ p∈X.pn++pins,s.heap.get? p.1=some p.2/\H p.1=none/\p.1≠X.env.locals/\p.1∉X.fs/\∀ v,p.2.data≠.cell v
 hok:HOk X.prog X.w H s.heap
 len:σ.length=X.N.length
section
variable{X:Cx}{pins:List (Addr×Obj)}{σ:List (Option V)}{H H':Hp}{s:Shared}{h':Heap}
theorem Cx.Ok.nofr(ok:X.Ok){b:Addr}{o:Obj}(e:X.base.get? b=some o):b∉X.fs:=fun hb=>by
 have:=(ok.funs.mem hb).1;rw[e] at this;cases this
theorem Inv.bs(I:Inv X pins σ H s):∀ b o,X.base.get? b=some o->s.heap.get? b=some o/\H b=none:=fun b o e =>
 ⟨I.base.keep b o (I.ok.bs b o e).1 (I.ok.bs b o e).2 (I.ok.nofr e) (I.ok.noex b o e),I.base.free b o (I.ok.bs b o e).1 (I.ok.bs b o e).2 (I.ok.noex b o e)⟩
theorem Inv.bk(I:Inv X pins σ H s):∀ b o,X.base.get? b=some o->s.heap.get? b=some o:=fun b o e=>(I.bs b o e).1
theorem Inv.mod(I:Inv X pins σ H s):Mod X.K X.mg X.base:=I.ok.mod
theorem Inv.kIn(I:Inv X pins σ H s):X.K.In s.heap:=I.ok.mod.kin.keeps I.bk
theorem Inv.lt(I:Inv X pins σ H s):X.env.locals<s.heap.objs.size:=let ⟨_,hn,_⟩:=I.loc;hn.lt
theorem Inv.sz(I:Inv X pins σ H s):X.s₀.heap.objs.size<=s.heap.objs.size:=z09 I.ok.above (Nat.le_of_lt I.lt)
theorem Inv.nofs(I:Inv X pins σ H s){a:Addr}(h:s.heap.objs.size<=a):a∉X.fs:=fun hb=>by
 obtain⟨_,o,ho,_⟩:=I.ok.funs.mem hb;exact absurd (z1c (Heap.lt_size ho) (z09 I.sz h)) (z2i _)
theorem Inv.cne(I:Inv X pins σ H s):∀ x c,X.env.cells.lookup x=some c->c≠X.env.locals:=fun x c e z=>by
 obtain⟨v,o,ho,hd⟩:=I.cell x c e;obtain⟨m,⟨o',es,ep,ho',hd',_⟩,_⟩:=I.loc;rw[z,ho'] at ho;cases ho;rw[hd'] at hd;cases hd
theorem Inv.funs(I:Inv X pins σ H s):s.heap.FunFrames X.base X.outer:=by
 have all:∀ (l:List Env),(∀ b∈frs l,b∈X.fs)->X.s₀.heap.FunFrames X.base l->s.heap.FunFrames X.base l:=by
  intro l
  induction l with
  | nil=>intro _ _;trivial
  | cons env r ih =>
    intro hs hl;obtain⟨hk,⟨L,o,hf,hn,ho,hd⟩,hr⟩:=hl;have hL:L∈X.fs:=hs L (by unfold frs;rw[z2x,hf];exact z1o)
    obtain⟨sl,e⟩:=I.base.slot L o ho (I.ok.frf L hL) hL fun z=>I.ok.exfs L z hL
    exact⟨hk,⟨L,_,hf,hn,e,hd⟩,ih (fun b hb=>hs b (by unfold frs;rw[z2x,hf];exact z1e _ hb)) hr⟩
 exact all X.outer (fun _ hb=>hb) I.ok.funs
theorem Inv.stack(I:Inv X pins σ H s):s.heap.FunFrames X.base X.stack:=by
 rcases I.ok.stk with e|⟨e,hf⟩
 ·rw[e];exact I.funs
 ·rw[e]
  obtain⟨m,hn,_⟩:=I.loc;refine .cons (by rw[I.ok.kind];decide) hf hn ?_ I.funs
  exact Heap.get?_none_of_le (z09 I.ok.bsz I.ok.above)
theorem Inv.stkSub(I:Inv X pins σ H s):∀ b∈frs X.stack,b∈X.env.locals :: X.fs:=fun b hb=>by
 rcases I.ok.stk with e|⟨e,hf⟩
 ·rw[e] at hb;exact z1e _ hb
 ·rw[e] at hb
  unfold frs at hb
  rw[z2x,hf] at hb
  exact hb
theorem Inv.stkFree(I:Inv X pins σ H s):∀ b∈frs X.stack,H b=none:=fun b hb=>by
 rcases z00.mp (I.stkSub b hb) with e|hb
 ·rw[e];exact I.free
 ·obtain⟨_,o,ho,_⟩:=I.ok.funs.mem hb
  exact I.base.free b o ho (I.ok.frf b hb) fun z=>I.ok.exfs b z hb
theorem Inv.step{g':Array GenState}{t':Nat}{d':Drawn}{ch:List Addr}(I:Inv X pins σ H s)
  (hch:∀ b∈ch,(b∈X.ex\/X.s₀.heap.objs.size<=b)/\b≠X.env.locals/\(∀ x c,X.env.cells.lookup x=some c->c≠b)/\∀ p∈X.pn++pins,p.1≠b)
  (keep:∀ b o,b≠X.env.locals->b∉X.fs->b∉ch->s.heap.get? b=some o->H b=none->h'.get? b=some o)
  (slot:∀ b o,b≠X.env.locals->b∈X.fs->b∉ch->s.heap.get? b=some o->H b=none->∃ sl,h'.get? b=some { o with slots:=sl }) (free:∀ b o,b∉ch->s.heap.get? b=some o->H b=none->H' b=none)
  (there:∀ b o,b∉ch->s.heap.get? b=some o->∃ o',h'.get? b=some o')
  (tups:∀ b xs,H b=some (.tup xs)->H' b=some (.tup xs)) (frzs:∀ b o u,H b=some (.frz o u)->H' b=some (.frz o u)) (tbls:∀ b ps,H b=some (.tbl ps)->∃ more,H' b=some (.tbl (ps++more)))
  (ns:∀ m,s.heap.Ns X.env.locals m->h'.Ns X.env.locals m) (hok:HOk X.prog X.w H' h') (hg:AllBare g') :
  Inv X pins σ H' { s with heap:=h',gens:=g',drawn:=d',toks:=t' }:=by
 have neL:∀ b o,X.s₀.heap.get? b=some o->b≠X.env.locals:=fun b o e=>z1k (z1c (Heap.lt_size e) I.ok.above)
 have neC:∀ b o,X.s₀.heap.get? b=some o->b∉X.ex->b∉ch:=fun b o e hx hb=>by
  rcases(hch b hb).1 with z|z
  ·exact hx z
  ·exact absurd (z1c (Heap.lt_size e) z) (z2i _)
 have cellK:∀ x c,X.env.cells.lookup x=some c->∀ v,s.heap.IsCell c v->h'.IsCell c v:=fun x c e v ⟨o,ho,hd⟩=>by
  have nch:c∉ch:=fun z=>(hch c z).2.2.1 x c e rfl
  by_cases hc:c∈X.fs
  ·obtain⟨sl,q⟩:=slot c o (I.cne x c e) hc nch ho (I.freeC x c e)
   exact⟨_,q,hd⟩
  ·exact⟨o,keep c o (I.cne x c e) hc nch ho (I.freeC x c e),hd⟩
 refine⟨I.ok,I.os,hg,⟨fun b o e n hb hx=>?_,fun b o e n hb hx=>?_,fun b o e n hx=>?_,fun b o e hx=>?_,fun b xs e=>tups b xs (I.base.tups b xs e),fun b o xs e=>frzs b o xs (I.base.frzs b o xs e),fun b ps e=>?_⟩,?_,fun x c e=>?_,?_,fun x c e=>?_,fun p hp=>?_,hok,I.len⟩
 ·exact keep b o (neL b o e) hb (neC b o e hx) (I.base.keep b o e n hb hx) (I.base.free b o e n hx)
 ·obtain⟨sl,e1⟩:=I.base.slot b o e n hb hx
  obtain⟨sl',e2⟩:=slot b _ (neL b o e) hb (neC b o e hx) e1 (I.base.free b o e n hx);exact⟨sl',e2⟩
 ·obtain⟨o',e1⟩:=I.base.there b o e hx
  exact free b o' (neC b o e hx) e1 (I.base.free b o e n hx)
 ·obtain⟨o',e1⟩:=I.base.there b o e hx
  exact there b o' (neC b o e hx) e1
 ·obtain⟨m1,e1⟩:=I.base.tbls b ps e
  obtain⟨m2,e2⟩:=tbls b _ e1;exact⟨m1++m2,by rw[e2,Array.append_assoc]⟩
 ·obtain⟨m,hn,hl⟩:=I.loc
  refine⟨m,ns m hn,fun i x v e1 e2 e3=>?_⟩
  obtain⟨u,r,l⟩:=hl i x v e1 e2 e3;refine⟨u,r,?_⟩;rcases l with l|⟨k,c,e,z⟩
  ·exact .inl l
  ·exact .inr ⟨k,c,e,cellK x c e _ z⟩
 ·obtain⟨v,z⟩:=I.cell x c e
  exact⟨v,cellK x c e v z⟩
 ·obtain⟨m,⟨o,_,_,ho,_⟩,_⟩:=I.loc
  exact free _ o (fun z=>(hch _ z).2.1 rfl) ho I.free
 ·obtain⟨v,o,ho,hd⟩:=I.cell x c e
  exact free c o (fun z=>(hch c z).2.2.1 x c e rfl) ho (I.freeC x c e)
 ·obtain⟨e,n,ne,nf,d⟩:=I.pin p hp
  have nch:p.1∉ch:=fun z=>(hch p.1 z).2.2.2 p hp rfl
  exact⟨keep p.1 p.2 ne nf nch e n,free p.1 p.2 nch e n,ne,nf,d⟩
theorem Inv.un{t':Nat}(I:Inv X pins σ H s)(u:Un X.fs [] H H' s.heap h')(hok:HOk X.prog X.w H' h'):Inv X pins σ H' { s with heap:=h',toks:=t' }:=by
 obtain⟨m,⟨o,es,ep,ho,r⟩,_⟩:=id I.loc;obtain⟨sl,hL⟩:=u.any ho I.free (by simp)
 exact I.step (g':=s.gens) (d':=s.drawn) (ch:=[]) (fun _ z=>nomatch z) (fun b o _ hb _ e n=>u.keep b o e n hb (by simp)) (fun b o _ hb _ e n=>u.slot b o e n hb (by simp)) (fun b o _ e n=>u.free b o e n (by simp)) (fun b o _ e=>u.there b o e (by simp)) u.tups u.frzs u.tbls (fun m' hm=>by
  obtain⟨o',es',ep',ho',r'⟩:=hm;rw[ho] at ho';cases ho'
  exact⟨_,es',ep',hL,r'⟩) hok I.bare
theorem Inv.call{g':Array GenState}{t':Nat}{d':Drawn}{ch:List Addr}(I:Inv X pins σ H s)(u:Un (frs X.stack) ch H H' s.heap h')(hok:HOk X.prog X.w H' h')(hg:AllBare g')
  (hch:∀ b∈ch,(b∈X.ex\/X.s₀.heap.objs.size<=b)/\b≠X.env.locals/\(∀ x c,X.env.cells.lookup x=some c->c≠b)/\∀ p∈X.pn++pins,p.1≠b) :
  Inv X pins σ H' { s with heap:=h',gens:=g',drawn:=d',toks:=t' }:=by
 obtain⟨m,⟨o,es,ep,ho,r⟩,_⟩:=id I.loc;obtain⟨sl,hL⟩:=u.any ho I.free fun z=>(hch _ z).2.1 rfl
 exact I.step (ch:=ch) hch (fun b o hL hb hc e n=>u.keep b o e n (fun z=>(z00.mp (I.stkSub b z)).elim hL hb) hc) (fun b o _ _ hc e n=>u.any e n hc) (fun b o hc e n=>u.free b o e n hc) (fun b o hc e=>u.there b o e hc) u.tups u.frzs u.tbls (fun m' hm=>by
  obtain⟨o',es',ep',ho',r'⟩:=hm;rw[ho] at ho';cases ho'
  exact⟨_,es',ep',hL,r'⟩) hok hg
theorem Inv.turned{t':Nat}{it:Addr}(I:Inv X pins σ H s)(k:∀ b o,b≠it->s.heap.get? b=some o->h'.get? b=some o)(hn:H it=none)(hL:it≠X.env.locals)
  (h1:it∈X.ex\/X.s₀.heap.objs.size<=it) (h2:∀ x c,X.env.cells.lookup x=some c->c≠it) (h3:∀ p∈X.pn++pins,p.1≠it):Inv X pins σ H { s with heap:=h',toks:=t' }:=by
 have nit:∀ b u,H b=some u->b≠it:=fun b u e z=>by rw[z,hn] at e;cases e
 refine I.step (g':=s.gens) (d':=s.drawn) (ch:=[it]) (fun b hb=>?_) (fun b o _ _ hc e _=>k b o (fun z=>hc (by simp[z])) e) (fun b o _ _ hc e _=>⟨o.slots,k b o (fun z=>hc (by simp[z])) e⟩) (fun _ _ _ _ n=>n)
  (fun b o hc e=>⟨o,k b o (fun z=>hc (by simp[z])) e⟩) (fun _ _ e=>e) (fun _ _ _ e=>e) (fun b ps e=>⟨#[],by rw[e];simp⟩) (fun m hm=>?_) (fun b u e=>?_) I.bare
 ·have e:b=it:=by simpa using hb
  subst e;exact⟨h1,hL,h2,h3⟩
 ·obtain⟨o,es,ep,ho,r⟩:=hm
  exact⟨o,es,ep,k _ o (Ne.symm hL) ho,r⟩
 ·refine(I.hok b u e).stay (fun c v hc q=>k c v ?_ q) (fun _ q=>q) fun _ _ q=>q
  rcases hc with z|z
  ·rw[z];exact nit b u e
  ·exact nit c _ z
theorem Inv.tok(I:Inv X pins σ H s)(t:Nat):Inv X pins σ H { s with toks:=t }:=I.un (h':=s.heap) (t':=t) Un.refl I.hok
theorem Inv.kept{t':Nat}(I:Inv X pins σ H s)(k:∀ b u,s.heap.get? b=some u->h'.get? b=some u):Inv X pins σ H { s with heap:=h',toks:=t' }:=I.un (Un.kept k) (I.hok.kept k)
theorem Inv.laid{a:Addr}{o:HO}{t':Nat}(I:Inv X pins σ H s)(k:∀ b u,s.heap.get? b=some u->h'.get? b=some u)(hp:s.heap.objs.size<=a)(new:Xa X.prog X.w (upd H a o) h' a o) :
  Inv X pins σ (upd H a o) { s with heap:=h',toks:=t' }:=I.un (Un.laid k hp (I.hok.fresh hp)) (I.hok.laid k hp new)
theorem Inv.write{x e:Addr}{o:HO}{t':Nat}(I:Inv X pins σ H s)(mu:Mut (H x))(he:e=x\/H e=some (.own x))(k:∀ b u,b≠e->s.heap.get? b=some u->h'.get? b=some u)(heo:∃ u,h'.get? e=some u)
  (new:Xa X.prog X.w (upd H x o) h' x o):Inv X pins σ (upd H x o) { s with heap:=h',toks:=t' }:=I.un (Un.write mu he k heo) (I.hok.write mu he k heo new)
theorem Inv.weak{σ':List (Option V)}(I:Inv X pins σ H s)(hl:σ'.length=σ.length)(w:∀ (i:Nat) v,σ'[i]?=some (some v)->σ[i]?=some (some v)):Inv X pins σ' H s :=
 ⟨I.ok,I.os,I.bare,I.base,let ⟨m,hn,hl'⟩:=I.loc;⟨m,hn,fun i x v e1 e2 e3=>hl' i x v e1 (e2.imp_left (w i v)) e3⟩,I.cell,I.free,I.freeC,I.pin,I.hok,hl.trans I.len⟩
theorem Inv.pins_of{pins':List (Addr×Obj)}(I:Inv X pins σ H s)(h:∀ p∈pins',s.heap.get? p.1=some p.2/\H p.1=none/\p.1≠X.env.locals/\p.1∉X.fs/\∀ v,p.2.data≠.cell v):Inv X pins' σ H s :=
 ⟨I.ok,I.os,I.bare,I.base,I.loc,I.cell,I.free,I.freeC,fun p hp=>(z06.mp hp).elim (fun z=>I.pin p (z1m _ z)) (h p),I.hok,I.len⟩
theorem Dp{N:List Str}(hN:N.Nodup){i j:Nat}{x:Str}(a:N[i]?=some x)(b:N[j]?=some x):i=j:=by
 obtain⟨h1,e1⟩:=z0v.mp a;obtain⟨h2,e2⟩:=z0v.mp b;exact(List.getElem_inj hN).mp (e1.trans e2.symm)
noncomputable def Dq(X:Cx)(i:Nat)(x:Str):Prop:=(X.fn x=true\/X.env.scope.names.lookup x=some .local)/\∀ v,X.lk[i]?≠some (some v)
theorem Wr{i:Nat}:∀ v:V,([]:List (Option V))[i]?≠some (some v):=fun _ h=>by simp at h
theorem Mf{M:Model}{A:Around}{E:Value->Shared->Prop}{i:Nat}{x:Str}{v:V}{u:Value}{Q:Unit->Shared->Prop}(I:Inv X pins σ H s)(hN:X.N.Nodup)(hi:X.N[i]?=some x)(hx:Loc X.env.scope x)(r:RelV v u)
  (h:∀ s',Inv X pins (σ.set i (some v)) H s'->(∃ a,Heap.SameBut a s.heap s'.heap/\(a=X.env.locals\/X.env.cells.lookup x=some a))->Q () s') (hf:Dq X i x:=by first|exact⟨.inl rfl,Wr⟩|exact⟨.inr rfl,Wr⟩|assumption|exact⟨.inl rfl,by assumption⟩|exact⟨.inr rfl,by assumption⟩):wpAny M A (storeName X.env x u) Q E s:=by
 obtain⟨m,hn,hl⟩:=id I.loc;have hcls:(X.env.scope.kind == .class||(X.env.scope.kind == .module&&X.env.locals != X.env.globals))=false:=by rw[I.ok.kind];rfl
 have hiσ:i<σ.length:=by rw[I.len];exact(z0v.mp hi).1
 have cne:=I.cne;have tracked:∀ {a:Addr} {h':Heap},(∃ o,s.heap.get? a=some o/\H a=none)->Heap.SameBut a s.heap h'->HOk X.prog X.w H h':=fun {a h'} ha hs b ob e=>by
  obtain⟨_,_,hfree⟩:=ha;refine(I.hok b ob e).stay (fun c w' hc q=>(hs.2 c ?_).trans q) (fun _ q=>q) fun _ _ q=>q
  rintro rfl;rcases hc with rfl|hc
  ·rw[hfree] at e;cases e
  ·rw[hfree] at hc;cases hc
 rcases hx with hk|hk
 ·refine wpAny_storeName_local hk hn (fun h' hn' hs=>?_) hcls
  obtain⟨oL,_,_,hoL,_⟩:=id hn;refine h _ ⟨I.ok,I.os,I.bare,⟨fun b o e n hb hx=>?_,fun b o e n hb hx=>?_,I.base.free,fun b o e hx=>?_,I.base.tups,I.base.frzs,I.base.tbls⟩,⟨_,hn',fun j y v' e1 e2 e3=>?_⟩,fun y c e=>?_,I.free,I.freeC,fun p hp=>?_,tracked ⟨oL,hoL,I.free⟩ hs,by simpa using I.len⟩ ⟨_,hs,.inl rfl⟩
  ·exact(hs.2 b (z1k (z1c (Heap.lt_size e) I.ok.above))).trans (I.base.keep b o e n hb hx)
  ·obtain⟨sl,e1⟩:=I.base.slot b o e n hb hx
   exact⟨sl,(hs.2 b (z1k (z1c (Heap.lt_size e) I.ok.above))).trans e1⟩
  ·obtain⟨o',e1⟩:=I.base.there b o e hx
   exact⟨o',(hs.2 b (z1k (z1c (Heap.lt_size e) I.ok.above))).trans e1⟩
  ·by_cases hj:j=i
   ·subst hj
    rw[hi] at e1;cases e1
    rcases e2 with e2|e2
    case' inr=>exact absurd e2 (hf.2 _)
    rw[z1y hiσ] at e2
    cases e2;exact⟨u,r,.inl ⟨hk,by simp⟩⟩
   ·have e2:σ[j]?=some (some v')\/X.lk[j]?=some (some v'):=e2.imp_left fun z=>by rw[z1x (Ne.symm hj)] at z;exact z
    obtain⟨u',r',q⟩:=hl j y v' e1 e2 e3;refine⟨u',r',?_⟩;rcases q with ⟨k,e⟩|⟨k,c,e,z⟩
    ·refine .inl ⟨k,?_⟩
     have:y≠x:=fun e=>hj (Dp hN e1 (e▸hi))
     simp[this,e]
    ·exact .inr ⟨k,c,e,z.sameBut hs (cne y c e)⟩
  ·obtain⟨w',z⟩:=I.cell y c e
   exact⟨w',z.sameBut hs (cne y c e)⟩
  ·obtain⟨e,n,ne,nf,d⟩:=I.pin p hp
   exact⟨(hs.2 p.1 ne).trans e,n,ne,nf,d⟩
 ·have hfn:X.fn x=true:=by
   rcases hf.1 with z|z
   ·exact z
   ·rw[z] at hk;cases hk
  obtain⟨c,hc⟩:=I.ok.has x (.inl hk);obtain⟨w',z⟩:=I.cell x c hc;refine wpAny_storeName_cell I.ok.kind hk hc z (fun h' hc' hs=>?_)
  obtain⟨oc,hoc,hocd⟩:=id z;refine h { s with heap:=h' } ⟨I.ok,I.os,I.bare,⟨fun b o e n hb hx=>?_,fun b o e n hb hx=>?_,I.base.free,fun b o e hx=>?_,I.base.tups,I.base.frzs,I.base.tbls⟩,⟨m,hn.sameBut hs (Ne.symm (cne x c hc)),fun j y v' e1 e2 e3=>?_⟩,fun y c' e=>?_,I.free,I.freeC,fun p hp=>?_,tracked ⟨oc,hoc,I.freeC x c hc⟩ hs,by simpa using I.len⟩ ⟨c,hs,.inr hc⟩
  ·exact(hs.2 b (z1k (z1c (Heap.lt_size e) (I.ok.cab x c hfn hc)))).trans (I.base.keep b o e n hb hx)
  ·obtain⟨sl,e1⟩:=I.base.slot b o e n hb hx
   exact⟨sl,(hs.2 b (z1k (z1c (Heap.lt_size e) (I.ok.cab x c hfn hc)))).trans e1⟩
  ·obtain⟨o',e1⟩:=I.base.there b o e hx
   exact⟨o',(hs.2 b (z1k (z1c (Heap.lt_size e) (I.ok.cab x c hfn hc)))).trans e1⟩
  ·by_cases hj:j=i
   ·subst hj
    rw[hi] at e1;cases e1
    rcases e2 with e2|e2
    case' inr=>exact absurd e2 (hf.2 _)
    rw[z1y hiσ] at e2
    cases e2;exact⟨u,r,.inr ⟨.inl hk,c,hc,hc'⟩⟩
   ·have e2:σ[j]?=some (some v')\/X.lk[j]?=some (some v'):=e2.imp_left fun z=>by rw[z1x (Ne.symm hj)] at z;exact z
    obtain⟨u',r',q⟩:=hl j y v' e1 e2 e3;refine⟨u',r',?_⟩;rcases q with q|⟨k,c',e,z'⟩
    ·exact .inl q
    ·refine .inr ⟨k,c',e,z'.sameBut hs ?_⟩
     rintro rfl;exact hj (Dp hN e1 (I.ok.inj _ _ _ e hc▸hi))
  ·by_cases hcc:c'=c
   ·subst hcc;exact⟨_,hc'⟩
   ·obtain⟨w2,z2⟩:=I.cell y c' e
    exact⟨w2,z2.sameBut hs hcc⟩
  ·obtain⟨e,n,ne,nf,d⟩:=I.pin p hp
   refine⟨(hs.2 p.1 ?_).trans e,n,ne,nf,d⟩;intro q;rw[q,hoc] at e
   have q':oc=p.2:=Option.some.inj e;exact d w' (by rw[<- q'];exact hocd)
theorem Dr{M:Model}{A:Around}{E:Value->Shared->Prop}{i:Nat}{x:Str}{v:V}{u:Value}{Q:Unit->Shared->Prop}(I:Inv X pins σ H s)(hN:X.N.Nodup)(hi:X.N[i]?=some x)(hx:Loc X.env.scope x)(r:RelV v u)
  (h:∀ s',Inv X pins (σ.set i (some v)) H s'->Q () s') (hf:Dq X i x:=by first|exact⟨.inl rfl,Wr⟩|exact⟨.inr rfl,Wr⟩|assumption|exact⟨.inl rfl,by assumption⟩|exact⟨.inr rfl,by assumption⟩):wpAny M A (storeName X.env x u) Q E s :=
 Mf I hN hi hx r (fun s' I' _=>h s' I') hf
theorem Inv.call'{s':Shared}{ch:List Addr}(I:Inv X pins σ H s)(ho:s'.os=s.os)(u:Un (frs X.stack) ch H H' s.heap s'.heap)(hok:HOk X.prog X.w H' s'.heap)(hg:AllBare s'.gens)
  (hch:∀ b∈ch,(b∈X.ex\/X.s₀.heap.objs.size<=b)/\b≠X.env.locals/\(∀ x c,X.env.cells.lookup x=some c->c≠b)/\∀ p∈X.pn++pins,p.1≠b):Inv X pins σ H' s':=by
 obtain⟨h',g',d',t',o'⟩:=s';have e:o'=s.os:=ho;subst e;exact I.call (g':=g') (t':=t') (d':=d') u hok hg hch
end
noncomputable abbrev XK:=Value->Option Addr->Hp->Prop
noncomputable abbrev St:=List (Option V)
noncomputable abbrev VK:=V->Hp->Prop
noncomputable abbrev TE:=St->Hp->VK->Prop
noncomputable abbrev TT:=St->Hp->(Bool->Hp->Prop)->Prop
noncomputable abbrev TA:=St->Hp->(List V->Hp->Prop)->Prop
structure S5 where
 nx:St->Hp->Prop
 rt:VK
 bk:St->Hp->Prop:=fun _ _=>False
 ct:St->Hp->Prop:=fun _ _=>False
noncomputable abbrev TS:=S5->St->Hp->Prop
noncomputable def EP(X:Cx)(pins:List (Addr×Obj))(σ:St)(Q:VK)(u:Value)(s':Shared):Prop:=∃ v H',Inv X pins σ H' s'/\RelV v u/\Q v H'
noncomputable def TP(X:Cx)(pins:List (Addr×Obj))(σ:St)(Q:Bool->Hp->Prop)(b:Bool)(s':Shared):Prop:=∃ H',Inv X pins σ H' s'/\Q b H'
noncomputable def AP(X:Cx)(pins:List (Addr×Obj))(σ:St)(Q:List V->Hp->Prop)(us:List Value)(s':Shared):Prop:=∃ vs H',Inv X pins σ H' s'/\Vals vs us/\Q vs H'
noncomputable def SP(X:Cx)(pins:List (Addr×Obj))(D:S5)(f:Flow)(s':Shared):Prop :=
 match f with
 | .next=>∃ σ' H',Inv X pins σ' H' s'/\D.nx σ' H'
 | .brk=>∃ σ' H',Inv X pins σ' H' s'/\D.bk σ' H'
 | .cont=>∃ σ' H',Inv X pins σ' H' s'/\D.ct σ' H'
 | .ret u=>∃ v σ' H',Inv X pins σ' H' s'/\RelV v u/\D.rt v H'
noncomputable def PE(X:Cx)(e:Expr)(t:TE):Prop :=
 ∀ (pins:List (Addr×Obj)) (s:Shared) (σ:St) (H:Hp) (Q:VK),Inv X pins σ H s->t σ H Q->wpAny (model X.prog X.w) X.A (eval e X.env) (EP X pins σ Q) X.xe s
noncomputable def PT(X:Cx)(e:Expr)(t:TT):Prop :=
 ∀ (pins:List (Addr×Obj)) (s:Shared) (σ:St) (H:Hp) (Q:Bool->Hp->Prop),Inv X pins σ H s->t σ H Q->wpAny (model X.prog X.w) X.A (isTrue e X.env (eval e X.env)) (TP X pins σ Q) X.xe s
noncomputable def PW(X:Cx)(e:Expr)(t:TT):Prop :=
 ∀ (whole:Sem Value) (pins:List (Addr×Obj)) (s:Shared) (σ:St) (H:Hp) (Q:Bool->Hp->Prop),Inv X pins σ H s->t σ H Q->wpAny (model X.prog X.w) X.A (isTrue e X.env whole) (TP X pins σ Q) X.xe s
theorem PW.pt{X:Cx}{e:Expr}{t:TT}(h:PW X e t):PT X e t:=h _
noncomputable def PA(X:Cx)(es:List Expr)(t:TA):Prop :=
 ∀ (pos:Pos) (pins:List (Addr×Obj)) (s:Shared) (σ:St) (H:Hp) (Q:List V->Hp->Prop),Inv X pins σ H s->t σ H Q->wpAny (model X.prog X.w) X.A (spliced (backTo pos (starEach es X.env))) (AP X pins σ Q) X.xe s
noncomputable def PS(X:Cx)(st:Stmt)(t:TS):Prop :=
 ∀ (pins:List (Addr×Obj)) (s:Shared) (σ:St) (H:Hp) (D:S5),Inv X pins σ H s->t D σ H->wpAny (model X.prog X.w) X.A (exec st X.env) (SP X pins D) X.xe s
noncomputable def PSs(X:Cx)(st:List Stmt)(t:TS):Prop :=
 ∀ (pins:List (Addr×Obj)) (s:Shared) (σ:St) (H:Hp) (D:S5),Inv X pins σ H s->t D σ H->wpAny (model X.prog X.w) X.A (execs st X.env) (SP X pins D) X.xe s
theorem thn{α:Type}{t:Sem α}{Q Q':α->Shared->Prop}{M:Model}{A:Around}{E:Value->Shared->Prop}{s:Shared}(h:wpAny M A t Q E s)(hQ:∀ a s,Q a s->Q' a s):wpAny M A t Q' E s:=wpAny_mono h hQ fun _ _ x=>x
section
variable{X:Cx}
inductive ze8(i:Nat)(σ:L2.St)(H:Hp)(Q:VK):Prop where
 | mk(v)(_:σ[i]?=some (some v))(_:Q v H)
noncomputable def tC(v:V):TE:=fun _ H Q=>Q v H
theorem zgu{i:Nat}{x:Str}{pos:Pos}(hN:X.N[i]?=some x)(hv:Vis X.env.scope x)(hd:(x == ("__debug__":Str))=false:=by decide)(hcd:(x == ("__classdict__":Str))=false:=by decide):PE X (.Name x pos) (ze8 i):=by
 intro pins s σ H Q I h;obtain⟨v,e,h⟩:=h;obtain⟨m,hn,hl⟩:=I.loc;obtain⟨u,r,l⟩:=hl i x v hN (.inl e) hv;have fin:EP X pins σ Q u s:=⟨v,H,I,r,h⟩;rcases l with ⟨hk,hm⟩|⟨hk,c,hc,hcell⟩
 ·exact wpAny_Name (wpAny_loadName_local I.ok.kind hk hn hm fin) hd
 ·rcases hk with hk|hk
  ·exact wpAny_Name (wpAny_loadName_cell I.ok.kind hk hc hcell fin) hd
  ·exact wpAny_Name (wpAny_loadName_free I.ok.kind hk hc hcell fin hcd) hd
theorem Zi{i j pos}:PE X (.Constant (.int i) j pos) (tC (.int i)):=fun _ _ _ H _ I h=>wpAny_Constant_int ⟨.int i,H,I.tok _,⟨_,rfl⟩,h⟩
theorem Xq{b j pos}:PE X (.Constant (.bool b) j pos) (tC (.bl b)):=fun _ _ _ H _ I h=>Constant_bool ⟨.bl b,H,I,rfl,h⟩
theorem Y5{j pos}:PE X (.Constant .none j pos) (tC .non):=fun _ _ _ H _ I h=>Constant_none ⟨.non,H,I,rfl,h⟩
theorem Zs{x j pos}:PE X (.Constant (.str x) j pos) (tC (.str x)):=fun _ _ _ H _ I h=>Calls.Constant_str ⟨.str x,H,I.tok _,⟨_,rfl⟩,h⟩
noncomputable def Gl(X:Cx)(x:Str):Prop:=X.env.kindOf x=some .globalImplicit
theorem O8{E:Value->Shared->Prop}{pins:List (Addr×Obj)}{s:Shared}{σ:St}{H:Hp}{x:Str}{u:Value}{pos:Pos}{Q:Value->Shared->Prop}(I:Inv X pins σ H s)(hg:Gl X x)(hm:X.mg x=some u)(h:Q u s)
  (hd:(x == ("__debug__":Str))=false:=by decide):wpAny (model X.prog X.w) X.A (eval (.Name x pos) X.env) Q E s :=
 Calls.Name_function_global I.ok.kind hg (Calls.loadGlobal_global (by rw[I.ok.glob];exact I.mod.glob.keeps I.bk) hm h) hd
theorem Oc{E:Value->Shared->Prop}{pins:List (Addr×Obj)}{s:Shared}{σ:St}{H:Hp}{x:Str}{u:Value}{pos:Pos}{Q:Value->Shared->Prop}(I:Inv X pins σ H s)(hg:Gl X x)(hm:X.mg x=none)(hv:bootBuiltins x=some u)(h:Q u s)
  (hn:x≠"__name__":=by decide) (hd:(x == ("__debug__":Str))=false:=by decide):wpAny (model X.prog X.w) X.A (eval (.Name x pos) X.env) Q E s:=by
 obtain⟨mb,h1,h2⟩:=I.mod.blt;exact Calls.Name_function_global I.ok.kind hg (Calls.loadGlobal_builtin (by rw[I.ok.glob];exact I.mod.glob.keeps I.bk) hm (by rw[I.ok.blt];exact h1.keeps I.bk) ((h2 x hn).trans hv) h) hd
theorem ze9{x:Str}{v:V}{u:Value}{pos:Pos}(hg:Gl X x)(hm:X.mg x=some u)(r:RelV v u)(hd:(x == ("__debug__":Str))=false:=by decide):PE X (.Name x pos) (tC v) :=
 fun _ _ _ H _ I h=>O8 I hg hm ⟨v,H,I,r,h⟩ hd
theorem Tn{x:Str}{v:V}{u:Value}{pos:Pos}(hg:Gl X x)(hm:X.mg x=none)(hv:bootBuiltins x=some u)(r:RelV v u)(hn:x≠"__name__":=by decide)(hd:(x == ("__debug__":Str))=false:=by decide):PE X (.Name x pos) (tC v) :=
 fun _ _ _ H _ I h=>Oc I hg hm hv ⟨v,H,I,r,h⟩ hn hd
variable{a b:Expr}{ta tb:TE}{pos:Pos}
noncomputable def PC(X:Cx)(op:CmpOp)(a b:Expr)(t:TE):Prop :=
 ∀ (pins:List (Addr×Obj)) (s:Shared) (σ:St) (H:Hp) (Q:VK),Inv X pins σ H s->t σ H Q ->
   wpAny (model X.prog X.w) X.A (eval a X.env) (fun v s₁=>wpAny (model X.prog X.w) X.A (eval b X.env) (fun u s₂=>wpAny (model X.prog X.w) X.A (compareOp op v u) (EP X pins σ Q) X.xe s₂) X.xe s₁) X.xe s
inductive tBI(Q:Bool->Hp->Prop)(x:V)(H1:Hp):Prop where
 | mk(c)(_:x=.bl c)(_:Q c H1)
noncomputable def tB(t:TE):TT:=fun σ H Q=>t σ H fun x H1=>tBI Q x H1
theorem zgv{op:CmpOp}{t:TE}(h:PC X op a b t)(h1:behindInMarks op b=false:=by first|exact nobehind _ (by decide) (by decide)|rfl):PE X (.Compare a [op] [b] pos) t:=fun pins s σ H Q I hw=>wpAny_Compare1 (h pins s σ H Q I hw) h1
theorem S6{op:CmpOp}{t:TE}(h:PC X op a b t)(h1:behindInMarks op b=false:=by first|exact nobehind _ (by decide) (by decide)|rfl):PT X (.Compare a [op] [b] pos) (tB t):=by
 intro pins s σ H Q I hw;refine wpAny_isTrue_Compare1 (thn (h pins s σ H _ I hw) fun v s1 h1=>thn h1 fun u s2 h2=>thn h2 fun c s3 ⟨x,H1,I1,r1,q1⟩=>?_) h1
 obtain⟨d,rfl,q⟩:=q1;cases r1;exact wpAny_truthy_bool ⟨H1,I1,q⟩
theorem X1{e:Expr}{t:TE}(h:PE X e t)(he:∀ whole,isTrue e X.env whole=(do let v <- whole;standAt e.pos;holding [v] (truthy v)):=by intro _;rfl):PT X e (tB t):=by
 intro pins s σ H Q I hw;refine isTrue_plain (thn (h pins s σ H _ I hw) fun v s1 ⟨x,H1,I1,r1,q1⟩=>?_) (he _)
 obtain⟨d,rfl,q⟩:=q1;cases r1;exact wpAny_truthy_bool ⟨H1,I1,q⟩
variable{tA tB':TT}{rest:List Expr}
noncomputable def zgw(t u:TT):TT:=fun σ H Q=>t σ H fun c H1=>if c=true then u σ H1 Q else Q false H1
noncomputable def tOr(t u:TT):TT:=fun σ H Q=>t σ H fun c H1=>if c=true then Q true H1 else u σ H1 Q
noncomputable def zjp(t:TT):TT:=fun σ H Q=>t σ H fun c H1=>Q (!c) H1
theorem O9(ha:PT X a tA):PW X (.BoolOp .And [a] pos) tA:=by
 intro wh pins s σ H Q I h;refine isTrue_and (thn (ha pins s σ H Q I h) fun c s1 e=>?_)
 cases c with
 | true=>exact isTrue_and_nil e
 | false=>exact e
theorem Ws(ha:PT X a tA):PW X (.BoolOp .Or [a] pos) tA:=by
 intro wh pins s σ H Q I h;refine isTrue_or (thn (ha pins s σ H Q I h) fun c s1 e=>?_)
 cases c with
 | false=>exact isTrue_or_nil e
 | true=>exact e
theorem Jf(ha:PT X a tA)(hb:PW X (.BoolOp .And (b :: rest) pos) tB'):PW X (.BoolOp .And (a :: b :: rest) pos) (zgw tA tB'):=by
 intro wh pins s σ H Q I h;refine isTrue_and (thn (ha pins s σ H _ I h) fun c s1 ⟨H1,I1,q1⟩=>?_)
 cases c with
 | true=>exact hb wh pins s1 σ H1 Q I1 q1
 | false=>exact⟨H1,I1,q1⟩
theorem V0(ha:PT X a tA)(hb:PW X (.BoolOp .Or (b :: rest) pos) tB'):PW X (.BoolOp .Or (a :: b :: rest) pos) (tOr tA tB'):=by
 intro wh pins s σ H Q I h;refine isTrue_or (thn (ha pins s σ H _ I h) fun c s1 ⟨H1,I1,q1⟩=>?_)
 cases c with
 | true=>exact⟨H1,I1,q1⟩
 | false=>exact hb wh pins s1 σ H1 Q I1 q1
theorem Wa(ha:PT X a tA):PT X (.UnaryOp .Not a pos) (zjp tA):=by
 intro pins s σ H Q I h;exact isTrue_not (ha pins s σ H (fun c H1=>Q (!c) H1) I h)
inductive zgx(tb:TE)(σ:L2.St)(Q:VK)(x:V)(H1:Hp):Prop where
 | mk(c)(_:x=.bl c)(_:if c=true then tb σ H1 Q else Q (.bl false) H1)
noncomputable def zie(ta tb:TE):TE:=fun σ H Q=>ta σ H fun x H1=>zgx tb σ Q x H1
inductive zgy(Q:VK)(x:V)(H1:Hp):Prop where
 | mk(c)(_:x=.bl c)(_:Q (.bl (!c)) H1)
noncomputable def zif(ta:TE):TE:=fun σ H Q=>ta σ H fun x H1=>zgy Q x H1
theorem zcw{op}{t:TE}(h:PE X a t):PE X (.BoolOp op [a] pos) t:=fun pins s σ H Q I hw=>BoolOp_one (h pins s σ H Q I hw)
theorem zcx(ha:PE X a ta)(hb:PE X (.BoolOp .And (b :: rest) pos) tb):PE X (.BoolOp .And (a :: b :: rest) pos) (zie ta tb):=by
 intro pins s σ H Q I h;refine BoolOp_and (thn (ha pins s σ H _ I h) fun v s1 ⟨x,H1,I1,r1,q1⟩=>?_)
 obtain⟨c,rfl,q1⟩:=q1;cases r1;refine wpAny_truthy_bool ?_;cases c with
 | true=>exact hb pins s1 σ H1 Q I1 q1
 | false=>exact⟨.bl false,H1,I1,rfl,q1⟩
theorem zgz(ha:PE X a ta):PE X (.UnaryOp .Not a pos) (zif ta):=by
 intro pins s σ H Q I h;refine UnaryOp_ (thn (ha pins s σ H _ I h) fun v s1 ⟨x,H1,I1,r1,q1⟩=>?_)
 obtain⟨c,rfl,q1⟩:=q1;cases r1;exact not_of (wpAny_truthy_bool ⟨.bl (!c),H1,I1,rfl,q1⟩)
noncomputable def tIf(t:TT)(ta tb:TE):TE:=fun σ H Q=>t σ H fun c H1=>if c=true then ta σ H1 Q else tb σ H1 Q
theorem Ds{c:Expr}(hc:PT X c tA)(ha:PE X a ta)(hb:PE X b tb):PE X (.IfExp c a b pos) (tIf tA ta tb):=by
 intro pins s σ H Q I h;refine wpAny_IfExp (thn (hc pins s σ H _ I h) fun d s1 ⟨H1,I1,q1⟩=>?_)
 cases d with
 | true=>exact ha pins s1 σ H1 Q I1 q1
 | false=>exact hb pins s1 σ H1 Q I1 q1
end
noncomputable def SqL(K:PySem.W.Frag)(H:Hp)(a:Addr)(xs:List V):Prop :=
 Rd H a (.lst xs) \/
  ∃ (o:Obj) (its:Array Value) (n:Nat),K.lookup a=some o/\o.cls=.type "list"/\o.dict=none/\o.data=.seq its n/\its.size<=sizeLine/\Vals xs its.toList
noncomputable def SqT(K:PySem.W.Frag)(H:Hp)(a:Addr)(xs:List V):Prop :=
 Rd H a (.tup xs) \/
  ∃ (o:Obj) (its:Array Value) (n:Nat),K.lookup a=some o/\o.cls=.type "tuple"/\o.data=.seq its n/\its.size<=sizeLine/\Vals xs its.toList
noncomputable def zjq:Value->Option V
 | .none=>some .non
 | .bool b=>some (.bl b)
 | .int i _=>some (.int i)
 | .str x _=>some (.str x)
 | .bytes b _=>some (.byt b)
 | .float b _=>some (.flt b)
 | .ref a=>some (.ref a)
 | .type n=>some (.ty n)
 | _=>none
theorem RelV.abs{x:V}{u:Value}(r:RelV x u):zjq u=some x:=by
 cases x with
 | non=>cases r;rfl
 | bl _=>cases r;rfl
 | int _=>obtain⟨t,rfl⟩:=r;rfl
 | str _=>obtain⟨t,rfl⟩:=r;rfl
 | byt _=>obtain⟨t,rfl⟩:=r;rfl
 | flt _=>obtain⟨t,rfl⟩:=r;rfl
 | ref _=>cases r;rfl
 | ty _=>cases r;rfl
theorem RelV.inj{x y:V}{u:Value}(r:RelV x u)(q:RelV y u):x=y:=Option.some.inj (r.abs.symm.trans q.abs)
theorem Vals.inj:∀ {xs ys:List V} {us:List Value},Vals xs us->Vals ys us->xs=ys
 | _,_,_,.nil,.nil=>rfl
 | _,_,_,.cons r t,.cons r' t'=>by rw[r.inj r',Vals.inj t t']
section
variable{X:Cx}{pins:List (Addr×Obj)}{σ:St}{H:Hp}{s:Shared}{a:Addr}{xs ys:List V}
theorem SqL.of{K:PySem.W.Frag}(h:H a=some (.lst xs)):SqL K H a xs:=.inl (.inl h)
theorem SqT.of{K:PySem.W.Frag}(h:H a=some (.tup xs)):SqT K H a xs:=.inl (.inl h)
theorem Inv.list(I:Inv X pins σ H s)(h:SqL X.K H a xs):∃ its:List Value,Vals xs its/\PlainL s.heap a its.toArray/\xs.length<=sizeLine:=by
 rcases h with h|⟨o,its,n,hk,hc,hd,hs,hz,r⟩
 ·obtain⟨z,its,n,r,e⟩:=h.ok I.hok
  exact⟨its,r,⟨_,n,e,rfl,rfl,rfl⟩,z⟩
 ·refine⟨its.toList,r,⟨o,n,I.kIn a o hk,hc,hd,by simpa using hs⟩,?_⟩
  have e:=r.length;simp only[Array.length_toList] at e
  omega
theorem Inv.tuple(I:Inv X pins σ H s)(h:SqT X.K H a xs):∃ its:List Value,Vals xs its/\IsTup s.heap a its.toArray/\xs.length<=sizeLine:=by
 rcases h with h|⟨o,its,n,hk,hc,hs,hz,r⟩
 ·obtain⟨z,its,r,p⟩:=h.ok I.hok
  exact⟨its,r,p,z⟩
 ·refine⟨its.toList,r,⟨o,I.kIn a o hk,hc,n,by simpa using hs⟩,?_⟩
  have e:=r.length;simp only[Array.length_toList] at e
  omega
theorem Inv.list_inj(I:Inv X pins σ H s)(h:SqL X.K H a xs)(h':SqL X.K H a ys):xs=ys:=by
 obtain⟨its,r,⟨o,n,e,_,_,d⟩,_⟩:=I.list h;obtain⟨its',r',⟨o',n',e',_,_,d'⟩,_⟩:=I.list h';rw[e] at e';cases e'
 rw[d] at d'
 injection d' with d1 _
 have:its=its':=by simpa using congrArg Array.toList d1
 subst this;exact r.inj r'
theorem Inv.tuple_inj(I:Inv X pins σ H s)(h:SqT X.K H a xs)(h':SqT X.K H a ys):xs=ys:=by
 obtain⟨its,r,⟨o,e,_,n,d⟩,_⟩:=I.tuple h;obtain⟨its',r',⟨o',e',_,n',d'⟩,_⟩:=I.tuple h';rw[e] at e';cases e'
 rw[d] at d'
 injection d' with d1 _
 have:its=its':=by simpa using congrArg Array.toList d1
 subst this;exact r.inj r'
end
section
variable{X:Cx}{pins:List (Addr×Obj)}{σ:St}{H:Hp}{s:Shared}{E:Value->Shared->Prop}
end
section
variable{X:Cx}{st:Stmt}{rest:List Stmt}{t u:TS}{e:Expr}{te:TE}{pos:Pos}
noncomputable def zcy:TS:=fun D σ H=>D.nx σ H
noncomputable def Z2(t u:TS):TS:=fun D σ H=>t { D with nx:=u D } σ H
theorem Zr:PSs X [] zcy:=fun _ _ σ H _ I h=>wpAny_execs_nil ⟨σ,H,I,h⟩
theorem Zb(h1:PS X st t)(h2:PSs X rest u):PSs X (st :: rest) (Z2 t u):=by
 intro pins s σ H D I h;refine wpAny_execs_cons (thn (h1 pins s σ H { D with nx:=u D } I h) fun f s1 q=>?_)
 cases f with
 | next =>
   obtain⟨σ',H',I',q⟩:=q;exact h2 pins s1 σ' H' D I' q
 | ret v=>exact q
 | brk=>exact q
 | cont=>exact q
theorem Ze(h1:PS X st t):PSs X [st] t:=by
 intro pins s σ H D I h;refine wpAny_execs_cons (thn (h1 pins s σ H D I h) fun f s1 q=>?_)
 cases f with
 | next=>exact wpAny_execs_nil q
 | ret v=>exact q
 | brk=>exact q
 | cont=>exact q
noncomputable def zg0:TS:=fun D σ H=>D.bk σ H
theorem zcz:PS X (.Break pos) zg0:=fun _ _ σ H _ I h=>wpAny_Break ⟨σ,H,I,h⟩
theorem Inv.quiet{pins:List (Addr×Obj)}{σ:St}{H:Hp}{s:Shared}(I:Inv X pins σ H s):interactive X.env=false:=by simp[interactive,I.ok.kind]
noncomputable def zig(te:TE):TS:=fun D σ H=>te σ H fun _ H1=>D.nx σ H1
theorem Z7(he:PE X e te)(hs:swapsWith e none pos.line X.env=pure false:=by rfl):PS X (.Expr e pos) (zig te):=by
 intro pins s σ H D I h;exact wpAny_Expr_any (thn (he pins s σ H _ I h) fun v s1 ⟨x,H1,I1,r1,q1⟩=>⟨σ,H1,I1,q1⟩) I.quiet hs
noncomputable def zih(te:TE):TS:=fun D σ H=>te σ H D.rt
theorem Zm(he:PE X e te):PS X (.Return (some e) pos) (zih te):=by
 intro pins s σ H D I h;exact wpAny_Return_some (thn (he pins s σ H _ I h) fun v s1 ⟨x,H1,I1,r1,q1⟩=>⟨x,σ,H1,I1,r1,q1⟩)
noncomputable def Br(c:TT)(t u:TS):TS:=fun D σ H=>c σ H fun b H1=>if b=true then t D σ H1 else u D σ H1
theorem Z5{c:Expr}{a b:List Stmt}{tc:TT}(hc:PT X c tc)(ha:PSs X a t)(hb:PSs X b u):PS X (.If c a b pos) (Br tc t u):=by
 intro pins s σ H D I h;refine wpAny_If (thn (hc pins s σ H _ I h) fun d s1 ⟨H1,I1,q1⟩=>?_)
 cases d with
 | true=>exact ha pins s1 σ H1 D I1 q1
 | false=>exact hb pins s1 σ H1 D I1 q1
end
noncomputable abbrev TG:=V->St->Hp->(St->Hp->Prop)->Prop
noncomputable abbrev TGs:=List V->St->Hp->(St->Hp->Prop)->Prop
noncomputable def PG(X:Cx)(target:Expr)(t:TG):Prop :=
 ∀ (pins:List (Addr×Obj)) (s:Shared) (σ:St) (H:Hp) (v:V) (u:Value) (Q:St->Hp->Prop),Inv X pins σ H s->RelV v u->t v σ H Q ->
   wpAny (model X.prog X.w) X.A (assign target X.env u) (fun _ s'=>∃ σ' H',Inv X pins σ' H' s'/\Q σ' H') X.xe s
noncomputable def PGs(X:Cx)(ts:List Expr)(t:TGs):Prop :=
 ∀ (pins:List (Addr×Obj)) (s:Shared) (σ:St) (H:Hp) (vs:List V) (us:List Value) (Q:St->Hp->Prop),Inv X pins σ H s->Vals vs us->t vs σ H Q ->
   wpAny (model X.prog X.w) X.A (assignInOrder ((assignEach ts X.env).map (·.2)) us) (fun _ s'=>∃ σ' H',Inv X pins σ' H' s'/\Q σ' H') X.xe s
noncomputable abbrev zg1:=V->V->V->Hp->(Hp->Prop)->Prop
noncomputable def zii(X:Cx)(t:zg1):Prop :=
 ∀ (pins:List (Addr×Obj)) (s:Shared) (σ:St) (H:Hp) (o i v:V) (ov iv u:Value) (Q:Hp->Prop),Inv X pins σ H s->RelV o ov->RelV i iv->RelV v u->t o i v H Q ->
   wpAny (model X.prog X.w) X.A (setItem ov iv u) (fun _ s'=>∃ H',Inv X pins σ H' s'/\Q H') X.xe s
section
variable{X:Cx}{pos:Pos}
noncomputable def Wt(i:Nat):TG:=fun v σ H Q=>Q (σ.set i (some v)) H
theorem To{i:Nat}{x:Str}(hN:X.N.Nodup)(hi:X.N[i]?=some x)(hx:Loc X.env.scope x)(hf:Dq X i x:=by first|exact⟨.inl rfl,Wr⟩|exact⟨.inr rfl,Wr⟩|assumption|exact⟨.inl rfl,by assumption⟩|exact⟨.inr rfl,by assumption⟩):PG X (.Name x pos) (Wt i):=by
 intro pins s σ H v u Q I r h;exact wpAny_assign_Name (Dr I hN hi hx r (fun s' I'=>⟨_,H,I',h⟩) hf)
noncomputable def zjr:TGs:=fun vs σ H Q=>vs=[]/\Q σ H
noncomputable def zij(t:TG)(u:TGs):TGs:=fun vs σ H Q=>∃ v r,vs=v :: r/\t v σ H fun σ' H'=>u r σ' H' Q
theorem Wf:PGs X [] zjr:=by
 intro pins s σ H vs us Q I r h;obtain⟨e,h⟩:=h;subst e;cases r;exact assignInOrder_nil ⟨σ,H,I,h⟩
theorem Zy{e:Expr}{es:List Expr}{t:TG}{u:TGs}(h1:PG X e t)(h2:PGs X es u)
  (hs:(assignEach (e :: es) X.env).map (·.2)=assign e X.env :: (assignEach es X.env).map (·.2):=by rfl):PGs X (e :: es) (zij t u):=by
 intro pins s σ H vs us Q I r h;obtain⟨v,vr,e1,h⟩:=h;subst e1;cases r with
 | cons r rr =>
   rw[hs];refine assignInOrder_cons (thn (h1 pins s σ H _ _ _ I r h) fun _ s1 ⟨σ1,H1,I1,q1⟩=>?_)
   exact h2 pins s1 σ1 H1 _ _ Q I1 rr q1
noncomputable def zik(K:PySem.W.Frag)(n:Nat)(t:TGs):TG:=fun v σ H Q=>∃ a xs,v=.ref a/\SqT K H a xs/\xs.length=n/\t xs σ H Q
theorem zg2{es:List Expr}{k:Nat}{t:TGs}{n:Nat}(hc:X.calm=true)(h:PGs X es t)
  (hn:(assignEach es X.env).length=n:=by rfl) (hst:(assignEach es X.env).findIdx? (·.1)=none:=by rfl):PG X (.Tuple es k pos) (zik X.K n t):=by
 intro pins s σ H v u Q I r hw;obtain⟨a,xs,e1,hq,hl,hw⟩:=hw;subst e1;cases r;obtain⟨its,rv,ht,hz⟩:=I.tuple hq;refine assign_Tuple_tuple (I.ok.hd hc) ht (by simp[hn,<- hl,rv.length]) hst fun h' hx=>?_
 have I1:Inv X pins σ H { s with heap:=h' }:=I.kept (t':=s.toks) fun b o e=>hx b o (z1k (Heap.lt_size e)) e
 exact h pins _ σ H xs _ Q I1 (by simpa using rv) hw
noncomputable def zjs(to ti:TE)(t:zg1):TG:=fun v σ H Q=>to σ H fun o H1=>ti σ H1 fun i H2=>t o i v H2 fun H3=>Q σ H3
theorem zg3{o i:Expr}{to ti:TE}{t:zg1}(ho:PE X o to)(hi:PE X i ti)(hs:zii X t)
  (ha:∀ v,assign (.Subscript o i pos) X.env v=(do
   let ov <- holding [v] (eval o X.env)
   let iv <- holding [v,ov] (eval i X.env)
   standAt pos
   holding [v,ov,iv] (setItem ov iv v)
   release [v,ov,iv] []):=by intro _;rfl):PG X (.Subscript o i pos) (zjs to ti t):=by
 intro pins s σ H v u Q I r h;rw[ha];refine wpAny_bind (wpAny_holding (thn (ho pins s σ H _ I h) fun ov s1 ⟨x,H1,I1,r1,q1⟩=>?_))
 refine wpAny_bind (wpAny_holding (thn (hi pins s1 σ H1 _ I1 q1) fun iv s2 ⟨y,H2,I2,r2,q2⟩=>?_))
 refine wpAny_bind (wpAny_standAt (wpAny_bind (wpAny_holding (thn (hs pins s2 σ H2 x y v ov iv u _ I2 r1 r2 r q2) fun _ s3 ⟨H3,I3,q3⟩=>?_))))
 exact wpAny_release ⟨σ,H3,I3,q3⟩
noncomputable def Bs(te:TE)(g:TG):TS:=fun D σ H=>te σ H fun x H1=>g x σ H1 D.nx
theorem Mg{tg e:Expr}{te:TE}{g:TG}(he:PE X e te)(hg:PG X tg g)(hs:swapsWithSole [tg] e pos.line X.env=pure false:=by rfl)(hw:swappedStores [tg] e X.env=pure none:=by rfl)
  (h1:(assignEach [tg] X.env).map (·.2)=[assign tg X.env]:=by rfl):PS X (.Assign [tg] e pos) (Bs te g):=by
 intro pins s σ H D I h;refine wpAny_Assign_stores (thn (he pins s σ H _ I h) fun v s1 ⟨x,H1,I1,r1,q1⟩=>?_) hs hw
 rw[h1];exact thn (hg pins s1 σ H1 x v _ I1 r1 q1) fun _ s2 q=>q
theorem zg4{i:Nat}{x:Str}{e:Expr}{te:TE}{pos':Pos}(hN:X.N.Nodup)(hi:X.N[i]?=some x)(hx:Loc X.env.scope x)(he:PE X e te)(hs:swapsWith e (some (.Name x pos')) pos.line X.env=pure false:=by rfl)(hf:Dq X i x:=by first|exact⟨.inl rfl,Wr⟩|exact⟨.inr rfl,Wr⟩|assumption|exact⟨.inl rfl,by assumption⟩|exact⟨.inr rfl,by assumption⟩) :
  PS X (.Assign [.Name x pos'] e pos) (Bs te (Wt i)):=by
 intro pins s σ H D I h;refine wpAny_Assign_Name (thn (he pins s σ H _ I h) fun v s1 ⟨y,H1,I1,r1,q1⟩=>?_) hs
 exact Dr I1 hN hi hx r1 (fun s2 I2=>⟨_,H1,I2,q1⟩) hf
end
section
variable{X:Cx}{pos:Pos}
noncomputable def zc0(c:TT)(tb:TS):TS:=fun D σ H=>∃ W:Nat->St->Hp->Prop,(∃ m,W m σ H)/\∀ m σ H,W m σ H ->
 c σ H fun b H1=>if b=true then ∃ N:St->Hp->Prop,(∀ σ' H',N σ' H'->∃ m',m' < m/\W m' σ' H')/\tb { D with nx:=N,ct:=N,bk:=D.nx } σ H1 else D.nx σ H1
theorem Du{c:Expr}{body:List Stmt}{tc:TT}{tb:TS}(hp:PassesOwn (model X.prog X.w) X.A X.env X.xe)(hc:PT X c tc)(hb:PSs X body tb):PS X (.While c body [] pos) (zc0 tc tb):=by
 intro pins s σ H D I h;obtain⟨W,⟨m0,w0⟩,turn⟩:=h;refine wpAny_While (codeAny_whileLoop (fun n s'=>∃ σ' H',Inv X pins σ' H' s'/\W n σ' H') ?_ m0 ⟨σ,H,I,w0⟩)
 rintro n s1 ⟨σ1,H1,I1,w1⟩;refine wpAny_passesOwn hp (thn (hc pins s1 σ1 H1 _ I1 (turn n σ1 H1 w1)) fun b s2 ⟨H2,I2,q2⟩=>?_)
 cases b with
 | true =>
   obtain⟨N,hN,q2⟩:=q2;rw[if_pos rfl];refine wpAny_passesOwn hp (thn (hb pins s2 σ1 H2 _ I2 q2) fun f s3 q3=>?_)
   cases f with
   | next =>
     obtain⟨σ3,H3,I3,n3⟩:=q3;obtain⟨m',hm,w3⟩:=hN σ3 H3 n3;exact⟨m',hm,σ3,H3,I3,w3⟩
   | cont =>
     obtain⟨σ3,H3,I3,n3⟩:=q3;obtain⟨m',hm,w3⟩:=hN σ3 H3 n3;exact⟨m',hm,σ3,H3,I3,w3⟩
   | brk=>exact q3
   | ret v=>exact q3
 | false =>
   rw[if_neg z1d];exact wpAny_execs_nil ⟨σ1,H2,I2,q2⟩
end
structure It where
 go:Nat->Hp->Prop
 yld:Nat->Hp->V->Hp->Prop
 stop:Nat->Hp->Prop
noncomputable def FpOk(X:Cx)(pins:List (Addr×Obj))(H:Hp)(b:Addr):Prop :=
 H b=none/\b≠X.env.locals/\b∉X.fs/\(b∈X.ex\/X.s₀.heap.objs.size<=b)/\(∀ x c,X.env.cells.lookup x=some c->c≠b)/\∀ p∈X.pn++pins,p.1≠b
theorem Inv.fpOk{X:Cx}{pins:List (Addr×Obj)}{σ:St}{H H':Hp}{s:Shared}{b:Addr}(I:Inv X pins σ H s)(hb:s.heap.objs.size<=b)(hn:H' b=none):FpOk X pins H' b:=by
 refine⟨hn,Nat.ne_of_gt (z1c I.lt hb),I.nofs hb,.inr (z09 I.sz hb),fun x c e z=>?_,fun p hp z=>?_⟩
 ·obtain⟨v,q⟩:=I.cell x c e
  exact absurd (z1c q.lt (by rw[z];exact hb)) (z2i _)
 ·exact absurd (z1c (Heap.lt_size (I.pin p hp).1) (by rw[z];exact hb)) (z2i _)
structure Dv(P:Program)(w:World)(K:PySem.W.Frag)(tg:Expr)(J:It)(fp:List Addr)(it:Addr)(tn:Nat->Heap->Prop):Prop where
 mem:it∈fp
 obj:∀ i h,tn i h->∀ b∈fp,∃ o,h.get? b=some o/\∀ v,o.data≠.cell v
 keep:∀ i h h',tn i h->(∀ b∈fp,∀ o,h.get? b=some o->h'.get? b=some o)->tn i h'
 item:∀ (X:Cx),X.prog=P->X.w=w->X.K=K->X.calm=true->∀ (i:Nat) (pins:List (Addr×Obj)) (s:Shared) (σ:St) (H:Hp) (E:Value->Shared->Prop),Inv X pins σ H s->(∀ b∈fp,FpOk X pins H b)->tn i s.heap->J.go i H ->
  wpAny (model P w) X.A (pyNext (.ref it)) (fun r s1=>∃ u,r=some u /\
   wpAny (model P w) X.A (letOwnedTupleGo tg (.ref it) u) (fun _ s2=>∃ x H',Inv X pins σ H' s2/\RelV x u/\J.yld i H x H'/\tn (i+1) s2.heap/\∀ b∈fp,H' b=none) E s1) E s
 done:∀ (X:Cx),X.prog=P->X.w=w->X.K=K->X.calm=true->∀ (i:Nat) (pins:List (Addr×Obj)) (s:Shared) (σ:St) (H:Hp) (E:Value->Shared->Prop),Inv X pins σ H s->(∀ b∈fp,FpOk X pins H b)->tn i s.heap->J.stop i H ->
  wpAny (model P w) X.A (pyNext (.ref it)) (fun r s1=>r=none/\Inv X pins σ H s1) E s
 self:∀ (A:Around) (i:Nat) (s:Shared) (Q:Value->Shared->Prop) (E:Value->Shared->Prop),tn i s.heap->Q (.ref it) s->wpAny (model P w) A (pyIter (.ref it)) Q E s
noncomputable abbrev TI:=St->Hp->(It->Hp->Prop)->Prop
noncomputable def PIE(X:Cx)(pins:List (Addr×Obj))(σ:St)(tg:Expr)(R:It->Hp->Prop)(itv:Value)(s2:Shared):Prop :=
 ∃ (it:Addr) (fp:List Addr) (tn:Nat->Heap->Prop) (J:It) (H':Hp),itv=.ref it/\Inv X pins σ H' s2/\Dv X.prog X.w X.K tg J fp it tn/\tn 0 s2.heap/\(∀ b∈fp,FpOk X pins H' b)/\R J H'
noncomputable def PI(X:Cx)(tg iter:Expr)(wi:TI):Prop :=
 ∀ (pins:List (Addr×Obj)) (s:Shared) (σ:St) (H:Hp) (R:It->Hp->Prop),Inv X pins σ H s->wi σ H R ->
   wpAny (model X.prog X.w) X.A (eval iter X.env) (fun v s1=>wpAny (model X.prog X.w) X.A (pyIter v) (PIE X pins σ tg R) X.xe s1) X.xe s
theorem zc1{M:Model}{A:Around}{E:Value->Shared->Prop}{s:Shared}{tg:Expr}{it:Addr}{u:Value}{o:Obj}{n:String}{vs:Array Value}{Q:Unit->Shared->Prop}(ho:s.heap.get? it=some o)(hc:o.cls=.type n)(hd:o.data=.fields vs)
  (hn:["enumerate","zip","dict_itemiterator","dict_reverseitemiterator","odict_iterator","itertools.zip_longest","itertools.pairwise"].contains n=false) (hQ:Q () s):wpAny M A (letOwnedTupleGo tg (.ref it) u) Q E s:=by
 unfold letOwnedTupleGo;cases tg<;>first
  | exact wpAny_pure hQ
  | (cases u<;>first
    | exact wpAny_pure hQ
    | (refine wpAny_bind (wpAny_load ho ?_)
       rw[hc,hd];show wpAny M A (if (["enumerate","zip","dict_itemiterator","dict_reverseitemiterator","odict_iterator","itertools.zip_longest","itertools.pairwise"].contains n&&vs[0]? == some (rawInt _))=true then _ else _) Q E s
       rw[if_neg (by intro h;rw[hn,Bool.false_and] at h;cases h)]
       exact wpAny_pure hQ))
noncomputable def Itl(K:PySem.W.Frag)(a:Addr):It :=
 ⟨fun i H=>∃ xs x,SqL K H a xs/\xs[i]?=some x,fun i H x H'=>H'=H/\∀ xs,SqL K H a xs->xs[i]?=some x,fun i H=>∃ xs,SqL K H a xs/\xs.length<=i⟩
noncomputable def Itr(lo:Int)(n:Nat):It:=⟨fun i _=>i<n,fun i H x H'=>H'=H/\x=.int (lo+i),fun i _=>n<=i⟩
theorem zbc{P:Program}{w:World}{K:PySem.W.Frag}{tg:Expr}(a it:Addr):Dv P w K tg (Itl K a) [it] it (fun i h=>h.IsListIter it a i) where
 mem:=by simp
 obj:=fun i h st b hb=>by
  have e:b=it:=by simpa using hb
  subst e;obtain⟨o,e,c,d⟩:=st;exact⟨o,e,fun v z=>by rw[d] at z;cases z⟩
 keep:=fun i h h' st k=>st.at fun o e=>k it (by simp) o e
 item:=by
  intro X hP hw hK hc i pins s σ H E I hf st hg;subst hP hw hK;obtain⟨xs,x,hq,hx⟩:=hg;obtain⟨its,rv,p,hz⟩:=I.list hq;obtain⟨u,hu,ru⟩:=rv.get hx;obtain⟨f0,f1,f2,f3,f4,f5⟩:=hf it (by simp)
  refine wpAny_pyNext_list_item st p.isList (x:=u) (by simpa using hu) fun h' st' sb=>?_
  have I1:Inv X pins σ H { s with heap:=h' }:=I.turned (t':=s.toks) (fun b o hb e=>(sb.2 b hb).trans e) f0 f1 f3 f4 f5
  obtain⟨o,e,c,d⟩:=id st';exact⟨u,rfl,zc1 (s:={ s with heap:=h' }) e c d (by decide) ⟨x,H,I1,ru,⟨rfl,fun ys hy=>by rw[I.list_inj hy hq];exact hx⟩,st',fun b hb=>(hf b hb).1⟩⟩
 done:=by
  intro X hP hw hK hc i pins s σ H E I hf st hg;subst hP hw hK;obtain⟨xs,hq,hx⟩:=hg;obtain⟨its,rv,p,hz⟩:=I.list hq;obtain⟨f0,f1,f2,f3,f4,f5⟩:=hf it (by simp)
  have hl:=rv.length;exact wpAny_pyNext_list_end (I.ok.hd hc) st p.isList (by simp;omega) fun h' eb=>⟨rfl,I.turned (t':=s.toks) (fun b o hb e=>eb b o hb e) f0 f1 f3 f4 f5⟩
 self:=fun _ _ _ _ _ st h=>wpAny_pyIter_listiter st h
theorem Bt{P:Program}{w:World}{K:PySem.W.Frag}{tg:Expr}(it:Addr)(lo:Int)(n:Nat):Dv P w K tg (Itr lo n) [it] it (fun i h=>IsRangeIter h it (lo+(i:Nat)*1) ((n:Int)-(i:Nat)) 1) where
 mem:=by simp
 obj:=fun i h st b hb=>by
  have e:b=it:=by simpa using hb
  subst e;exact⟨_,st,fun v z=>by
   have z':Data.fields _=Data.cell v:=z;cases z'⟩
 keep:=fun i h h' st k=>k it (by simp) _ st
 item:=by
  intro X hP hw hK hc i pins s σ H E I hf st hg;subst hP hw hK;obtain⟨f0,f1,f2,f3,f4,f5⟩:=hf it (by simp)
  have W:=Walks.range (prog:=X.prog) (w:=X.w) (I.ok.hd hc) it lo 1 n;refine W.item i s _ _ hg st fun v h' tk hv st' kk=>?_
  obtain⟨t,rfl⟩:=hv;have I1:Inv X pins σ H { s with heap:=h',toks:=tk }:=I.turned (fun b o hb e=>kk b o (by simpa using hb) e) f0 f1 f3 f4 f5
  refine⟨_,rfl,zc1 (s:={ s with heap:=h',toks:=tk }) (n:="range_iterator") st' rfl rfl (by decide) ⟨.int (lo+i),H,I1,⟨t,?_⟩,⟨rfl,rfl⟩,st',fun b hb=>(hf b hb).1⟩⟩
  rw[Int.mul_one]
 done:=by
  intro X hP hw hK hc i pins s σ H E I hf st hg;subst hP hw hK;obtain⟨f0,f1,f2,f3,f4,f5⟩:=hf it (by simp)
  exact wpAny_pyNext_range_end (I.ok.hd hc) st (by have:n<=i:=hg;omega) fun h' eb=>⟨rfl,I.turned (t':=s.toks) (fun b o hb e=>eb b o hb e) f0 f1 f3 f4 f5⟩
 self:=fun _ _ _ _ _ st h=>wpAny_pyIter_rangeiter st h
section
variable{X:Cx}{tg:Expr}
inductive zg5(K:PySem.W.Frag)(R:It->Hp->Prop)(x:V)(H1:Hp):Prop where
 | mk(a)(_:x=.ref a)(_:(∃ xs,SqL K H1 a xs))(_:R (Itl K a) H1)
noncomputable def zgd(K:PySem.W.Frag)(tl:TE):TI:=fun σ H R=>tl σ H fun x H1=>zg5 K R x H1
theorem zfa{l:Expr}{tl:TE}(hl:PE X l tl):PI X tg l (zgd X.K tl):=by
 intro pins s σ H R I h;refine thn (hl pins s σ H _ I h) fun v s1 ⟨x,H1,I1,r1,q1⟩=>?_
 obtain⟨a,e,⟨xs,hq⟩,q⟩:=q1;subst e;cases r1;obtain⟨its,rv,p,hz⟩:=I1.list hq;refine wpAny_pyIter_list p.isList ?_;refine⟨s1.heap.objs.size,[s1.heap.objs.size],_,_,H1,rfl,I1.kept (t':=s1.toks) fun b o e=>Heap.get?_push_of_some _ e,zbc a _,⟨_,Heap.get?_push_size _ rfl,rfl,rfl⟩,fun b hb=>?_,q⟩
 have e:b=s1.heap.objs.size:=by simpa using hb
 subst e;exact I1.fpOk (z03 _) (I1.hok.fresh (z03 _))
theorem Dw{pins:List (Addr×Obj)}{σ:St}{H:Hp}{s:Shared}{R:It->Hp->Prop}{E:Value->Shared->Prop}{lo hi:Int}{t u v:Tok}{tk:Nat}(I:Inv X pins σ H s)(h1:-(2 ^ 62)<=lo)(h2:lo<2 ^ 62)(h3:-(2 ^ 62)<=hi)(h4:hi<2 ^ 62)
  (q:R (Itr lo (hi-lo).toNat) H):wpAny (model X.prog X.w) X.A (pyIter (.ref s.heap.objs.size)) (PIE X pins σ tg R) E { s with heap:=s.heap.push { cls:=.type "range",data:=.fields #[.int lo t,.int hi u,.int 1 v] },toks:=tk }:=by
 refine wpAny_pyIter_range (IsRange.new ..) (small_one h1 h2 h3 h4) ?_;have I1:Inv X pins σ H { s with heap:=s.heap.push { cls:=.type "range",data:=.fields #[.int lo t,.int hi u,.int 1 v] },toks:=tk }:=I.kept fun b o e=>Heap.get?_push_of_some _ e
 refine⟨(s.heap.push { cls:=.type "range",data:=.fields #[.int lo t,.int hi u,.int 1 v] }).objs.size,[(s.heap.push { cls:=.type "range",data:=.fields #[.int lo t,.int hi u,.int 1 v] }).objs.size],_,_,H,rfl,
  I1.kept (t':=tk) fun b o e=>Heap.get?_push_of_some _ e,Bt _ lo (hi-lo).toNat,?_,fun b hb=>?_,q⟩
 ·have e1:lo+((0:Nat):Int)*1=lo:=by simp
  have e2:(((hi-lo).toNat:Nat):Int)-((0:Nat):Int)=Builtin.Range.rangeSize lo hi 1:=by rw[rangeSize_one];split<;>omega
  show IsRangeIter _ _ (lo+((0:Nat):Int)*1) ((((hi-lo).toNat:Nat):Int)-((0:Nat):Int)) 1;rw[e1,e2];exact Heap.get?_push_size _ rfl
 ·have e:b=(s.heap.push { cls:=.type "range",data:=.fields #[.int lo t,.int hi u,.int 1 v] }).objs.size:=by simpa using hb
  subst e;exact I1.fpOk (z03 _) (I1.hok.fresh (z03 _))
noncomputable def zil(ta:TA):TI:=fun σ H R=>ta σ H fun vs H1=>∃ j:Int,vs=[.int j]/\-(2 ^ 62)<=j/\j<2 ^ 62/\R (Itr 0 j.toNat) H1
noncomputable def zim(ta:TA):TI:=fun σ H R=>ta σ H fun vs H1=>∃ i j:Int,vs=[.int i,.int j]/\(-(2 ^ 62)<=i/\i<2 ^ 62/\-(2 ^ 62)<=j/\j<2 ^ 62)/\R (Itr i (j-i).toNat) H1
theorem Xh{a:Expr}{ta:TA}{p pos:Pos}(hg:Gl X "range")(hm:X.mg "range"=none)(ha:PA X [a] ta)(hs:starEach [a] X.env=[(false,eval a X.env)]:=by rfl):PI X tg (.Call (.Name "range" p) [a] [] pos) (zil ta):=by
 intro pins s σ H R I h;refine Call_ (Oc I hg hm boot_range (PyProof.Rows.callWith_type1 (thn (ha pos pins s σ H _ I h) fun us s1 ⟨vs,H1,I1,r1,q1⟩=>?_) hs rfl))
 obtain⟨j,e,q1,q2,q⟩:=q1;subst e;cases r1 with
 | cons r rr =>
   cases rr;obtain⟨t,rfl⟩:=r;exact call_range_1 (Dw I1 (by omega) (by omega) q1 q2 (by simpa using q))
theorem G3{a b:Expr}{ta:TA}{p pos:Pos}(hg:Gl X "range")(hm:X.mg "range"=none)(ha:PA X [a,b] ta)(hs:starEach [a,b] X.env=[(false,eval a X.env),(false,eval b X.env)]:=by rfl)(hs2:starEach [b] X.env=[(false,eval b X.env)]:=by rfl) :
  PI X tg (.Call (.Name "range" p) [a,b] [] pos) (zim ta):=by
 intro pins s σ H R I h;refine Call_ (Oc I hg hm boot_range (PyProof.Rows.callWith_type1 (thn (ha pos pins s σ H _ I h) fun us s1 ⟨vs,H1,I1,r1,q1⟩=>?_) (by rw[hs,hs2]) (by rw[hs2];rfl)))
 obtain⟨i,j,e,⟨q1,q2,q3,q4⟩,q⟩:=q1;subst e;cases r1 with
 | cons r rr =>
   cases rr with
   | cons r' rr =>
     cases rr;obtain⟨t,rfl⟩:=r;obtain⟨t',rfl⟩:=r';exact call_range_2 (Dw I1 q1 q2 q3 q4 q)
noncomputable def zc2(wi:TI)(g:TG)(tb:TS):TS:=fun D σ H=>wi σ H fun J H1=>∃ W:Nat->Nat->St->Hp->Prop,(∃ m,W 0 m σ H1)/\∀ i m σ H,W i m σ H ->
 (J.stop i H/\D.nx σ H)\/(J.go i H/\∃ N:St->Hp->Prop,(∀ σ' H',N σ' H'->∃ m',m' < m/\W (i+1) m' σ' H')/\∀ x H',J.yld i H x H'->g x σ H' fun σ2 H2=>tb { D with nx:=N,ct:=N,bk:=D.nx } σ2 H2)
noncomputable def Mh(fp:List Addr)(h:Heap):List (Addr×Obj):=fp.filterMap fun b=>(h.get? b).map fun o=>(b,o)
theorem Rq{fp:List Addr}{h:Heap}{b:Addr}{o:Obj}(hb:b∈fp)(e:h.get? b=some o):(b,o)∈Mh fp h:=z21.mpr ⟨b,hb,by rw[e];rfl⟩
theorem zbd{fp:List Addr}{h:Heap}{p:Addr×Obj}(hp:p∈Mh fp h):p.1∈fp/\h.get? p.1=some p.2:=by
 obtain⟨b,hb,e⟩:=z21.mp hp;cases q:h.get? b with
 | none=>rw[q] at e;cases e
 | some o =>
   rw[q] at e
   have e':(b,o)=p:=Option.some.inj e;subst e';exact⟨hb,q⟩
theorem Inv.pinned{pins:List (Addr×Obj)}{σ:St}{H:Hp}{s:Shared}{fp:List Addr}(I:Inv X pins σ H s)(hf:∀ b∈fp,FpOk X pins H b)(ho:∀ b∈fp,∃ o,s.heap.get? b=some o/\∀ v,o.data≠.cell v):Inv X (pins++Mh fp s.heap) σ H s :=
 I.pins_of fun p hp=>(z06.mp hp).elim (fun z=>I.pin p (z1f _ z)) fun z=>by
  obtain⟨hb,e⟩:=zbd z;obtain⟨f0,f1,f2,_⟩:=hf p.1 hb;obtain⟨o,e',d⟩:=ho p.1 hb;rw[e] at e';cases e'
  exact⟨e,f0,f1,f2,d⟩
theorem Inv.unpinned{pins pl:List (Addr×Obj)}{σ:St}{H:Hp}{s:Shared}(I:Inv X (pins++pl) σ H s):Inv X pins σ H s:=I.pins_of fun p hp=>I.pin p (z1f _ (z1m _ hp))
theorem Y6{iter:Expr}{body:List Stmt}{wi:TI}{g:TG}{tb:TS}{pos:Pos}(hp:PassesOwn (model X.prog X.w) X.A X.env X.xe)(hc:X.calm=true)(hi:PI X tg iter wi)(hg:PG X tg g)(hb:PSs X body tb)
  (hs:∀ x,foldedSetIterable iter X.env x=pure x:=by intro _;rfl):PS X (.For tg iter body [] pos) (zc2 wi g tb):=by
 intro pins s σ H D I h;refine wpAny_For (thn (hi pins s σ H _ I h) fun v s1 h1=>thn h1 fun itv s2 h2=>?_) hs
 obtain⟨it,fp,tn,J,H2,e,I2,T,st2,f2,W,⟨m0,w0⟩,turn⟩:=h2;subst e;have stat:∀ {H':Hp},(∀ b∈fp,H' b=none)->∀ b∈fp,FpOk X pins H' b:=fun hn b hb=>⟨hn b hb,(f2 b hb).2⟩
 refine codeAny_forLoop_any (fun n s'=>∃ i σ' H',Inv X pins σ' H' s'/\tn i s'.heap/\(∀ b∈fp,H' b=none)/\W i n σ' H') ?_ m0 ⟨0,σ,H2,I2,st2,fun b hb=>(f2 b hb).1,w0⟩
 rintro n s3 ⟨i,σ3,H3,I3,st3,fr3,w3⟩;rcases turn i n σ3 H3 w3 with ⟨stop,qn⟩|⟨go,N,hN,step⟩
 ·refine wpAny_passesOwn hp (thn (T.done X rfl rfl rfl hc i pins s3 σ3 H3 X.xe I3 (stat fr3) st3 stop) fun r s4 ⟨hr,I4⟩=>?_)
  subst hr;exact wpAny_execs_nil ⟨σ3,H3,I4,qn⟩
 ·refine wpAny_passesOwn hp (thn (T.item X rfl rfl rfl hc i pins s3 σ3 H3 X.xe I3 (stat fr3) st3 go) fun r s4 ⟨u,hr,h4⟩=>?_)
  subst hr;refine wpAny_passesOwn hp (thn h4 fun _ s5 ⟨x,H5,I5,r5,y5,st5,fr5⟩=>?_)
  have I5':=I5.pinned (stat fr5) (T.obj _ _ st5);refine wpAny_passesOwn hp (thn (hg _ s5 σ3 H5 x u _ I5' r5 (step x H5 y5)) fun _ s6 ⟨σ6,H6,I6,q6⟩=>?_)
  refine wpAny_passesOwn hp (thn (hb _ s6 σ6 H6 _ I6 q6) fun f s7 q7=>?_)
  have again:∀ {σ7:St} {H7:Hp},Inv X (pins++Mh fp s5.heap) σ7 H7 s7->N σ7 H7->∃ m,m<n/\∃ i σ' H',Inv X pins σ' H' s7/\tn i s7.heap/\(∀ b∈fp,H' b=none)/\W i m σ' H':=fun {σ7 H7} I7 n7=>by
   obtain⟨m',hm,w7⟩:=hN σ7 H7 n7;refine⟨m',hm,i+1,σ7,H7,I7.unpinned,T.keep _ _ _ st5 fun b hb o e=>(I7.pin (b,o) (z1f _ (z1f _ (Rq hb e)))).1,fun b hb=>?_,w7⟩
   obtain⟨o,e,d⟩:=T.obj _ _ st5 b hb;exact(I7.pin (b,o) (z1f _ (z1f _ (Rq hb e)))).2.1
  cases f with
  | next=>obtain⟨σ7,H7,I7,n7⟩:=q7;exact again I7 n7
  | cont=>obtain⟨σ7,H7,I7,n7⟩:=q7;exact again I7 n7
  | brk=>obtain⟨σ7,H7,I7,q7⟩:=q7;exact⟨σ7,H7,I7.unpinned,q7⟩
  | ret v=>obtain⟨x7,σ7,H7,I7,r7,q7⟩:=q7;exact⟨x7,σ7,H7,I7.unpinned,r7,q7⟩
end
theorem Wb{K:PySem.W.Frag}{a:Addr}{xs:List V}{g:TG}{tb:TS}{D:S5}{σ:St}{H:Hp}(Pv:Nat->St->Hp->Prop)(h0:Pv 0 σ H)(hl:∀ i σ H,i<=xs.length->Pv i σ H->SqL K H a xs)
  (hs:∀ i x σ H,xs[i]?=some x->Pv i σ H->g x σ H fun σ2 H2=>tb { D with nx:=Pv (i+1),ct:=Pv (i+1),bk:=D.nx } σ2 H2) (hd:∀ σ H,Pv xs.length σ H->D.nx σ H) :
  ∃ W:Nat->Nat->St->Hp->Prop,(∃ m,W 0 m σ H)/\∀ i m σ H,W i m σ H ->
    ((Itl K a).stop i H/\D.nx σ H)\/((Itl K a).go i H/\∃ N:St->Hp->Prop,(∀ σ' H',N σ' H'->∃ m',m' < m/\W (i+1) m' σ' H')/\∀ x H',(Itl K a).yld i H x H'->g x σ H' fun σ2 H2=>tb { D with nx:=N,ct:=N,bk:=D.nx } σ2 H2):=by
 refine⟨fun i m σ H=>m=xs.length-i/\i<=xs.length/\Pv i σ H,⟨xs.length,by simp,z1j _,h0⟩,?_⟩
 rintro i m σ H ⟨rfl,hi,p⟩;have q:=hl i σ H hi p;by_cases hlt:i<xs.length
 ·refine .inr ⟨⟨xs,xs[i],q,by simp[hlt]⟩,Pv (i+1),fun σ' H' p'=>⟨xs.length-(i+1),by omega,rfl,hlt,p'⟩,fun x H' y=>?_⟩
  obtain⟨e,y⟩:=y;subst e;exact hs i x σ _ (y xs q) p
 ·have e:i=xs.length:=by omega
  subst e;exact .inl ⟨⟨xs,q,z03 _⟩,hd σ H p⟩
theorem Xv{lo:Int}{n:Nat}{g:TG}{tb:TS}{D:S5}{σ:St}{H:Hp}(Pv:Nat->St->Hp->Prop)(h0:Pv 0 σ H)
  (hs:∀ i σ H,i<n->Pv i σ H->g (.int (lo+i)) σ H fun σ2 H2=>tb { D with nx:=Pv (i+1),ct:=Pv (i+1),bk:=D.nx } σ2 H2) (hd:∀ σ H,Pv n σ H->D.nx σ H) :
  ∃ W:Nat->Nat->St->Hp->Prop,(∃ m,W 0 m σ H)/\∀ i m σ H,W i m σ H ->
    ((Itr lo n).stop i H/\D.nx σ H)\/((Itr lo n).go i H/\∃ N:St->Hp->Prop,(∀ σ' H',N σ' H'->∃ m',m' < m/\W (i+1) m' σ' H')/\∀ x H',(Itr lo n).yld i H x H'->g x σ H' fun σ2 H2=>tb { D with nx:=N,ct:=N,bk:=D.nx } σ2 H2):=by
 refine⟨fun i m σ H=>m=n-i/\i<=n/\Pv i σ H,⟨n,by simp,z1j _,h0⟩,?_⟩
 rintro i m σ H ⟨rfl,hi,p⟩;by_cases hlt:i<n
 ·refine .inr ⟨hlt,Pv (i+1),fun σ' H' p'=>⟨n-(i+1),by omega,rfl,hlt,p'⟩,fun x H' y=>?_⟩
  obtain⟨e,y⟩:=y;subst e y;exact hs i σ _ hlt p
 ·have e:i=n:=by omega
  subst e;exact .inl ⟨z03 _,hd σ H p⟩
noncomputable abbrev R2:=V->V->Hp->VK->Prop
noncomputable def OpR(X:Cx)(f:Value->Value->Sem Value)(r:R2):Prop :=
 ∀ (pins:List (Addr×Obj)) (s:Shared) (σ:St) (H:Hp) (x y:V) (v u:Value) (Q:VK),Inv X pins σ H s->RelV x v->RelV y u->r x y H Q ->
   wpAny (model X.prog X.w) X.A (f v u) (EP X pins σ Q) X.xe s
noncomputable def UnR(X:Cx)(f:Value->Sem Value)(r:V->Hp->VK->Prop):Prop :=
 ∀ (pins:List (Addr×Obj)) (s:Shared) (σ:St) (H:Hp) (x:V) (v:Value) (Q:VK),Inv X pins σ H s->RelV x v->r x H Q ->
   wpAny (model X.prog X.w) X.A (f v) (EP X pins σ Q) X.xe s
noncomputable def Ux(X:Cx)(f:Value)(r:List V->Hp->VK->Prop):Prop :=
 ∀ (pins:List (Addr×Obj)) (s:Shared) (σ:St) (H:Hp) (xs:List V) (us:List Value) (Q:VK),Inv X pins σ H s->Vals xs us->r xs H Q ->
   wpAny (model X.prog X.w) X.A (call f us) (EP X pins σ Q) X.xe s
noncomputable def zjt(X:Cx)(r:V->Hp->(Bool->Hp->Prop)->Prop):Prop :=
 ∀ (pins:List (Addr×Obj)) (s:Shared) (σ:St) (H:Hp) (x:V) (v:Value) (Q:Bool->Hp->Prop),Inv X pins σ H s->RelV x v->r x H Q ->
   wpAny (model X.prog X.w) X.A (truthy v) (TP X pins σ Q) X.xe s
noncomputable def tOp(r:R2)(ta tb:TE):TE:=fun σ H Q=>ta σ H fun x H1=>tb σ H1 fun y H2=>r x y H2 Q
noncomputable def tUn(r:V->Hp->VK->Prop)(ta:TE):TE:=fun σ H Q=>ta σ H fun x H1=>r x H1 Q
inductive rI(C:Int->Int->Prop)(g:Int->Int->V)(x:V)(y:V)(H:Hp)(Q:VK):Prop where
 | mk(i)(j)(_:x=.int i)(_:y=.int j)(_:C i j/\Q (g i j) H)
inductive rI0(g:Int->Int->V)(x:V)(y:V)(H:Hp)(Q:VK):Prop where
 | mk(i)(j)(_:x=.int i)(_:y=.int j)(_:Q (g i j) H)
inductive rU(g:Int->V)(x:V)(H:Hp)(Q:VK):Prop where
 | mk(i)(_:x=.int i)(_:Q (g i) H)
section
variable{X:Cx}{a b c:Expr}{ta tb tc:TE}{pos:Pos}
theorem binT(ha:PE X a ta)(hb:PE X b tb){pins:List (Addr×Obj)}{s:Shared}{σ:St}{H:Hp}{R:V->V->Hp->Prop}(I:Inv X pins σ H s)
  (h:ta σ H fun x H1=>tb σ H1 fun y H2=>R x y H2) {Q:Value->Shared->Prop} {f:Value->Value->Sem Value}
  (hf:∀ v u s2 x y H2,Inv X pins σ H2 s2->RelV x v->RelV y u->R x y H2->wpAny (model X.prog X.w) X.A (f v u) Q X.xe s2) :
  wpAny (model X.prog X.w) X.A (eval a X.env) (fun v s₁=>wpAny (model X.prog X.w) X.A (eval b X.env) (fun u s₂=>wpAny (model X.prog X.w) X.A (f v u) Q X.xe s₂) X.xe s₁) X.xe s:=by
 refine thn (ha pins s σ H _ I h) fun v s1 ⟨x,H1,I1,r1,q1⟩=>?_
 refine thn (hb pins s1 σ H1 _ I1 q1) fun u s2 ⟨y,H2,I2,r2,q2⟩=>?_
 exact hf v u s2 x y H2 I2 r1 r2 q2
theorem Zv{op:Operator}{r:R2}(ho:OpR X (binaryOp op) r)(ha:PE X a ta)(hb:PE X b tb):PE X (.BinOp a op b pos) (tOp r ta tb):=by
 intro pins s σ H Q I h;exact wpAny_BinOp (binT ha hb I h fun v u s2 x y H2 I2 rx ry q=>ho pins s2 σ H2 x y v u Q I2 rx ry q)
theorem Lj{op:UnaryOp}{r:V->Hp->VK->Prop}(ho:UnR X (unaryOp op) r)(ha:PE X a ta):PE X (.UnaryOp op a pos) (tUn r ta):=by
 intro pins s σ H Q I h;exact UnaryOp_ (thn (ha pins s σ H _ I h) fun v s1 ⟨x,H1,I1,r1,q1⟩=>ho pins s1 σ H1 x v Q I1 r1 q1)
theorem opI{f:Value->Value->Sem Value}{C:Int->Int->Prop}{g:Int->Int->Int}
  (rule:∀ (i j:Int) (t u:Tok) (s:Shared) (Q:Value->Shared->Prop) (E:Value->Shared->Prop),C i j->Q (.int (g i j) s.toks) { s with toks:=s.toks+1 }->wpAny (model X.prog X.w) X.A (f (.int i t) (.int j u)) Q E s) :
  OpR X f (rI C fun i j=>.int (g i j)):=by
 intro pins s σ H x y v u Q I rx ry h;obtain⟨i,j,rfl,rfl,hc,q⟩:=h;obtain⟨t,rfl⟩:=rx;obtain⟨t',rfl⟩:=ry;exact rule i j t t' s _ _ hc ⟨.int (g i j),H,I.tok _,⟨_,rfl⟩,q⟩
theorem zin{f:Value->Value->Sem Value}{g:Int->Int->Int}
  (rule:∀ (i j:Int) (t u:Tok) (s:Shared) (Q:Value->Shared->Prop) (E:Value->Shared->Prop),Q (.int (g i j) s.toks) { s with toks:=s.toks+1 }->wpAny (model X.prog X.w) X.A (f (.int i t) (.int j u)) Q E s) :
  OpR X f (rI0 fun i j=>.int (g i j)):=by
 intro pins s σ H x y v u Q I rx ry h;obtain⟨i,j,rfl,rfl,q⟩:=h;obtain⟨t,rfl⟩:=rx;obtain⟨t',rfl⟩:=ry;exact rule i j t t' s _ _ ⟨.int (g i j),H,I.tok _,⟨_,rfl⟩,q⟩
theorem zfb{f:Value->Value->Sem Value}{g:Int->Int->Bool}
  (rule:∀ (i j:Int) (t u:Tok) (s:Shared) (Q:Value->Shared->Prop) (E:Value->Shared->Prop),Q (.bool (g i j)) s->wpAny (model X.prog X.w) X.A (f (.int i t) (.int j u)) Q E s) :
  OpR X f (rI0 fun i j=>.bl (g i j)):=by
 intro pins s σ H x y v u Q I rx ry h;obtain⟨i,j,rfl,rfl,q⟩:=h;obtain⟨t,rfl⟩:=rx;obtain⟨t',rfl⟩:=ry;exact rule i j t t' s _ _ ⟨.bl (g i j),H,I,rfl,q⟩
noncomputable def CDiv(i j:Int):Prop:=0<j/\j<1073741824
noncomputable def CMul(i j:Int):Prop:=(-(2 ^ 64)<i/\i<2 ^ 64)\/(-(2 ^ 64)<j/\j<2 ^ 64)
theorem CMul.ok{i j:Int}(h:CMul i j):IntMulOk i j:=by
 rcases h with ⟨h1,h2⟩|⟨h1,h2⟩
 ·exact .of_left (intBits_le_64 h1 h2)
 ·exact .of_right (intBits_le_64 h1 h2)
theorem Xc:OpR X (binaryOp .Add) (rI0 fun i j=>.int (i+j)):=zin fun _ _ _ _ _ _ _ q=>add_int q
theorem Rr:OpR X (binaryOp .Sub) (rI0 fun i j=>.int (i-j)):=zin fun _ _ _ _ _ _ _ q=>sub_int q
theorem Qm:OpR X (binaryOp .Mult) (rI CMul fun i j=>.int (i*j)):=opI fun _ _ _ _ _ _ _ hc q=>mul_int q hc.ok
theorem Xi:OpR X (binaryOp .FloorDiv) (rI CDiv fun i j=>.int (i/j)):=opI fun i j _ _ _ _ _ hc q=>by
 have h1:(0:Int)<j:=hc.1;have h2:j<1073741824:=hc.2;exact floordiv_int (by omega) (by rw[Int.fdiv_eq_ediv_of_nonneg i (by omega)];exact q) (.inl (PyProof.noPylong_small (by omega)))
theorem Yv:OpR X (binaryOp .Mod) (rI (fun _ j=>0<j) fun i j=>.int (i%j)):=opI fun i j _ _ _ _ _ hc q=>by
 have h1:(0:Int)<j:=hc;exact mod_int' (by omega) (by rw[Int.fmod_eq_emod_of_nonneg i (by omega)];exact q)
theorem unI{f:Value->Sem Value}{g:Int->Int}
  (rule:∀ (i:Int) (t:Tok) (s:Shared) (Q:Value->Shared->Prop) (E:Value->Shared->Prop),Q (.int (g i) s.toks) { s with toks:=s.toks+1 }->wpAny (model X.prog X.w) X.A (f (.int i t)) Q E s) :
  UnR X f (rU fun i=>.int (g i)):=by
 intro pins s σ H x v Q I rx h;obtain⟨i,rfl,q⟩:=h;obtain⟨t,rfl⟩:=rx;exact rule i t s _ _ ⟨.int (g i),H,I.tok _,⟨_,rfl⟩,q⟩
theorem Qn:UnR X (unaryOp .USub) (rU fun i=>.int (-i)):=unI fun _ _ _ _ _ q=>neg_int q
end
noncomputable def zio:V->V->Bool
 | .non,.non=>true|.non,.int _=>true|.int _,.non=>true|.non,.bl _=>true|.bl _,.non=>true|.non,.str _=>true|.str _,.non=>true
 | .int _,.int _=>true|.bl _,.bl _=>true|.str _,.str _=>true|.byt _,.byt _=>true
 | .int _,.str _=>true|.str _,.int _=>true|.bl _,.str _=>true|.str _,.bl _=>true
 | _,_=>false
inductive rEq(x:V)(y:V)(H:Hp)(Q:VK):Prop where
 | mk(_:zio x y=true)(_:Q (.bl (decide (x=y))) H)
inductive rNe(x:V)(y:V)(H:Hp)(Q:VK):Prop where
 | mk(_:zio x y=true)(_:Q (.bl (!decide (x=y))) H)
theorem A6{i j:Int}:decide (V.int i=V.int j)=(i == j):=by
 rw[z22];simp
theorem zc3{i j:Bool}:decide (V.bl i=V.bl j)=(i == j):=by
 rw[z22];simp
theorem A7{i j:Str}:decide (V.str i=V.str j)=(i == j):=by
 rw[z22];simp
theorem A8{i j:Array UInt8}:decide (V.byt i=V.byt j)=(i.toList == j.toList):=by
 rw[z22];cases i;cases j;simp
section
variable{X:Cx}{a b c:Expr}{ta tb tc:TE}{pos:Pos}
theorem Yo{pins:List (Addr×Obj)}{σ:St}{H:Hp}{s:Shared}{Q:VK}{k k':Bool}(I:Inv X pins σ H s)(q:Q (.bl k) H)(e:k=k'):EP X pins σ Q (.bool k') s:=by
 subst e;exact⟨.bl k,H,I,rfl,q⟩
theorem W0:OpR X (compareOp .Eq) rEq:=by
 intro pins s σ H x y v u Q I rx ry h;obtain⟨hs,q⟩:=h;cases x with
 | non =>
   cases rx;cases y with
   | non=>cases ry;exact PySem.EqNone.eq_none_none (Yo I q (by simp))
   | bl j=>cases ry;exact PySem.EqNone.eq_none_bool (Yo I q (by simp))
   | int j=>obtain⟨t',rfl⟩:=ry;exact PySem.EqNone.eq_none_int (Yo I q (by simp))
   | str j=>obtain⟨t',rfl⟩:=ry;exact PySem.EqNone.eq_none_str (Yo I q (by simp))
   | _=>exact absurd (show false=true from hs) z1d
 | bl i =>
   cases rx;cases y with
   | non=>cases ry;exact PySem.EqNone.eq_bool_none (Yo I q (by simp))
   | bl j=>cases ry;exact eq_bool (Yo I q zc3)
   | str j=>obtain⟨t',rfl⟩:=ry;exact PySem.EqMixed.eq_bool_str (Yo I q (by simp))
   | _=>exact absurd (show false=true from hs) z1d
 | int i =>
   obtain⟨t,rfl⟩:=rx;cases y with
   | non=>cases ry;exact PySem.EqNone.eq_int_none (Yo I q (by simp))
   | int j=>obtain⟨t',rfl⟩:=ry;exact eq_int (Yo I q A6)
   | str j=>obtain⟨t',rfl⟩:=ry;exact PySem.EqMixed.eq_int_str (Yo I q (by simp))
   | _=>exact absurd (show false=true from hs) z1d
 | str i =>
   obtain⟨t,rfl⟩:=rx;cases y with
   | non=>cases ry;exact PySem.EqNone.eq_str_none (Yo I q (by simp))
   | bl j=>cases ry;exact PySem.EqMixed.eq_str_bool (Yo I q (by simp))
   | int j=>obtain⟨t',rfl⟩:=ry;exact PySem.EqMixed.eq_str_int (Yo I q (by simp))
   | str j=>obtain⟨t',rfl⟩:=ry;exact eq_str (Yo I q A7)
   | _=>exact absurd (show false=true from hs) z1d
 | byt i =>
   obtain⟨t,rfl⟩:=rx;cases y with
   | byt j=>obtain⟨t',rfl⟩:=ry;exact PySem.W.eq_bytes (Yo I q A8)
   | _=>exact absurd (show false=true from hs) z1d
 | _=>cases y<;>exact absurd (show false=true from hs) z1d
theorem Jg:OpR X (compareOp .NotEq) rNe:=by
 intro pins s σ H x y v u Q I rx ry h;obtain⟨hs,q⟩:=h;cases x with
 | non =>
   cases rx;cases y with
   | non=>cases ry;exact PySem.EqNone.ne_none_none (Yo I q (by simp))
   | bl j=>cases ry;exact PySem.EqNone.ne_none_bool (Yo I q (by simp))
   | int j=>obtain⟨t',rfl⟩:=ry;exact PySem.EqNone.ne_none_int (Yo I q (by simp))
   | str j=>obtain⟨t',rfl⟩:=ry;exact PySem.EqNone.ne_none_str (Yo I q (by simp))
   | _=>exact absurd (show false=true from hs) z1d
 | bl i =>
   cases rx;cases y with
   | non=>cases ry;exact PySem.EqNone.ne_bool_none (Yo I q (by simp))
   | bl j=>cases ry;exact ne_bool (Yo I q (congrArg not zc3))
   | str j=>obtain⟨t',rfl⟩:=ry;exact PySem.EqMixed.ne_bool_str (Yo I q (by simp))
   | _=>exact absurd (show false=true from hs) z1d
 | int i =>
   obtain⟨t,rfl⟩:=rx;cases y with
   | non=>cases ry;exact PySem.EqNone.ne_int_none (Yo I q (by simp))
   | int j=>obtain⟨t',rfl⟩:=ry;exact ne_int (Yo I q (congrArg not A6))
   | str j=>obtain⟨t',rfl⟩:=ry;exact PySem.EqMixed.ne_int_str (Yo I q (by simp))
   | _=>exact absurd (show false=true from hs) z1d
 | str i =>
   obtain⟨t,rfl⟩:=rx;cases y with
   | non=>cases ry;exact PySem.EqNone.ne_str_none (Yo I q (by simp))
   | bl j=>cases ry;exact PySem.EqMixed.ne_str_bool (Yo I q (by simp))
   | int j=>obtain⟨t',rfl⟩:=ry;exact PySem.EqMixed.ne_str_int (Yo I q (by simp))
   | str j=>obtain⟨t',rfl⟩:=ry;exact ne_str (Yo I q (congrArg not A7))
   | _=>exact absurd (show false=true from hs) z1d
 | byt i =>
   obtain⟨t,rfl⟩:=rx;cases y with
   | byt j=>obtain⟨t',rfl⟩:=ry;exact PySem.W.ne_bytes (Yo I q (congrArg not A8))
   | _=>exact absurd (show false=true from hs) z1d
 | _=>cases y<;>exact absurd (show false=true from hs) z1d
theorem G4:OpR X (compareOp .Lt) (rI0 fun i j=>.bl (decide (i<j))):=zfb fun _ _ _ _ _ _ _ q=>lt_int q
theorem zge:OpR X (compareOp .LtE) (rI0 fun i j=>.bl (decide (i<=j))):=zfb fun _ _ _ _ _ _ _ q=>le_int q
theorem Ra:OpR X (compareOp .Gt) (rI0 fun i j=>.bl (decide (j<i))):=zfb fun _ _ _ _ _ _ _ q=>gt_int q
theorem zc4:OpR X (compareOp .GtE) (rI0 fun i j=>.bl (decide (j<=i))):=zfb fun _ _ _ _ _ _ _ q=>ge_int q
theorem Jh:OpR X (compareOp .Is) (fun x y H Q=>y=.non/\Q (.bl (decide (x=.non))) H):=by
 intro pins s σ H x y v u Q I rx ry h;obtain⟨rfl,q⟩:=h;cases ry;refine is_none_gen (Yo I q ?_);cases x<;>first
  | (cases rx;rfl)
  | (obtain⟨t,rfl⟩:=rx;rfl)
theorem V1:OpR X (compareOp .IsNot) (fun x y H Q=>y=.non/\Q (.bl (!decide (x=.non))) H):=by
 intro pins s σ H x y v u Q I rx ry h;obtain⟨rfl,q⟩:=h;cases ry;refine isnot_none_gen (Yo I q ?_);cases x<;>first
  | (cases rx;rfl)
  | (obtain⟨t,rfl⟩:=rx;rfl)
theorem Zw(b:Expr){op:CmpOp}(h:op≠.In:=by decide)(h2:op≠.NotIn:=by decide):behindInMarks op b=false:=by
 have e1:(op == CmpOp.In)=false:=by cases op<;>first|rfl|exact absurd rfl h
 have e2:(op == CmpOp.NotIn)=false:=by cases op<;>first|rfl|exact absurd rfl h2
 cases b<;>simp[behindInMarks,e1,e2]
theorem Na{op:CmpOp}{r:R2}(ho:OpR X (compareOp op) r)(ha:PE X a ta)(hb:PE X b tb)(hm:behindInMarks op b=false):PE X (.Compare a [op] [b] pos) (tOp r ta tb):=by
 intro pins s σ H Q I h;exact wpAny_Compare1 (binT ha hb I h fun v u s2 x y H2 I2 rx ry q=>ho pins s2 σ H2 x y v u Q I2 rx ry q) hm
noncomputable def zgf(t:TE):TT:=fun σ H Q=>t σ H fun x H'=>∃ k,x=.bl k/\Q k H'
theorem Zo{op:CmpOp}{r:R2}(ho:OpR X (compareOp op) r)(ha:PE X a ta)(hb:PE X b tb)(hm:behindInMarks op b=false):PT X (.Compare a [op] [b] pos) (zgf (tOp r ta tb)):=by
 intro pins s σ H Q I h;refine wpAny_isTrue_Compare1 (thn (ha pins s σ H _ I h) fun v s1 ⟨x,H1,I1,r1,q1⟩=>thn (hb pins s1 σ H1 _ I1 q1) fun u s2 ⟨y,H2,I2,r2,q2⟩ =>
  thn (ho pins s2 σ H2 x y v u _ I2 r1 r2 q2) fun c s3 ⟨z,H3,I3,r3,k,e,q3⟩=>?_) hm
 subst e;cases r3;exact wpAny_truthy_bool ⟨H3,I3,q3⟩
noncomputable def TruV(K:PySem.W.Frag)(x:V)(H:Hp)(k:Bool):Prop :=
 match x with
 | .non=>k=false
 | .bl b=>k=b
 | .int i=>k=(i != 0)
 | .str y=>y.length<=sizeLine/\k=((y.length:Int) != 0)
 | .byt y=>y.size<=sizeLine/\k=((y.size:Int) != 0)
 | .ref p=>(∃ xs,SqL K H p xs/\k=!xs.isEmpty)\/(∃ xs,SqT K H p xs/\k=!xs.isEmpty)\/∃ kvs,H p=some (.dK kvs)/\k=!kvs.isEmpty
 | _=>False
theorem Bu{κ:Type}{kvs:List (κ×V)}{vs:List (κ×Value)}(r:KV kvs vs):(!vs.isEmpty)=!kvs.isEmpty:=by
 cases r<;>rfl
theorem Ji{xs:List V}{its:List Value}(r:Vals xs its):(!its.toArray.isEmpty)=!xs.isEmpty:=by
 cases r<;>simp
theorem Od:(sizeLine:Nat)<2 ^ 63:=by rw[sizeLine_eq];decide
theorem zg6:zjt X (fun x H Q=>∃ k,TruV X.K x H k/\Q k H):=by
 intro pins s σ H x v Q I rx h;obtain⟨k,e,q⟩:=h;have hl:=Od;have hs:sizeLine=16777216:=sizeLine_eq;cases x with
 | non =>
   cases rx;have e':k=false:=e;subst e';exact truthy_none ⟨H,I,q⟩
 | bl b =>
   cases rx;have e':k=b:=e;subst e';exact wpAny_truthy_bool ⟨H,I,q⟩
 | int i =>
   obtain⟨t,rfl⟩:=rx;have e':k=(i != 0):=e;subst e';exact PySem.P.truthy_int ⟨H,I,q⟩
 | str y =>
   obtain⟨t,rfl⟩:=rx;obtain⟨hy,e'⟩:y.length<=sizeLine/\k=((y.length:Int) != 0):=e;subst e';exact PySem.P.truthy_str (by omega) ⟨H,I.tok _,q⟩
 | byt y =>
   obtain⟨t,rfl⟩:=rx;obtain⟨hy,e'⟩:y.size<=sizeLine/\k=((y.size:Int) != 0):=e;subst e';exact PySem.W.truthy_bytes (by omega) ⟨H,I.tok _,q⟩
 | ref p =>
   cases rx;have e':(∃ xs,SqL X.K H p xs/\k=!xs.isEmpty)\/(∃ xs,SqT X.K H p xs/\k=!xs.isEmpty)\/∃ kvs,H p=some (.dK kvs)/\k=!kvs.isEmpty:=e
   rcases e' with ⟨xs,hx,e'⟩|⟨xs,hx,e'⟩|⟨kvs,hx,e'⟩
   ·subst e'
    obtain⟨its,r,pl,hz⟩:=I.list hx;have hlen:=r.length;exact wpAny_truthy_list pl.isList (by simp only[z08];omega) ⟨H,I.tok _,by rw[Ji r];exact q⟩
   ·subst e'
    obtain⟨its,r,pl,hz⟩:=I.tuple hx;have hlen:=r.length;exact truthy_tuple pl (by simp only[z08];omega) ⟨H,I.tok _,by rw[Ji r];exact q⟩
   ·subst e'
    obtain⟨hz,hS,vs,r,m⟩:kvs.length<=sizeLine/\(p == sysModules)=false/\∃ vs,KV kvs vs/\s.heap.DictOf (Yr X.prog X.w) p vs:=I.hok p _ hx
    have hlen:kvs.length=vs.length:=Paired.length r;exact wpAny_truthy_dict hS m (by omega) ⟨H,I.tok _,by rw[Bu r];exact q⟩
 | _=>exact(show False from e).elim
theorem zc5(ha:PE X a ta)(he:∀ whole,isTrue a X.env whole=(do let v <- whole;standAt a.pos;holding [v] (truthy v))) :
  PT X a (fun σ H Q=>ta σ H fun x H'=>∃ k,TruV X.K x H' k/\Q k H'):=by
 intro pins s σ H Q I h;exact isTrue_plain (thn (ha pins s σ H _ I h) fun v s1 ⟨x,H1,I1,r1,q1⟩=>zg6 pins s1 σ H1 x v Q I1 r1 q1) (he _)
theorem Qo{x:V}{us:List Value}(r:Vals [x] us):∃ u,us=[u]/\RelV x u:=by
 cases r with
 | cons r1 r2=>cases r2;exact⟨_,rfl,r1⟩
theorem zc6{x y:V}{us:List Value}(r:Vals [x,y] us):∃ u w',us=[u,w']/\RelV x u/\RelV y w':=by
 cases r with
 | cons r1 r2 =>
   cases r2 with
   | cons r3 r4=>cases r4;exact⟨_,_,rfl,r1,r3⟩
theorem Mi(hc:X.calm=true):Ux X (.builtin "max") (fun xs H Q=>∃ i j,xs=[.int i,.int j]/\Q (.int (if j>i then j else i)) H):=by
 intro pins s σ H xs us Q I r h;obtain⟨i,j,rfl,q⟩:=h;obtain⟨u,w',rfl,⟨t,rfl⟩,⟨t',rfl⟩⟩:=zc6 r;refine max_two_ints (I.ok.hd hc) fun h' tk k=>⟨_,H,I.kept k,?_,q⟩
 by_cases hj:j>i
 ·rw[if_pos hj,if_pos hj];exact⟨_,rfl⟩
 ·rw[if_neg hj,if_neg hj];exact⟨_,rfl⟩
theorem G5(hc:X.calm=true):Ux X (.builtin "min") (fun xs H Q=>∃ i j,xs=[.int i,.int j]/\Q (.int (if j<i then j else i)) H):=by
 intro pins s σ H xs us Q I r h;obtain⟨i,j,rfl,q⟩:=h;obtain⟨u,w',rfl,⟨t,rfl⟩,⟨t',rfl⟩⟩:=zc6 r;refine min_two_ints (I.ok.hd hc) fun h' tk k=>⟨_,H,I.kept k,?_,q⟩
 by_cases hj:j<i
 ·rw[if_pos hj,if_pos hj];exact⟨_,rfl⟩
 ·rw[if_neg hj,if_neg hj];exact⟨_,rfl⟩
theorem zbe:Ux X (.type "int") (fun xs H Q=>(∃ i,xs=[.int i]/\Q (.int i) H)\/∃ k,xs=[.bl k]/\Q (.int (if k then 1 else 0)) H):=by
 intro pins s σ H xs us Q I r h;rcases h with ⟨i,rfl,q⟩|⟨k,rfl,q⟩
 ·obtain⟨u,rfl,t,rfl⟩:=Qo r
  exact call_int_int ⟨.int i,H,I,⟨_,rfl⟩,q⟩
 ·obtain⟨u,rfl,r1⟩:=Qo r
  cases r1;exact call_int_bool ⟨.int (if k then 1 else 0),H,I.tok _,⟨_,rfl⟩,q⟩
end
structure ObjM(h:Heap)(x dx C:Addr)(mA:Str->Option Value):Prop where
 obj:h.get? x=some (PySem.W.instObj C dx)
 ns:h.Ns1 dx mA
 ne:dx≠x
theorem zbf{h:Heap}{dx:Addr}{mA:Str->Option Value}(n:h.Ns1 dx mA):∃ od,h.get? dx=some od/\∀ name,PySem.W.lookIn name od=some (mA name):=by
 obtain⟨o,es,ep,ho,hd,hk,_,hm⟩:=n;refine⟨o,ho,fun name=>?_⟩
 have e:=hm name;unfold nsFind findBy at e
 rw[<- Array.find?_toList] at e
 unfold PySem.W.lookIn;rw[hd];dsimp only;split
 ·rename_i y q
  rw[q] at e
  exact congrArg some e
 ·rename_i q
  rw[q] at e
  have a:es.toList.any (·.refKey)=false:=by
   rw[List.any_eq_false];intro y hy;obtain⟨z,t,hkey⟩:=hk y (Array.mem_toList_iff.mp hy);simp[DictEntry.refKey,hkey]
  have a':¬ es.toList.any (·.refKey)=true:=by rw[a];exact z1d
  rw[if_neg a'];exact congrArg some e
theorem ObjM.look{h:Heap}{x dx C:Addr}{mA:Str->Option Value}(I:ObjM h x dx C mA):∃ od,PySem.W.InstAt h x (PySem.W.instObj C dx) C (some od)/\∀ name,PySem.W.lookIn name od=some (mA name) :=
 let ⟨od,ho,hl⟩:=zbf I.ns
 ⟨od,⟨I.obj,rfl,rfl,ho⟩,hl⟩
section
variable{prog:Program}{w:World}{A:Around}{E:Value->Shared->Prop}{s:Shared}{K:PySem.W.Frag}{x dx C f:Addr}{mA:Str->Option Value}{name:Str}{v:Value}
theorem zfc{expr:Bool}{Q:Value->Shared->Prop}(X:K.In s.heap)(I:ObjM s.heap x dx C mA)(hg:PySem.W.plainGet K C name=true)(hh:PySem.W.hasDictIn K C=true)
  (ha:PySem.W.findIn K (.ref C) name=some none) (hv:mA name=some v) (hv':PySem.W.handedIn v=true) (h:Q v { s with toks:=s.toks+1 }) :
  wpAny (model prog w) A (getAttr (.ref x) name expr) Q E s:=by
 obtain⟨od,J,hl⟩:=I.look;exact PySem.W.get_value X J (PySem.W.plainGet_of hg).1 (PySem.W.findObj_own hh ha rfl (by rw[hl,hv])) hv' h
theorem zc7{pl:Sem Bool}{Q:Value×List Value->Shared->Prop}(X:K.In s.heap)(I:ObjM s.heap x dx C mA)(hg:PySem.W.plainGet K C name=true)
  (hf:PySem.W.findIn K (.ref C) name=some (some (.ref f))) (ht:PySem.W.isFn K (.ref f)=true) (hv:mA name=none) (h:Q (.ref f,[.ref x]) s) :
  wpAny (model prog w) A (getMethod (.ref x) name pl) Q E s:=by
 obtain⟨od,J,hl⟩:=I.look;exact PySem.W.method_fn X J (PySem.W.plainGet_of hg).1 (PySem.W.plainGet_of hg).2 hf (beq_iff_eq.mp ht) (by show (PySem.W.lookIn name od).map (·.isSome)=some false;rw[hl,hv];rfl) h
theorem zfd{ns:List Str}{Q:Unit->Shared->Prop}(X:K.In s.heap)(I:ObjM s.heap x dx C mA)
  (hs:PySem.W.findIn K (.ref C) "__setattr__"=some (some (.builtin "object.__setattr__"))) (hp:PySem.W.plainOver K C=true) (ht:PySem.W.takerIn K C name=some none) (hh:PySem.W.hasDictIn K C=true)
  (hw:PySem.Within mA ns) (hsz:ns.length<=sizeLine)
  (h:∀ h',ObjM h' x dx C (fun y=>if y=name then some v else mA y)->Heap.SameBut dx s.heap h'->Q () { s with heap:=h',toks:=s.toks+2 }) :
  wpAny (model prog w) A (setAttr (.ref x) name v) Q E s:=by
 obtain⟨od,J,hl⟩:=I.look;refine PySem.W.set_plain X J hs (PySem.W.osa_open (s:={ s with toks:=s.toks+1 }) (r:=none) X J hp ht fun b=>?_)
 obtain⟨cd,hc,hd'⟩:=PySem.W.any_some hh;have hx:s.heap.get? x=some ⟨.ref C,some dx,.plain,#[]⟩:=I.obj;refine wpAny_bind (wpAny_pure (wpAny_bind (wpAny_bind (wpAny_loadPart hx (wpAny_bind (PySem.W.Looks.here (s:={ s with toks:=s.toks+1 }) (PySem.W.looks_clsIn X hc) ?_))))))
 rw[hd'];refine wpAny_pure (a:=some dx) (wpAny_bind (wpAny_pure (wpAny_bind ?_)));refine wpAny_nsSet1 (s:={ s with toks:=s.toks+1 }) I.ns fun h' hn2 hs2=>?_
 obtain⟨oD,esD,epD,hoD,hdD,hcD⟩:=hn2.count (PySem.Within.cons name v hw);refine wpAny_bind (wpAny_lookBehind hoD (by rw[hdD];exact pastItsLine_dict (z09 hcD (by rw[z1h];omega))) ?_)
 exact wpAny_pure (h _ ⟨(hs2.2 _ (Ne.symm I.ne)).trans I.obj,hn2,I.ne⟩ hs2)
theorem zc8{R:Result->Shared->Prop}{vs:List Value}{kw:List (Str×Value)}(X:K.In s.heap)(hm:PySem.W.makesIn K C=true)
  (hi:PySem.W.findIn K (.ref C) "__init__"=some (some (.ref f))) (hf:PySem.W.typeIn K (.ref f)=some (.type "function"))
  (h:codeAny (model prog w) (A.under (.builtin "type.__call__" ⟨.ref C :: vs,kw⟩)) (.call (.ref f) ⟨.ref (s.heap.objs.size+1) :: vs,kw⟩) (PySem.W.InitBack (s.heap.objs.size+1) R)
   { s with heap:=(s.heap.push PySem.W.emptyDict).push (PySem.W.instObj C s.heap.objs.size) }) :
  codeAny (model prog w) A (.call (.ref C) ⟨vs,kw⟩) R s:=by
 obtain⟨hh,g,d,t,os⟩:=s;exact PySem.W.make_core (PySem.W.makes_of X hm) (PySem.W.looks_findIn X hi) (fun self=>PySem.W.bind_fn X self hf) (.inl rfl) h
end
noncomputable def putF(f:Str)(v:V):List (Str×V)->List (Str×V)
 | []=>[(f,v)]
 | (g,x) :: r=>if g=f then (g,v) :: r else (g,x) :: putF f v r
theorem Ll(f g:Str)(v:V):∀ fs:List (Str×V),(putF f v fs).lookup g=if g=f then some v else fs.lookup g
 | []=>by
   show List.lookup g [(f,v)]=_;by_cases h:g=f
   ·have hb:(g == f)=true:=beq_iff_eq.mpr h
    simp only[List.lookup,hb,if_pos h]
   ·have hb:(g == f)=false:=z1g.mpr h
    simp only[List.lookup,hb,if_neg h]
 | (k,x) :: r=>by
   have ih:=Ll f g v r;rw[show putF f v ((k,x) :: r)=(if k=f then (k,v) :: r else (k,x) :: putF f v r) from rfl]
   by_cases hk:k=f
   ·rw[if_pos hk]
    by_cases h:g=k
    ·have hb:(g == k)=true:=beq_iff_eq.mpr h
     simp only[List.lookup,hb,if_pos (h.trans hk)]
    ·have hb:(g == k)=false:=z1g.mpr h
     simp only[List.lookup,hb,if_neg (fun e:g=f=>h (e.trans hk.symm))]
   ·rw[if_neg hk]
    by_cases h:g=k
    ·have hb:(g == k)=true:=beq_iff_eq.mpr h
     simp only[List.lookup,hb,if_neg (fun e:g=f=>hk (h.symm.trans e))]
    ·have hb:(g == k)=false:=z1g.mpr h
     simp only[List.lookup,hb];exact ih
theorem Mj(f:Str)(v:V):∀ fs:List (Str×V),f∈(putF f v fs).map (·.1)/\∀ g,g∈fs.map (·.1)->g∈(putF f v fs).map (·.1)
 | []=>⟨by simp[putF],fun g h=>by simp at h⟩
 | (k,x) :: r=>by
   obtain⟨i1,i2⟩:=Mj f v r;rw[show putF f v ((k,x) :: r)=(if k=f then (k,v) :: r else (k,x) :: putF f v r) from rfl]
   by_cases hk:k=f
   ·rw[if_pos hk]
    subst hk;exact⟨by simp,fun g h=>by simpa using h⟩
   ·rw[if_neg hk]
    refine⟨?_,fun g h=>?_⟩
    ·rw[z04]
     exact z1e _ i1
    ·rw[z04] at h ⊢
     rcases z00.mp h with e|e
     ·exact z00.mpr (.inl e)
     ·exact z1e _ (i2 g e)
theorem Ln(f:Str)(v:V):∀ fs:List (Str×V),(putF f v fs).length<=fs.length+1
 | []=>by simp[putF]
 | (k,x) :: r=>by
   have ih:=Ln f v r;rw[show putF f v ((k,x) :: r)=(if k=f then (k,v) :: r else (k,x) :: putF f v r) from rfl]
   by_cases hk:k=f
   ·rw[if_pos hk,z1h,z1h];omega
   ·rw[if_neg hk,z1h,z1h];omega
theorem RelO.some_of{v:V}{o:Option Value}(r:RelO (some v) o):∃ u,o=some u/\RelV v u:=by
 cases o with
 | none=>exact(show False from r).elim
 | some u=>exact⟨u,rfl,r⟩
theorem RelO.none_of{o:Option Value}(r:RelO none o):o=none:=by
 cases o with
 | none=>rfl
 | some u=>exact(show False from r).elim
theorem zbg{v:V}{u:Value}(r:RelV v u):PySem.W.handedIn u=true:=by
 cases v with
 | non=>cases (show u=Value.none from r);rfl
 | bl b=>cases (show u=Value.bool b from r);rfl
 | int i=>obtain⟨t,e⟩:=(show ∃ t,u=Value.int i t from r);cases e;rfl
 | str x=>obtain⟨t,e⟩:=(show ∃ t,u=Value.str x t from r);cases e;rfl
 | byt b=>obtain⟨t,e⟩:=(show ∃ t,u=Value.bytes b t from r);cases e;rfl
 | flt b=>obtain⟨t,e⟩:=(show ∃ t,u=Value.float b t from r);cases e;rfl
 | ref a=>cases (show u=Value.ref a from r);rfl
 | ty n=>cases (show u=Value.type n from r);rfl
section
variable{P:Program}{w:World}{H H':Hp}{h h':Heap}{a C dx:Addr}{fs fs':List (Str×V)}
theorem K8(hok:HOk P w H h)(e:H a=some (.ins C dx fs)):∃ mA,ObjM h a dx C mA/\(∀ f,RelO (fs.lookup f) (mA f))/\PySem.Within mA (fs.map (·.1))/\fs.length<=1000/\H dx=some (.own a):=by
 obtain⟨d,z,ne,ob,mA,n,r,q⟩:=(show Xa P w H h a (.ins C dx fs) from hok a _ e)
 exact⟨mA,⟨ob,n,ne⟩,r,q,z,d⟩
end
structure Cls(K:PySem.W.Frag)(C:Addr):Prop where
 pg:PySem.W.plainGet K C Str.empty=true
 hd:PySem.W.hasDictIn K C=true
 po:PySem.W.plainOver K C=true
 sa:PySem.W.findIn K (.ref C) "__setattr__"=some (some (.builtin "object.__setattr__"))
theorem Cls.get{K:PySem.W.Frag}{C:Addr}(c:Cls K C)(f:Str):PySem.W.plainGet K C f=true:=c.pg
noncomputable def X2(K:PySem.W.Frag)(C:Addr)(f:Str):Prop:=PySem.W.findIn K (.ref C) f=some none
theorem X2.taker{K:PySem.W.Frag}{C:Addr}{f:Str}(n:X2 K C f):PySem.W.takerIn K C f=some none:=by
 unfold PySem.W.takerIn;rw[show PySem.W.findIn K (.ref C) f=some none from n]
 rfl
structure Con(K:PySem.W.Frag)(C:Addr)(f:Str)(v:V)(u:Value):Prop where
 at_:PySem.W.findIn K (.ref C) f=some (some u)
 rel:RelV v u
 get:PySem.W.specialIn K u "__get__"=some none
 cp:PySem.W.copiedNames.contains f=false
structure zc9(K:PySem.W.Frag)(C:Addr)(m:Str)(f:Addr):Prop where
 at_:PySem.W.findIn K (.ref C) m=some (some (.ref f))
 fn:PySem.W.isFn K (.ref f)=true
 kp:PySem.W.keepIn K (.ref f)=true
section
variable{X:Cx}{pins:List (Addr×Obj)}{σ:St}{H:Hp}{s:Shared}{a C dx:Addr}{fs:List (Str×V)}{f:Str}{v:V}{A:Around}{E:Value->Shared->Prop}
theorem Bv{b:Bool}{Q:Value->Shared->Prop}(I:Inv X pins σ H s)(e:H a=some (.ins C dx fs))(c:Cls X.K C)(n:X2 X.K C f)(l:fs.lookup f=some v)
  (h:∀ u s',Inv X pins σ H s'->RelV v u->Q u s'):wpAny (model X.prog X.w) A (getAttr (.ref a) f b) Q E s:=by
 obtain⟨mA,O,r,_,_,_⟩:=K8 I.hok e;obtain⟨u,hu,ru⟩:=RelO.some_of (v:=v) (o:=mA f) (by rw[<- l];exact r f)
 exact zfc I.kIn O (c.get f) c.hd n hu (zbg ru) (h u _ (I.tok _) ru)
theorem Jj{m:Str}{g:Addr}{pl:Sem Bool}{Q:Value×List Value->Shared->Prop}(I:Inv X pins σ H s)(e:H a=some (.ins C dx fs))(c:Cls X.K C)(k:zc9 X.K C m g)(l:fs.lookup m=none)
  (h:Q (.ref g,[.ref a]) s):wpAny (model X.prog X.w) A (getMethod (.ref a) m pl) Q E s:=by
 obtain⟨mA,O,r,_,_,_⟩:=K8 I.hok e;have hn:mA m=none:=RelO.none_of (by rw[<- l];exact r m)
 exact zc7 I.kIn O (c.get m) k.at_ k.fn hn h
theorem Bw{y:V}{u:Value}{Q:Unit->Shared->Prop}(I:Inv X pins σ H s)(e:H a=some (.ins C dx fs))(c:Cls X.K C)(n:X2 X.K C f)(hl:fs.length<1000)(ry:RelV y u)
  (h:∀ s',Inv X pins σ (upd H a (.ins C dx (putF f y fs))) s'->Q () s'):wpAny (model X.prog X.w) A (setAttr (.ref a) f u) Q E s:=by
 obtain⟨mA,O,r,wi,_,ho⟩:=K8 I.hok e;have hz:(fs.map (·.1)).length<=sizeLine:=by rw[z0t,sizeLine_eq];omega
 refine zfd I.kIn O c.sa c.po n.taker c.hd wi hz fun h' O' sb=>h _ ?_
 have hd:∃ o,h'.get? dx=some o:=let ⟨o,_,_,e',_⟩:=O'.ns;⟨o,e'⟩
 refine I.write (x:=a) (e:=dx) (by rw[e];exact True.intro) (.inr ho) (fun b q hb z=>(sb.2 b hb).trans z) hd ?_
 refine⟨by rw[Zh O.ne];exact ho,?_,O.ne,O'.obj,_,O'.ns,fun g=>?_,fun g hg=>?_⟩
 ·have:=Ln f y fs;omega
 ·show RelO ((putF f y fs).lookup g) (if g=f then some u else mA g)
  rw[Ll];by_cases q:g=f
  ·rw[if_pos q,if_pos q];exact ry
  ·rw[if_neg q,if_neg q];exact r g
 ·by_cases q:g=f
  ·rw[q];exact(Mj f y fs).1
  ·refine(Mj f y fs).2 g (wi g fun z=>hg ?_)
   show (if g=f then some u else mA g)=none
   rw[if_neg q];exact z
theorem Inv.made(I:Inv X pins σ H s):Inv X pins σ (upd (upd H s.heap.objs.size (.own (s.heap.objs.size+1))) (s.heap.objs.size+1) (.ins C s.heap.objs.size []))
  { s with heap:=(s.heap.push PySem.W.emptyDict).push (PySem.W.instObj C s.heap.objs.size) }:=by
 have e1:(s.heap.push PySem.W.emptyDict).get? s.heap.objs.size=some PySem.W.emptyDict:=Heap.get?_push_size s.heap rfl;have e2:((s.heap.push PySem.W.emptyDict).push (PySem.W.instObj C s.heap.objs.size)).get? (s.heap.objs.size+1)=some (PySem.W.instObj C s.heap.objs.size):=by
  have:=Heap.get?_push_size (s.heap.push PySem.W.emptyDict) (o:=PySem.W.instObj C s.heap.objs.size) rfl
  rwa [Heap.size_push] at this
 have e3:(s.heap.push PySem.W.emptyDict).Ns s.heap.objs.size (fun _=>none):=⟨PySem.W.emptyDict,#[],_,e1,rfl,(fun e he=>absurd he (by simp)),fun _=>rfl⟩
 have I1:=I.laid (a:=s.heap.objs.size) (o:=.own (s.heap.objs.size+1)) (h':=s.heap.push PySem.W.emptyDict) (t':=s.toks) (fun b u q=>Heap.get?_push_of_some _ q) (z03 _) ⟨_,e1⟩
 refine I1.laid (a:=s.heap.objs.size+1) (o:=.ins C s.heap.objs.size []) (t':=s.toks) (fun b u q=>Heap.get?_push_of_some _ q) (Nat.le_of_eq (Heap.size_push _ _)) ?_
 have ne:s.heap.objs.size≠s.heap.objs.size+1:=z1k (Nat.lt_succ_self _);refine⟨by rw[Zh ne,Zc],z1j _,ne,e2,fun _=>none,(Heap.Ns1.of_empty e3).at fun o q=>Heap.get?_push_of_some _ q,fun _=>True.intro,fun y hy=>absurd rfl hy⟩
theorem zfe{prog:Program}{w:World}{env:Env}{e:Expr}{f:Str}{pos:Pos}{s:Shared}{Q:Value->Shared->Prop}(hb:attributeBase e f env (eval e env)=eval e env)
  (h:wpAny (model prog w) A (eval e env) (fun o s₁=>wpAny (model prog w) A (getAttr o f true) Q E s₁) E s):wpAny (model prog w) A (eval (.Attribute e f pos) env) Q E s :=
 Attribute_any_ h (by rw[arm_eval_Attribute,hb])
end
inductive ziq(K:PySem.W.Frag)(f:Str)(Q:VK)(x:V)(H1:Hp):Prop where
 | mk(a)(C)(dx)(fs)(v)(_:x=.ref a)(_:H1 a=some (.ins C dx fs))(_:Cls K C)(_:X2 K C f)(_:fs.lookup f=some v)(_:Q v H1)
noncomputable def zir(K:PySem.W.Frag)(ta:TE)(f:Str):TE:=fun σ H Q=>ta σ H fun x H1=>ziq K f Q x H1
inductive zis(K:PySem.W.Frag)(f:Str)(D:S5)(σ:L2.St)(y:V)(x:V)(H2:Hp):Prop where
 | mk(a)(C)(dx)(fs)(_:x=.ref a)(_:H2 a=some (.ins C dx fs))(_:Cls K C)(_:X2 K C f)(_:fs.length<1000)(_:D.nx σ (upd H2 a (.ins C dx (putF f y fs))))
noncomputable def zit(K:PySem.W.Frag)(ta tv:TE)(f:Str):TS:=fun D σ H=>tv σ H fun y H1=>ta σ H1 fun x H2=>zis K f D σ y x H2
section
variable{X:Cx}{o e value:Expr}{f:Str}{pos pos' tpos:Pos}{ta tv:TE}
theorem zg7(he:PE X e ta)(hb:attributeBase e f X.env (eval e X.env)=eval e X.env):PE X (.Attribute e f pos) (zir X.K ta f):=by
 intro pins s σ H Q I h;refine zfe hb (thn (he pins s σ H _ I h) fun u s1 ⟨x,H1,I1,rx,a,C,dx,fs,v,ex,ea,c,n,l,q⟩=>?_)
 subst ex;obtain rfl:u=Value.ref a:=rx;exact Bv I1 ea c n l fun u' s2 I2 ru=>⟨v,H1,I2,ru,q⟩
theorem zg8(ha:PE X o ta)(hv:PE X value tv)(hs:swapsWith value (some (.Attribute o f pos')) pos.line X.env=pure false):PS X (.Assign [.Attribute o f pos'] value pos) (zit X.K ta tv f):=by
 intro pins s σ H D I h;refine plainObj_wpAny_Assign_Attribute (thn (hv pins s σ H _ I h) fun u s1 ⟨y,H1,I1,ry,q⟩=>thn (ha pins s1 σ H1 _ I1 q) fun ov s2 ⟨x,H2,I2,rx,a,C,dx,fs,ex,ea,c,n,l,q2⟩=>?_) hs
 subst ex;obtain rfl:ov=Value.ref a:=rx;exact Bw I2 ea c n l ry fun s3 I3=>⟨σ,_,I3,q2⟩
end
section
variable{X:Cx}{pins:List (Addr×Obj)}{σ:St}{H:Hp}{s:Shared}{A:Around}{E:Value->Shared->Prop}{Q:Value->Shared->Prop}{c:Value}{b:Bool}
inductive Ml(K:PySem.W.Frag)(H:Hp):V->Value->Prop where
 | non:Ml K H .non (.type "NoneType")
 | bl (x:Bool):Ml K H (.bl x) (.type "bool")
 | int (i:Int):Ml K H (.int i) (.type "int")
 | str (x:Str):Ml K H (.str x) (.type "str")
 | flt (x:UInt64):Ml K H (.flt x) (.type "float")
 | lst {a:Addr} {xs:List V} (e:H a=some (.lst xs)):Ml K H (.ref a) (.type "list")
 | frz {a:Addr} {o:Obj} {xs:List V} (e:H a=some (.frz o (.lst xs))):Ml K H (.ref a) (.type "list")
 | tup {a:Addr} {xs:List V} (e:H a=some (.tup xs)):Ml K H (.ref a) (.type "tuple")
 | dK {a:Addr} {kvs:List (Key×V)} (e:H a=some (.dK kvs)):Ml K H (.ref a) (.type "dict")
 | dT {a:Addr} {kvs:List (List Key×V)} (e:H a=some (.dT kvs)):Ml K H (.ref a) (.type "dict")
 | ins {a C dx:Addr} {fs:List (Str×V)} (e:H a=some (.ins C dx fs)) (cl:Cls K C) (ha:PySem.W.findIn K (.ref C) "__class__"=some (some (.builtin "object.__class__")))
   (hn:PySem.W.specialIn K (.builtin "object.__class__") "__get__"=some (some (.builtin "getset_descriptor.__get__"))) (htk:PySem.W.takesIn K (.builtin "object.__class__")=some true)
   (hm:PySem.W.mroIn K C (.type "object")=some true):Ml K H (.ref a) (.ref C)
theorem zbh{x:V}{u t:Value}(I:Inv X pins σ H s)(rx:RelV x u)(ty:Ml X.K H x t)(e:PySem.W.kitOne X.K t c=some b)(h:∀ tk,Q (.bool b) { s with toks:=tk }) :
  wpAny (model X.prog X.w) A (call (.builtin "isinstance") [u,c]) Q E s:=by
 cases ty with
 | non=>cases (show u=Value.none from rx);exact PySem.W.kia_one PySem.W.kitx_none I.kIn True.intro e (fun z=>nomatch z) h
 | bl y=>cases (show u=Value.bool y from rx);exact PySem.W.kia_one PySem.W.kitx_bool I.kIn True.intro e (fun z=>nomatch z) h
 | int i=>obtain⟨t,q⟩:=(show ∃ t,u=Value.int i t from rx);cases q;exact PySem.W.kia_one PySem.W.kitx_int I.kIn True.intro e (fun z=>nomatch z) h
 | str y=>obtain⟨t,q⟩:=(show ∃ t,u=Value.str y t from rx);cases q;exact PySem.W.kia_one PySem.W.kitx_str I.kIn True.intro e (fun z=>nomatch z) h
 | flt y=>obtain⟨t,q⟩:=(show ∃ t,u=Value.float y t from rx);cases q;exact PySem.W.kia_one PySem.W.kitx_float I.kIn True.intro e (fun z=>nomatch z) h
 | @lst a xs ea =>
   cases (show u=Value.ref a from rx)
   obtain⟨_,_,n,_,h1⟩:=(show Xa X.prog X.w H s.heap a (.lst xs) from I.hok a _ ea)
   exact PySem.W.kia_one PySem.W.kitx_list I.kIn ⟨_,h1,rfl⟩ e (fun z=>nomatch z) h
 | @frz a ob xs ea =>
   cases (show u=Value.ref a from rx)
   obtain⟨_,_,_,n,_,h1⟩:=(show Xa X.prog X.w H s.heap a (.frz ob (.lst xs)) from I.hok a _ ea)
   exact PySem.W.kia_one PySem.W.kitx_list I.kIn ⟨_,h1,rfl⟩ e (fun z=>nomatch z) h
 | @tup a xs ea =>
   cases (show u=Value.ref a from rx)
   obtain⟨_,_,_,p⟩:=(show Xa X.prog X.w H s.heap a (.tup xs) from I.hok a _ ea)
   obtain⟨o,h1,h2,_⟩:=p;exact PySem.W.kia_one PySem.W.kitx_tuple I.kIn ⟨o,h1,h2⟩ e (fun z=>nomatch z) h
 | @dK a kvs ea =>
   cases (show u=Value.ref a from rx)
   obtain⟨_,_,vs,_,p⟩:=(show Xa X.prog X.w H s.heap a (.dK kvs) from I.hok a _ ea)
   obtain⟨o,es,ep,h1,h2,_⟩:=p;exact PySem.W.kia_one PySem.W.kitx_dict I.kIn ⟨o,h1,h2.1⟩ e (fun z=>nomatch z) h
 | @dT a kvs ea =>
   cases (show u=Value.ref a from rx)
   obtain⟨_,_,xs,_,o,es,ep,h1,h2,_⟩:=(show Xa X.prog X.w H s.heap a (.dT kvs) from I.hok a _ ea)
   exact PySem.W.kia_one PySem.W.kitx_dict I.kIn ⟨o,h1,h2.1⟩ e (fun z=>nomatch z) h
 | @ins a C dx fs ea cl ha hn htk hm =>
   cases (show u=Value.ref a from rx)
   obtain⟨mA,O,_⟩:=K8 I.hok ea;obtain⟨od,J,_⟩:=O.look;exact PySem.W.kia_one (PySem.W.kitx_own (cl.get _) cl.hd ha hn htk hm) I.kIn J e (fun z=>nomatch z) h
end
structure Vm(k:Nat)(A:Around):Prop where
 hd:A.handled=none
 dp:A.depth+3*k+5<recursionLimit
 un:A.units+16*k+200<cLine
theorem Vm.mono{j k:Nat}{A:Around}(r:Vm k A)(h:j<=k):Vm j A:=⟨r.hd,by have:=r.dp;omega,by have:=r.un;omega⟩
theorem Vm.deeper{k:Nat}{A:Around}(r:Vm (k+1) A)(env:Env):Vm k (A.deeper env) :=
 ⟨r.hd,by have:=r.dp;show A.depth+1+3*k+5<_;omega,by have:=r.un;show A.units+3+16*k+200<_;omega⟩
theorem Bx{A:Around}{C:Addr}{us:List Value}{kw:List (Str×Value)}:(A.under (.builtin "type.__call__" ⟨.ref C :: us,kw⟩)).depth=A.depth+1:=by
 first|rfl|simp[Around.under,Code.weight,Code.isCreation,Code.isGuard,Code.isCaller,Code.frames,Code.isFrame,guardIds]
theorem By{A:Around}{C:Addr}{us:List Value}{kw:List (Str×Value)}:(A.under (.builtin "type.__call__" ⟨.ref C :: us,kw⟩)).units=A.units+1:=by
 first|rfl|simp[Around.under,Code.cUnits,Code.frames,Code.isFrame]
theorem Vm.make{k:Nat}{A:Around}(r:Vm (k+1) A)(C:Addr)(us:List Value)(kw:List (Str×Value)):Vm k (A.under (.builtin "type.__call__" ⟨.ref C :: us,kw⟩)) :=
 ⟨r.hd,by have:=r.dp;rw[Bx];omega,by have:=r.un;rw[By];omega⟩
theorem Vm.depth{k:Nat}{A:Around}(r:Vm k A):A.depth<recursionLimit:=by have:=r.dp;omega
theorem Vm.units{k:Nat}{A:Around}(r:Vm k A):A.units+64<cLine:=by have:=r.un;omega
noncomputable def Bz:TA:=fun _ H Q=>Q [] H
noncomputable def zgg(ta:TE)(tr:TA):TA:=fun σ H Q=>ta σ H fun x H1=>tr σ H1 fun xs H2=>Q (x :: xs) H2
section
variable{X:Cx}{e:Expr}{es:List Expr}{te:TE}{t:TA}{pos:Pos}
theorem Zd:PA X [] Bz:=fun _ _ _ _ H Q I h=>Calls.spliced_nil ⟨[],H,I,.nil,h⟩
theorem Za(ha:PE X e te)(hr:PA X es t)(hs:starEach (e :: es) X.env=(false,eval e X.env) :: starEach es X.env:=by rfl):PA X (e :: es) (zgg te t):=by
 intro pos pins s σ H Q I h;rw[hs];show wpAny _ _ (spliced ((false,eval e X.env) :: backTo pos (starEach es X.env))) _ _ s;refine Calls.spliced_cons (thn (ha pins s σ H _ I h) fun u s1 ⟨x,H1,I1,r1,q1⟩=>?_)
 exact thn (hr pos pins s1 σ H1 _ I1 q1) fun us s2 ⟨xs,H2,I2,r2,q2⟩=>⟨x :: xs,H2,I2,.cons r1 r2,q2⟩
inductive ziu(Q:VK)(xs:List V)(H1:Hp):Prop where
 | mk(_:xs.length<=sizeLine)(_:∀ p,H1 p=none->Q (.ref p) (upd H1 p (.tup xs)))
noncomputable def zju(t:TA):TE:=fun σ H Q=>t σ H fun xs H1=>ziu Q xs H1
inductive ziv(Q:VK)(xs:List V)(H1:Hp):Prop where
 | mk(_:xs.length<=sizeLine)(_:∀ p,H1 p=none->Q (.ref p) (upd H1 p (.lst xs)))
noncomputable def B0(t:TA):TE:=fun σ H Q=>t σ H fun xs H1=>ziv Q xs H1
theorem Ye{x1}(h:PA X es t):PE X (.Tuple es x1 pos) (zju t):=by
 intro pins s σ H Q I hq;refine wpAny_Tuple_spliced (thn (h pos pins s σ H _ I hq) fun us s1 ⟨xs,H1,I1,r,z,q⟩=>⟨by rw[<- r.length];exact z,?_⟩)
 have hf:H1 s1.heap.objs.size=none:=I1.hok.fresh (z03 _);refine⟨.ref s1.heap.objs.size,upd H1 s1.heap.objs.size (.tup xs),I1.laid (t':=s1.toks) (fun b u e=>Heap.get?_push_of_some _ e) (z03 _) ?_,rfl,q _ hf⟩
 exact⟨z,us,r,⟨_,Heap.get?_push_size _ rfl,rfl,_,rfl⟩⟩
theorem Ya(h:PA X es t):PE X (.List es pos) (B0 t):=by
 intro pins s σ H Q I hq;refine wpAny_List_spliced (thn (h pos pins s σ H _ I hq) fun us s1 ⟨xs,H1,I1,r,z,q⟩=>⟨by rw[<- r.length];exact z,?_⟩)
 have hf:H1 s1.heap.objs.size=none:=I1.hok.fresh (z03 _);refine⟨.ref s1.heap.objs.size,upd H1 s1.heap.objs.size (.lst xs),I1.laid (t':=s1.toks) (fun b u e=>Heap.get?_push_of_some _ e) (z03 _) ?_,rfl,q _ hf⟩
 exact⟨z,us,0,r,Heap.get?_push_size _ rfl⟩
end
noncomputable abbrev Sp:=List V->Hp->VK->XK->Prop
noncomputable abbrev CXT:=List Env->Hp->Shared->XK->Value->Shared->Prop
structure B1(P:Program)(w:World)(K:PySem.W.Frag)(mg:Str->Option Value)(base:Heap)(A:Around)(outer:List Env)(s:Shared)(H:Hp):Prop where
 frames:A.frames=some outer
 mod:Mod K mg base
 bs:∀ b o,base.get? b=some o->s.heap.get? b=some o/\H b=none
 bsz:base.objs.size<=s.heap.objs.size
 funs:s.heap.FunFrames base outer
 frf:∀ b∈frs outer,H b=none
 hok:HOk P w H s.heap
 bare:AllBare s.gens
noncomputable def CE(outer:List Env)(P:Program)(w:World)(H:Hp)(s:Shared)(Q:VK)(u:Value)(s':Shared):Prop :=
 ∃ v H',s'.os=s.os/\AllBare s'.gens/\Un (frs outer) [] H H' s.heap s'.heap/\HOk P w H' s'.heap/\RelV v u/\Q v H'
noncomputable def CR(CX:CXT)(outer:List Env)(P:Program)(w:World)(H:Hp)(s:Shared)(Q:VK)(E:XK)(r:Result)(s':Shared):Prop :=
 match r with
 | .ok (.ret u)=>CE outer P w H s Q u s'
 | .ok _=>False
 | .error e=>CX outer H s E e s'
structure Z6(P:Program)(w:World)(K:PySem.W.Frag)(mg:Str->Option Value)(base:Heap)(CX:CXT)(k:Nat)(f:Addr)(fd:FuncData)(ps:List Str)(sp:Sp):Prop where
 len:∀ vs H Q E,sp vs H Q E->vs.length=ps.length
 run:∀ (A:Around) (outer:List Env) (s:Shared) (H:Hp) (args:Args) (us:List Value) (vs:List V) (Q:VK) (E:XK),Vm k A->B1 P w K mg base A outer s H->BindsTo s fd args (ps.zip us)->Vals vs us->sp vs H Q E ->
  codeAny (model P w) A (.call (.ref f) args) (CR CX outer P w H s Q E) s
theorem B1.make{P:Program}{w:World}{K:PySem.W.Frag}{mg:Str->Option Value}{base:Heap}{A:Around}{outer:List Env}{s:Shared}{H:Hp}(e:B1 P w K mg base A outer s H)(C:Addr)(us:List Value)(kw:List (Str×Value)) :
  B1 P w K mg base (A.under (.builtin "type.__call__" ⟨.ref C :: us,kw⟩)) outer s H:=⟨by first|exact e.frames|(simpa [Around.under,Code.envs,Code.isFrame,pushEnvs] using e.frames),e.mod,e.bs,e.bsz,e.funs,e.frf,e.hok,e.bare⟩
section
variable{X:Cx}{pins:List (Addr×Obj)}{σ:St}{H:Hp}{s s':Shared}
theorem Inv.env0(I:Inv X pins σ H s):B1 X.prog X.w X.K X.mg X.base X.A X.stack s H :=
 ⟨I.ok.frames,I.ok.mod,I.bs,z09 I.ok.bsz I.sz,I.stack,I.stkFree,I.hok,I.bare⟩
theorem Inv.after{Q:VK}{u:Value}(I:Inv X pins σ H s)(h:CE X.stack X.prog X.w H s Q u s'):EP X pins σ Q u s':=by
 obtain⟨v,H',os,bare,un,hok,r,q⟩:=h;obtain⟨hh,g,d,t,os'⟩:=s';obtain rfl:os'=s.os:=os;exact⟨v,H',I.call (h':=hh) (g':=g) (d':=d) (t':=t) (ch:=[]) un hok bare (fun b z=>absurd z (by simp)),r,q⟩
end
noncomputable def zda(sp:Sp)(dvs:List V)(E:XK)(t:TA):TE:=fun σ H Q=>t σ H fun vs H1=>sp (vs++dvs) H1 Q E
inductive zg9(C:Addr)(m:Str)(sp:Sp)(dvs:List V)(E:XK)(t:TA)(σ:L2.St)(Q:VK)(x:V)(H1:Hp):Prop where
 | mk(a)(dx)(fs)(_:x=.ref a)(_:H1 a=some (.ins C dx fs))(_:fs.lookup m=none)(_:t σ H1 fun vs H2=>sp (x :: (vs++dvs)) H2 Q E)
noncomputable def A9(C:Addr)(m:Str)(sp:Sp)(dvs:List V)(E:XK)(ta:TE)(t:TA):TE:=fun σ H Q=>ta σ H fun x H1=>zg9 C m sp dvs E t σ Q x H1
noncomputable def zaa(C:Addr)(sp:Sp)(dvs:List V)(E:XK)(t:TA):TE:=fun σ H Q=>t σ H fun vs H1=>∀ x dx,H1 x=none->H1 dx=none->dx≠x ->
 sp (.ref x :: (vs++dvs)) (upd (upd H1 dx (.own x)) x (.ins C dx [])) (fun v H2=>v=.non/\Q (.ref x) H2) E
noncomputable def Rb(K:PySem.W.Frag)(fd:FuncData)(ps:List Str)(ds:List Value):Prop :=
 ∀ (s:Shared) (us:List Value),K.In s.heap->(us++ds).length=ps.length->BindsTo s fd ⟨us,[]⟩ (ps.zip (us++ds))
theorem Rb.all{K:PySem.W.Frag}{fd:FuncData}{ps:List Str}(h:∀ us:List Value,us.length=ps.length->bindArgs fd ⟨us,[]⟩=pure (ps.zip us)):Rb K fd ps []:=fun s us _ hl=>by
 rw[z2j] at hl ⊢
 exact .of_eq (h us hl)
noncomputable def Vu(CX:CXT)(X:Cx)(E:XK):Prop:=∀ (pins:List (Addr×Obj)) (σ:St) (H:Hp) (s:Shared) (e:Value) (s':Shared),Inv X pins σ H s->CX X.stack H s E e s'->X.xe e s'
section
variable{X:Cx}{CX:CXT}{k:Nat}{f C:Addr}{fd:FuncData}{ps:List Str}{sp:Sp}{dvs:List V}{ds:List Value}{E:XK}{x m:Str}{p pos apos:Pos}{e o:Expr}{es:List Expr}{ta:TE}{t:TA}
theorem B2{pins:List (Addr×Obj)}{σ:St}{H:Hp}{s:Shared}{Q:VK}{us:List Value}{vs:List V}(F:Z6 X.prog X.w X.K X.mg X.base CX k f fd ps sp)(hr:Vm k X.A)(hb:Rb X.K fd ps ds)(hd:Vals dvs ds)(hx:Vu CX X E)
  (I:Inv X pins σ H s) (r:Vals vs us) (h:sp (vs++dvs) H Q E):wpAny (model X.prog X.w) X.A (call (.ref f) us) (EP X pins σ Q) X.xe s:=by
 have r2:Vals (vs++dvs) (us++ds):=r.append hd;have hl:(us++ds).length=ps.length:=by rw[<- r2.length];exact F.len _ _ _ _ h
 refine wpAny_call (codeAny_mono (F.run X.A X.stack s H ⟨us,[]⟩ (us++ds) (vs++dvs) Q E hr I.env0 (hb s us I.kIn hl) r2 h) fun r s' hq=>?_)
 cases r with
 | error e=>exact hx pins σ H s e s' I hq
 | ok fl =>
   cases fl with
   | ret u=>exact I.after hq
   | next=>exact False.elim hq
   | brk=>exact False.elim hq
   | cont=>exact False.elim hq
theorem zff(F:Z6 X.prog X.w X.K X.mg X.base CX k f fd ps sp)(hr:Vm k X.A)(hg:Gl X x)(hm:X.mg x=some (.ref f))(hk:PySem.W.keepIn X.K (.ref f)=true)(hb:Rb X.K fd ps ds)(hd:Vals dvs ds)(hx:Vu CX X E)
  (ha:PA X (e :: es) t) (hdb:(x == ("__debug__":Str))=false:=by decide) (he:starEach (e :: es) X.env=(false,eval e X.env) :: starEach es X.env:=by rfl) (hpl:(backTo pos (starEach es X.env)).any (·.1)=false:=by rfl) :
  PE X (.Call (.Name x p) (e :: es) [] pos) (zda sp dvs E t):=by
 intro pins s σ H Q I h;refine wpAny_Call_Name_kw (O8 I hg hm ?_ hdb);refine PySem.W.callWith_K (h₀:=X.base) I.ok.mod.kin hk (thn (ha pos pins s σ H _ I h) fun us s1 ⟨vs,H1,I1,r,q⟩=>⟨I1.kIn,?_⟩) he hpl
 exact B2 F hr hb hd hx I1 r q
theorem zfg{pl:Sem Bool}(he:PE X o ta)(c:Cls X.K C)(hm:zc9 X.K C m f)(F:Z6 X.prog X.w X.K X.mg X.base CX k f fd ps sp)(hr:Vm k X.A)(hb:Rb X.K fd ps ds)(hd:Vals dvs ds)(hx:Vu CX X E)(ha:PA X (e :: es) t)
  (hst:starEach (e :: es) X.env=(false,eval e X.env) :: starEach es X.env:=by rfl) (hpl:(backTo pos (starEach es X.env)).any (·.1)=false:=by rfl)
  (ht:eval (.Call (.Attribute o m apos) (e :: es) [] pos) X.env=(do
   let ov <- eval o X.env
   standAt apos.atName
   let (f,first) <- holding [ov] (getMethod ov m pl)
   callWith pos f first (backTo pos (starEach (e :: es) X.env)) (backToKw pos (keywordEach [] X.env))):=by rfl) :
  PE X (.Call (.Attribute o m apos) (e :: es) [] pos) (A9 C m sp dvs E ta t):=by
 intro pins s σ H Q I h;refine PySem.W.methodCall_KW (pl:=pl) (thn (he pins s σ H _ I h) fun u s1 ⟨x,H1,I1,rx,a,dx,fs,ex,ea,l,q⟩=>?_) ht
 subst ex;obtain rfl:u=Value.ref a:=rx;refine Jj I1 ea c hm l ?_;refine PySem.W.callWith_K (first:=[.ref a]) (h₀:=X.base) I.ok.mod.kin hm.kp (thn (ha pos pins s1 σ H1 _ I1 q) fun us s2 ⟨vs,H2,I2,r,q2⟩=>⟨I2.kIn,?_⟩) hst hpl
 exact B2 (us:=.ref a :: us) (vs:=.ref a :: vs) F hr hb hd hx I2 (.cons rfl r) q2
theorem zdb{pl:Sem Bool}(he:PE X o ta)(c:Cls X.K C)(hm:zc9 X.K C m f)(F:Z6 X.prog X.w X.K X.mg X.base CX k f fd ps sp)(hr:Vm k X.A)(hb:Rb X.K fd ps ds)(hd:Vals dvs ds)(hx:Vu CX X E)
  (ht:eval (.Call (.Attribute o m apos) [] [] pos) X.env=(do
   let ov <- eval o X.env
   standAt apos.atName
   let (f,first) <- holding [ov] (getMethod ov m pl)
   callWith pos f first (backTo pos (starEach [] X.env)) (backToKw pos (keywordEach [] X.env))):=by rfl) :
  PE X (.Call (.Attribute o m apos) [] [] pos) (A9 C m sp dvs E ta Bz):=by
 intro pins s σ H Q I h;refine PySem.W.methodCall_KW (pl:=pl) (thn (he pins s σ H _ I h) fun u s1 ⟨x,H1,I1,rx,a,dx,fs,ex,ea,l,q⟩=>?_) ht
 subst ex;obtain rfl:u=Value.ref a:=rx;refine Jj I1 ea c hm l ?_;exact PySem.W.callWith_K0 (first:=[.ref a]) I1.kIn hm.kp (B2 (us:=[.ref a]) (vs:=[.ref a]) F hr hb hd hx I1 (.cons rfl .nil) q)
structure Mk(K:PySem.W.Frag)(C f:Addr):Prop where
 makes:PySem.W.makesIn K C=true
 init:PySem.W.findIn K (.ref C) "__init__"=some (some (.ref f))
 fn:PySem.W.isFn K (.ref f)=true
 kp:PySem.W.keepIn K (.ref C)=true
theorem Dx{pins:List (Addr×Obj)}{σ:St}{H:Hp}{s:Shared}{Q:VK}{us:List Value}{vs:List V}(M:Mk X.K C f)(F:Z6 X.prog X.w X.K X.mg X.base CX k f fd ps sp)(hr:Vm (k+1) X.A)(hb:Rb X.K fd ps ds)(hd:Vals dvs ds)
  (hx:Vu CX X E) (I:Inv X pins σ H s) (r:Vals vs us)
  (h:∀ x dx,H x=none->H dx=none->dx≠x->sp (.ref x :: (vs++dvs)) (upd (upd H dx (.own x)) x (.ins C dx [])) (fun v H2=>v=.non/\Q (.ref x) H2) E) :
  wpAny (model X.prog X.w) X.A (call (.ref C) us) (EP X pins σ Q) X.xe s:=by
 have hq:=h (s.heap.objs.size+1) s.heap.objs.size (I.hok.fresh (Nat.le_succ _)) (I.hok.fresh (z03 _)) (z1k (Nat.lt_succ_self _));have I2:=Inv.made (C:=C) I;have r2:Vals (V.ref (s.heap.objs.size+1) :: (vs++dvs)) (Value.ref (s.heap.objs.size+1) :: (us++ds)):=.cons rfl (r.append hd);have hl:(Value.ref (s.heap.objs.size+1) :: us++ds).length=ps.length:=by
  have e:=r2.length;rw[F.len _ _ _ _ hq] at e
  exact e.symm
 refine wpAny_call (zc8 (f:=f) I.kIn M.makes M.init (beq_iff_eq.mp M.fn) (codeAny_mono (F.run _ X.stack _ _ ⟨Value.ref (s.heap.objs.size+1) :: us,[]⟩ (Value.ref (s.heap.objs.size+1) :: (us++ds)) _ _ E (hr.make C us [])
  (I2.env0.make C us []) (hb _ (Value.ref (s.heap.objs.size+1) :: us) I2.kIn hl) r2 hq) fun r s' hq'=>?_))
 cases r with
 | error e=>exact hx pins σ _ _ e s' I2 hq'
 | ok fl =>
   cases fl with
   | ret u =>
     obtain⟨v,H',I3,rv,ev,q3⟩:=I2.after hq';subst ev;exact⟨rv,⟨V.ref (s.heap.objs.size+1),H',I3,rfl,q3⟩⟩
   | next=>exact False.elim hq'
   | brk=>exact False.elim hq'
   | cont=>exact False.elim hq'
theorem zfh(M:Mk X.K C f)(F:Z6 X.prog X.w X.K X.mg X.base CX k f fd ps sp)(hr:Vm (k+1) X.A)(hg:Gl X x)(hm:X.mg x=some (.ref C))(hb:Rb X.K fd ps ds)(hd:Vals dvs ds)(hx:Vu CX X E)
  (ha:PA X (e :: es) t) (hdb:(x == ("__debug__":Str))=false:=by decide) (he:starEach (e :: es) X.env=(false,eval e X.env) :: starEach es X.env:=by rfl) (hpl:(backTo pos (starEach es X.env)).any (·.1)=false:=by rfl) :
  PE X (.Call (.Name x p) (e :: es) [] pos) (zaa C sp dvs E t):=by
 intro pins s σ H Q I h;refine wpAny_Call_Name_kw (O8 I hg hm ?_ hdb);refine PySem.W.callWith_K (h₀:=X.base) I.ok.mod.kin M.kp (thn (ha pos pins s σ H _ I h) fun us s1 ⟨vs,H1,I1,r,q⟩=>⟨I1.kIn,?_⟩) he hpl
 exact Dx M F hr hb hd hx I1 r q
theorem zdc(M:Mk X.K C f)(F:Z6 X.prog X.w X.K X.mg X.base CX k f fd ps sp)(hr:Vm (k+1) X.A)(hg:Gl X x)(hm:X.mg x=some (.ref C))(hb:Rb X.K fd ps ds)(hd:Vals dvs ds)(hx:Vu CX X E)
  (hdb:(x == ("__debug__":Str))=false:=by decide):PE X (.Call (.Name x p) [] [] pos) (zaa C sp dvs E Bz):=by
 intro pins s σ H Q I h;refine wpAny_Call_Name_kw (O8 I hg hm ?_ hdb);exact PySem.W.callWith_K0 I.kIn M.kp (Dx (us:=[]) M F hr hb hd hx I .nil h)
end
section
variable{X:Cx}{CX:CXT}{k:Nat}{f C:Addr}{fd:FuncData}{ps ks:List Str}{sp:Sp}{E:XK}{x m:Str}{p pos apos kpos:Pos}{e o:Expr}{es:List Expr}{kws:List Keyword}{te ta:TE}{t tk:TA}{nm:Option Str}
structure zjv(K:PySem.W.Frag)(fd:FuncData)(ps ks:List Str)(g:List Value->List Value->List Value)(gV:List V->List V->List V):Prop where
 to:∀ (s:Shared) (us ws:List Value),K.In s.heap->(g us ws).length=ps.length->BindsTo s fd ⟨us,ks.zip ws⟩ (ps.zip (g us ws))
 rel:∀ {vs:List V} {us:List Value} {zs:List V} {ws:List Value},Vals vs us->Vals zs ws->Vals (gV vs zs) (g us ws)
variable{g:List Value->List Value->List Value}{gV:List V->List V->List V}
end
structure Zl(N P:List Str)(sc:Scope):Prop where
 kind:sc.kind=.function
 co:sc.isCoroutine=false
 gen:sc.isGenerator=false
 nd:N.Nodup
 pre:N.take P.length=P
 par:∀ x∈P,sc.names.lookup x=some .local\/sc.names.lookup x=some .cell
 nofree:∀ y∈sc.names,y.2≠.free
theorem G6{kindOf:Str->Option NameKind}{x:Str}:∀ {binds:List (Str×Value)} {m:Str->Option Value},(∀ v,(x,v)∉binds)->bindL kindOf binds m x=m x
 | [],_,_=>rfl
 | (n,v) :: r,m,h=>by
   unfold bindL;rw[G6 fun w hw=>h w (z1e _ hw)]
   split
   ·have:x≠n:=by rintro rfl;exact h v z1o
    simp[this]
   ·rfl
theorem G7{kindOf:Str->Option NameKind}{x:Str}:∀ {binds:List (Str×Value)} {m:Str->Option Value},(∀ v,(x,v)∉binds)->bindC kindOf binds m x=m x
 | [],_,_=>rfl
 | (n,v) :: r,m,h=>by
   unfold bindC;rw[G7 fun w hw=>h w (z1e _ hw)]
   split
   ·rfl
   ·have:x≠n:=by rintro rfl;exact h v z1o
    simp[this]
theorem G8{kindOf:Str->Option NameKind}{x:Str}{v:Value}:∀ {P:List Str} {vs:List Value} {i:Nat} {m:Str->Option Value},P.Nodup->P[i]?=some x->vs[i]?=some v->kindOf x=some .local ->
  bindL kindOf (P.zip vs) m x=some v
 | [],_,_,_,_,h,_,_=>by simp at h
 | _ :: _,[],_,_,_,_,h,_=>by simp at h
 | p :: P,w :: vs,0,m,nd,h1,h2,hk=>by
   simp at h1 h2;subst h1;subst h2
   show bindL kindOf ((p,w) :: P.zip vs) m p=_;unfold bindL;rw[G6 fun v hv=>(z1i.mp nd).1 (List.of_mem_zip hv).1,if_pos hk]
   simp
 | p :: P,w :: vs,i+1,m,nd,h1,h2,hk=>by
   show bindL kindOf ((p,w) :: P.zip vs) m x=_;unfold bindL;exact G8 (i:=i) (z1i.mp nd).2 (by simpa using h1) (by simpa using h2) hk
theorem G9{kindOf:Str->Option NameKind}{x:Str}{v:Value}:∀ {P:List Str} {vs:List Value} {i:Nat} {m:Str->Option Value},P.Nodup->P[i]?=some x->vs[i]?=some v->kindOf x≠some .local ->
  bindC kindOf (P.zip vs) m x=some v
 | [],_,_,_,_,h,_,_=>by simp at h
 | _ :: _,[],_,_,_,_,h,_=>by simp at h
 | p :: P,w :: vs,0,m,nd,h1,h2,hk=>by
   simp at h1 h2;subst h1;subst h2
   show bindC kindOf ((p,w) :: P.zip vs) m p=_;unfold bindC;rw[G7 fun v hv=>(z1i.mp nd).1 (List.of_mem_zip hv).1,if_neg hk]
   simp
 | p :: P,w :: vs,i+1,m,nd,h1,h2,hk=>by
   show bindC kindOf ((p,w) :: P.zip vs) m x=_;unfold bindC;exact G9 (i:=i) (z1i.mp nd).2 (by simpa using h1) (by simpa using h2) hk
noncomputable def Lo(N:List Str)(vs:List V):St:=vs.map some++List.replicate (N.length-vs.length) none
noncomputable def cxOf(CX:CXT)(P:Program)(w:World)(K:PySem.W.Frag)(mg:Str->Option Value)(base:Heap)(N:List Str)(qual:Str)(scope:Scope)(f:Addr)(cd:Value)(A:Around)(outer:List Env)(s:Shared)(H:Hp)(E:XK):Cx where
 prog:=P
 w:=w
 K:=K
 mg:=mg
 base:=base
 A:=A.deeper (envOfC qual scope s.heap.objs.size f cd)
 N:=N
 s₀:=s
 H₀:=H
 env:=envOfC qual scope s.heap.objs.size f cd
 outer:=outer
 stack:=envOfC qual scope s.heap.objs.size f cd :: outer
 ex:=[]
 calm:=true
 fn:=fun _=>true
 pn:=[]
 xe:=fun e s'=>wpAny (model P w) (A.deeper (envOfC qual scope s.heap.objs.size f cd)) (leaving (envOfC qual scope s.heap.objs.size f cd) e) (fun _ s''=>CX outer H s E e s'') (fun e' s''=>CX outer H s E e' s'') s'
theorem Dy{sc:Scope}{n:Nat}{x:Str}(h:sc.names.lookup x=some .cell):∃ c,(cellsFrom n sc.names []).lookup x=some c:=by
 have q:=PySem.W.cellsFrom_some sc.names n [] (.inl h);exact z14.mp q
theorem zbi{CX:CXT}{P:Program}{w:World}{K:PySem.W.Frag}{mg:Str->Option Value}{base:Heap}{N ps:List Str}{qual:Str}{scope:Scope}{f:Addr}{cd:Value}{A:Around}{outer:List Env}{s s1:Shared}{H:Hp}{E:XK}{us:List Value}{vs:List V}
  (S:Zl N ps scope) (hd:A.handled=none) (e0:B1 P w K mg base A outer s H) (hl:vs.length=ps.length) (r:Vals vs us)
  (x:InCallC s s.heap.objs.size (bindL (envOfC qual scope s.heap.objs.size f cd).kindOf (ps.zip us) fun _=>none) (cellsFrom (s.heap.objs.size+1) scope.names []) (bindC (envOfC qual scope s.heap.objs.size f cd).kindOf (ps.zip us) fun _=>none) s1) :
  Inv (cxOf CX P w K mg base N qual scope f cd A outer s H E) [] (Lo N vs) H s1:=by
 have hpl:ps.length<=N.length:=by have:=congrArg List.length S.pre;rw[z2p] at this;omega
 obtain⟨h1,tk,rfl,hk⟩:=x.done;have noA:∀ b:Addr,b∉(cxOf CX P w K mg base N qual scope f cd A outer s H E).ex:=fun b z=>absurd (show b∈([]:List Addr) from z) (by simp)
 refine⟨⟨e0.mod,S.kind,rfl,rfl,z03 _,fun y z c h1 h2=>?_,fun y hy=>?_,fun y c _ h=>?_,fun _=>hd,Around.frames_deeper e0.frames,.inr ⟨rfl,rfl⟩,fun b z=>absurd z (noA b),e0.bs,e0.bsz,fun b _ _=>noA b,fun b z=>absurd z (noA b),e0.funs,e0.frf⟩,
  rfl,e0.bare,Un.kept hk,⟨_,x.toInCall.ns,fun i y v h1 h2 h3=>?_⟩,fun y c h=>⟨_,x.cell y c h⟩,e0.hok.fresh (z03 _),fun y c h=>?_,fun p hp=>absurd (show p∈([]:List (Addr×Obj)) from hp) (by simp),e0.hok.kept hk,?_⟩
 ·exact name_of_addr x.apart (PySem.mem_of_lookup h1) (PySem.mem_of_lookup h2)
 ·have hy:scope.names.lookup y=some .cell\/scope.names.lookup y=some .free:=hy
  rcases hy with hy|hy
  ·exact Dy hy
  ·exact absurd rfl (S.nofree _ (PySem.mem_of_lookup hy))
 ·exact Nat.le_of_lt (x.above y c (PySem.mem_of_lookup h))
 ·have h2:=h2.resolve_right (Wr _)
  have hi:i<vs.length:=by
   unfold Lo at h2
   by_cases hi:i<vs.length
   ·exact hi
   ·rw[z1u (by simpa using hi)] at h2
    rw[List.getElem?_replicate] at h2
    split at h2<;>cases h2
  have ha:vs[i]?=some v:=by
   unfold Lo at h2
   rw[z1w (by simpa using hi),z0x] at h2
   cases e:vs[i]? with
   | none=>rw[e] at h2;cases h2
   | some a=>rw[e] at h2;cases h2;rfl
  obtain⟨u,hu,rv⟩:=r.get ha;have hp:ps[i]?=some y:=by
   rw[<- S.pre,List.getElem?_take_of_lt (by omega)];exact h1
  have ndP:ps.Nodup:=by rw[<- S.pre];exact S.nd.sublist (List.take_sublist _ _)
  refine⟨u,rv,?_⟩;rcases S.par y (z05 hp) with k|k
  ·exact .inl ⟨k,G8 ndP hp hu k⟩
  ·obtain⟨c,e⟩:=Dy (n:=s.heap.objs.size+1) k
   refine .inr ⟨.inl k,c,e,?_⟩;have q:=x.cell y c e;rw[G9 ndP hp hu (by show scope.names.lookup y≠_;rw[k];decide)] at q
   exact q
 ·exact e0.hok.fresh (Nat.le_of_lt (x.above y c (PySem.mem_of_lookup h)))
 ·unfold Lo
  show _=N.length;rw[z0w,z0t,List.length_replicate];omega
theorem ziw{CX:CXT}{P:Program}{w:World}{K:PySem.W.Frag}{mg:Str->Option Value}{base:Heap}{k:Nat}{f:Addr}{name qual:Str}{params:Arguments}{body:List Stmt}{scope:Scope}{dV kV doc pm cdv ct oc:Value}{an od:Option Addr}
  {osl:Array (Option Value)} {N ps:List Str} {sp:Sp} (lk:K.lookup f=some ⟨oc,od,.func (PySem.W.fnOf name qual params body scope dV kV doc pm an cdv ct),osl⟩) (hcd:PySem.W.codeIn K cdv qual=true) (S:Zl N ps scope)
  (len:∀ vs H Q E,sp vs H Q E->vs.length=ps.length)
  (hbody:∀ (A:Around) (outer:List Env) (s:Shared) (H:Hp) (vs:List V) (Q:VK) (E:XK),Vm k (A.deeper (envOfC qual scope s.heap.objs.size f cdv))->sp vs H Q E ->
   ∃ t,PSs (cxOf CX P w K mg base N qual scope f cdv A outer s H E) body t/\t { nx:=fun _ H'=>Q .non H',rt:=Q } (Lo N vs) H) :
  Z6 P w K mg base CX (k+1) f (PySem.W.fnOf name qual params body scope dV kV doc pm an cdv ct) ps sp:=by
 refine⟨len,fun A outer s H args us vs Q E hr e0 hb r hsp=>?_⟩
 have hl:=len _ _ _ _ hsp;have KX:K.In s.heap:=e0.mod.kin.keeps fun b o e=>(e0.bs b o e).1
 have lim:s.heap.NoLimit:=e0.mod.nolimit.keeps fun b o e=>(e0.bs b o e).1
 have hkind:∀ y∈ps.zip us,scope.names.lookup y.1=some .local\/(scope.names.lookup y.1=some .cell/\((cellsFrom (s.heap.objs.size+1) scope.names []).lookup y.1).isSome=true):=fun ⟨n,v⟩ hy=>by
  rcases S.par n (List.of_mem_zip hy).1 with q|q
  ·exact .inl q
  ·exact .inr ⟨q,PySem.W.cellsFrom_some _ _ _ (.inl q)⟩
 refine codeAny_call_function hr.depth (KX _ _ lk) rfl S.co S.gen rfl (PySem.W.codeRec_of KX hcd) (hb _ _ _ _ ?_);refine wpAny_newFunctionEnv_cells S.kind hkind fun env he s1 x=>?_
 subst he;refine⟨lim.keeps x.toInCall.keep,codeAny_func ?_⟩;obtain⟨t,ht,hq⟩:=hbody A outer s H vs Q E (hr.deeper _) hsp;have I:Inv (cxOf CX P w K mg base N qual scope f cdv A outer s H E) [] (Lo N vs) H s1:=zbi S hr.hd e0 hl r x;refine wpAny_mono (ht [] s1 (Lo N vs) H _ I hq) (fun fl s' hs=>?_) fun e s' hs=>hs
 have fin:∀ {σ':St} {H':Hp} {v:V} {u:Value},Inv (cxOf CX P w K mg base N qual scope f cdv A outer s H E) [] σ' H' s'->RelV v u->Q v H'->CE outer P w H s Q u s' :=
  fun {σ' H' v u} J rv q=>⟨v,H',J.os,J.bare,J.base,J.hok,rv,q⟩
 cases fl with
 | ret u =>
   obtain⟨v,σ',H',J,rv,q⟩:=hs;exact fin J rv q
 | next =>
   obtain⟨σ',H',J,q⟩:=hs;exact fin (v:=V.non) (u:=Value.none) J rfl q
 | brk =>
   obtain⟨_,_,_,q⟩:=hs;exact False.elim q
 | cont =>
   obtain⟨_,_,_,q⟩:=hs;exact False.elim q
section
variable{X:Cx}{x:Str}{p pos:Pos}{e:Expr}{es:List Expr}{t:TA}{id T:String}{r:List V->Hp->VK->Prop}
noncomputable def tCB(r:List V->Hp->VK->Prop)(t:TA):TE:=fun σ H Q=>t σ H fun vs H1=>r vs H1 Q
theorem Zn(hc:Ux X (.builtin id) r)(hg:Gl X x)(hm:X.mg x=none)(hv:bootBuiltins x=some (.builtin id))(ha:PA X (e :: es) t)(hn:x≠"__name__":=by decide)(hdb:(x == ("__debug__":Str))=false:=by decide)
  (he:starEach (e :: es) X.env=(false,eval e X.env) :: starEach es X.env:=by rfl) (hpl:(backTo pos (starEach es X.env)).any (·.1)=false:=by rfl):PE X (.Call (.Name x p) (e :: es) [] pos) (tCB r t):=by
 intro pins s σ H Q I h;refine wpAny_Call_Name_kw (Oc I hg hm hv ?_ hn hdb);exact PyProof.Rows.callWith_builtin1 (thn (ha pos pins s σ H _ I h) fun us s1 ⟨vs,H1,I1,r1,q1⟩=>hc pins s1 σ H1 vs us Q I1 r1 q1) he hpl
theorem Y7(hc:Ux X (.type T) r)(hg:Gl X x)(hm:X.mg x=none)(hv:bootBuiltins x=some (.type T))(ha:PA X (e :: es) t)(hn:x≠"__name__":=by decide)(hdb:(x == ("__debug__":Str))=false:=by decide)
  (he:starEach (e :: es) X.env=(false,eval e X.env) :: starEach es X.env:=by rfl) (hpl:(backTo pos (starEach es X.env)).any (·.1)=false:=by rfl):PE X (.Call (.Name x p) (e :: es) [] pos) (tCB r t):=by
 intro pins s σ H Q I h;refine wpAny_Call_Name_kw (Oc I hg hm hv ?_ hn hdb);exact PyProof.Rows.callWith_type1 (thn (ha pos pins s σ H _ I h) fun us s1 ⟨vs,H1,I1,r1,q1⟩=>hc pins s1 σ H1 vs us Q I1 r1 q1) he hpl
end
section
variable{κ:Type}[DecidableEq κ]
noncomputable def valV(kvs:List (κ×V))(k:κ):Option V:=(kvs.find? fun kv=>decide (kv.1=k)).map (·.2)
noncomputable def putK(kvs:List (κ×V))(k:κ)(v:V):List (κ×V) :=
 if (kvs.any fun kv=>decide (kv.1=k))=true then kvs.map (fun kv=>if kv.1=k then (kv.1,v) else kv) else kvs++[(k,v)]
noncomputable def Wc(kvs:List (κ×V))(k:κ):List (κ×V):=kvs.filter fun kv=>decide (kv.1≠k)
theorem zdd{k:κ}:valV ([]:List (κ×V)) k=none:=rfl
theorem Xl{p:κ×V}{r:List (κ×V)}{k:κ}(e:p.1=k):valV (p :: r) k=some p.2:=by simp[valV,z2r,e]
theorem Xd{p:κ×V}{r:List (κ×V)}{k:κ}(e:¬ p.1=k):valV (p :: r) k=valV r k:=by simp[valV,z2r,e]
theorem Rc(k:κ):∀ kvs:List (κ×V),(kvs.any fun kv=>decide (kv.1=k))=(valV kvs k).isSome
 | []=>rfl
 | p :: r=>by
   rw[z2t];by_cases e:p.1=k
   ·simp only[Xl e,z01 e,Bool.true_or,Option.isSome_some]
   ·rw[Xd e,z07 e,Bool.false_or];exact Rc k r
theorem Dz(k j:κ)(y:V):∀ kvs:List (κ×V),valV (kvs.map fun kv=>if kv.1=k then (kv.1,y) else kv) j=(valV kvs j).map fun x=>if j=k then y else x
 | []=>rfl
 | p :: r=>by
   have ih:=Dz k j y r;rw[z04];by_cases h:p.1=k
   ·rw[if_pos h]
    by_cases e:p.1=j
    ·rw[Xl (p:=(p.1,y)) e,Xl e,z12,if_pos (e.symm.trans h)]
    ·rw[Xd (p:=(p.1,y)) e,Xd e,ih]
   ·rw[if_neg h]
    by_cases e:p.1=j
    ·rw[Xl (p:=p) e,Xl e,z12,if_neg (fun z=>h (e.trans z))]
    ·rw[Xd (p:=p) e,Xd e,ih]
theorem Fb(k j:κ)(y:V):∀ kvs:List (κ×V),valV kvs k=none->valV (kvs++[(k,y)]) j=if j=k then some y else valV kvs j
 | [],_=>by
   by_cases e:k=j
   ·rw[if_pos e.symm];exact Xl (p:=(k,y)) e
   ·rw[if_neg (fun z=>e z.symm)];exact Xd (p:=(k,y)) e
 | p :: r,hn=>by
   rw[List.cons_append];have hk:¬ p.1=k:=fun z=>by rw[Xl z] at hn;cases hn
   rw[Xd hk] at hn
   have ih:=Fb k j y r hn;by_cases e:p.1=j
   ·rw[Xl e,Xl e,if_neg (fun z=>hk (e.trans z))]
   ·rw[Xd e,Xd e,ih]
theorem V2(kvs:List (κ×V))(k j:κ)(y:V):valV (putK kvs k y) j=if j=k then some y else valV kvs j:=by
 unfold putK;by_cases a:(kvs.any fun kv=>decide (kv.1=k))=true
 ·rw[if_pos a,Dz]
  rw[Rc] at a
  by_cases e:j=k
  ·obtain⟨x,hx⟩:=z14.mp a
   rw[if_pos e,e,hx,z12,if_pos rfl]
  ·rw[if_neg e]
   cases valV kvs j with
   | none=>rfl
   | some x=>rw[z12,if_neg e]
 ·rw[if_neg a]
  refine Fb k j y kvs ?_;rw[Rc] at a
  cases q:valV kvs k with
  | none=>rfl
  | some x=>rw[q] at a;exact(a rfl).elim
theorem Y1(kvs:List (κ×V))(k:κ)(v:V):(putK kvs k v).length<=kvs.length+1:=by
 unfold putK;split
 ·rw[z0t];omega
 ·rw[z0w,z1h,List.length_nil];omega
theorem zde{kvs:List (κ×V)}{k:κ}(v:V)(h:valV kvs k=none):putK kvs k v=kvs++[(k,v)]:=by
 unfold putK;rw[Rc,h];exact if_neg (by decide)
theorem RelO.isSome_eq{o:Option V}{u:Option Value}(r:RelO o u):o.isSome=u.isSome:=by
 cases o with
 | none=>cases u with
   | none=>rfl
   | some _=>exact(show False from r).elim
 | some _=>cases u with
   | none=>exact(show False from r).elim
   | some _=>rfl
theorem RelO.getD{o:Option V}{u:Option Value}{d:V}{d':Value}(r:RelO o u)(rd:RelV d d'):RelV (o.getD d) (u.getD d'):=by
 cases o with
 | none=>cases u with
   | none=>exact rd
   | some _=>exact(show False from r).elim
 | some _=>cases u with
   | none=>exact(show False from r).elim
   | some _=>exact r
theorem KV.val{kvs:List (κ×V)}{vs:List (κ×Value)}(r:KV kvs vs)(k:κ):RelO (valV kvs k) (valueAt vs k):=by
 unfold KV at r
 induction r with
 | nil=>exact True.intro
 | @cons p q ps qs h t ih =>
   obtain⟨h1,h2⟩:=h;by_cases e:p.1=k
   ·have e':q.1=k:=h1.symm.trans e
    have b:valueAt (q :: qs) k=some q.2:=by simp[valueAt,z2r,e']
    rw[Xl e,b];exact h2
   ·have e':¬ q.1=k:=fun z=>e (h1.trans z)
    have b:valueAt (q :: qs) k=valueAt qs k:=by simp[valueAt,z2r,e']
    rw[Xd e,b];exact ih
theorem KV.any{kvs:List (κ×V)}{vs:List (κ×Value)}(r:KV kvs vs)(k:κ):(kvs.any fun kv=>decide (kv.1=k))=vs.any fun kv=>decide (kv.1=k):=by
 unfold KV at r
 induction r with
 | nil=>rfl
 | cons h t ih=>rw[z2t,z2t,ih,h.1]
theorem KV.repl{kvs:List (κ×V)}{vs:List (κ×Value)}(r:KV kvs vs)(k:κ){y:V}{u:Value}(ry:RelV y u) :
  KV (kvs.map fun kv=>if kv.1=k then (kv.1,y) else kv) (vs.map fun kv=>if kv.1=k then (kv.1,u) else kv):=by
 unfold KV at r ⊢
 induction r with
 | nil=>exact .nil
 | @cons p q ps qs h t ih =>
   rw[z04,z04];refine .cons ?_ ih;obtain⟨h1,h2⟩:=h;by_cases e:p.1=k
   ·rw[if_pos e,if_pos (h1.symm.trans e)];exact⟨h1,ry⟩
   ·rw[if_neg e,if_neg (fun z=>e (h1.trans z))];exact⟨h1,h2⟩
theorem KV.put{kvs:List (κ×V)}{vs:List (κ×Value)}(r:KV kvs vs)(k:κ){y:V}{u:Value}(ry:RelV y u):KV (putK kvs k y) (stored vs k u):=by
 unfold putK stored;rw[r.any k];by_cases e:(vs.any fun kv=>decide (kv.1=k))=true
 ·rw[if_pos e,if_pos e];exact r.repl k ry
 ·rw[if_neg e,if_neg e];exact Paired.snoc r ⟨rfl,ry⟩
theorem KV.drop{kvs:List (κ×V)}{vs:List (κ×Value)}(r:KV kvs vs)(k:κ):KV (Wc kvs k) (without vs k):=by
 unfold KV at r ⊢
 unfold Wc without
 induction r with
 | nil=>exact .nil
 | @cons p q ps qs h t ih =>
   obtain⟨h1,h2⟩:=h;rw[z2d,z2d];by_cases e:p.1=k
   ·have a:¬ decide (p.1≠k)=true:=by simp[e]
    have b:¬ decide (q.1≠k)=true:=by simp[h1.symm.trans e]
    rw[if_neg a,if_neg b];exact ih
   ·have e':¬ q.1=k:=fun z=>e (h1.trans z)
    have a:decide (p.1≠k)=true:=by simp[e]
    have b:decide (q.1≠k)=true:=by simp[e']
    rw[if_pos a,if_pos b];exact .cons ⟨h1,h2⟩ ih
theorem KV.keys{kvs:List (κ×V)}{vs:List (κ×Value)}(r:KV kvs vs):kvs.map (·.1)=vs.map (·.1):=by
 unfold KV at r
 induction r with
 | nil=>rfl
 | cons h t ih=>rw[z04,z04,ih,h.1]
theorem KV.length{kvs:List (κ×V)}{vs:List (κ×Value)}(r:KV kvs vs):kvs.length=vs.length:=Paired.length r
theorem D1(kvs:List (κ×V))(k:κ):(Wc kvs k).length<=kvs.length:=z1n _ _
end
theorem Lp{P:Program}{w:World}{k:Key}{u:Value}(r:RelV (kV k) u):(Yr P w).is k u=true:=by
 cases k with
 | inl i=>obtain⟨t,e⟩:=(show ∃ t,u=Value.int i t from r);subst e;exact Dl P w i t
 | inr x=>obtain⟨t,e⟩:=(show ∃ t,u=Value.str x t from r);subst e;exact Dm P w x t
theorem Fc{P:Program}{w:World}:∀ {ks:List Key} {us:List Value},Vals (ks.map kV) us->ItemsAre (Yr P w) ks us
 | [],_,r=>by rw[z23] at r;cases r;exact .nil
 | k :: ks,_,r=>by
   rw[z04] at r
   cases r with
   | cons h t=>exact .cons (Lp h) (Fc t)
noncomputable abbrev KT(H:Hp):List (List Key×V)->List (List Key×Addr×Value)->Prop:=Paired fun p q=>p.1=q.1/\H q.2.1=some (.tup (p.1.map kV))/\RelV p.2 q.2.2
theorem KT.val{H:Hp}{kvs:List (List Key×V)}{xs:List (List Key×Addr×Value)}(r:KT H kvs xs)(k:List Key):RelO (valV kvs k) ((atKey xs k).map (·.2)):=by
 induction r with
 | nil=>exact True.intro
 | @cons p q ps qs h t ih =>
   obtain⟨h1,_,h2⟩:=h;by_cases e:p.1=k
   ·have e':q.1=k:=h1.symm.trans e
    have b:atKey (q :: qs) k=some q.2:=by simp[atKey,z2r,e']
    rw[Xl e,b];exact h2
   ·have e':¬ q.1=k:=fun z=>e (h1.trans z)
    have b:atKey (q :: qs) k=atKey qs k:=by simp[atKey,z2r,e']
    rw[Xd e,b];exact ih
theorem KT.repl{H:Hp}{kvs:List (List Key×V)}{xs:List (List Key×Addr×Value)}(r:KT H kvs xs)(k:List Key){y:V}{u:Value}(ry:RelV y u) :
  KT H (kvs.map fun kv=>if kv.1=k then (kv.1,y) else kv) (xs.map (putAt k u)):=by
 induction r with
 | nil=>exact .nil
 | @cons p q ps qs h t ih =>
   rw[z04,z04];refine .cons ?_ ih;obtain⟨h1,h2,h3⟩:=h;unfold putAt;by_cases e:p.1=k
   ·rw[if_pos e,if_pos (h1.symm.trans e)];exact⟨h1,h2,ry⟩
   ·rw[if_neg e,if_neg (fun z=>e (h1.trans z))];exact⟨h1,h2,h3⟩
theorem KT.put{H:Hp}{kvs:List (List Key×V)}{xs:List (List Key×Addr×Value)}(r:KT H kvs xs)(k:List Key){b:Addr}{y:V}{u:Value}(hb:H b=some (.tup (k.map kV)))(ry:RelV y u) :
  KT H (putK kvs k y) (storedH xs k b u):=by
 have e:(kvs.any fun kv=>decide (kv.1=k))=(atKey xs k).isSome:=by
  rw[Rc,(r.val k).isSome_eq,Option.isSome_map]
 unfold putK storedH;rw[e];by_cases q:(atKey xs k).isSome=true
 ·rw[if_pos q,if_pos q];exact r.repl k ry
 ·rw[if_neg q,if_neg q];exact Paired.snoc r ⟨rfl,hb,ry⟩
theorem KT.keeps{H H':Hp}{kvs:List (List Key×V)}{xs:List (List Key×Addr×Value)}(r:KT H kvs xs)(ht:∀ b ys,H b=some (.tup ys)->H' b=some (.tup ys)):KT H' kvs xs :=
 Paired.mapP r fun _ _ z=>⟨z.1,ht _ _ z.2.1,z.2.2⟩
section
variable{P:Program}{w:World}{H:Hp}{h:Heap}{a:Addr}
theorem zgh{u:HO}(ok:HOk P w H h)(e:Rd H a u):Xa P w H h a u:=e.ok ok
theorem Qp{kvs:List (Key×V)}(ok:HOk P w H h)(e:Rd H a (.dK kvs)):kvs.length<=sizeLine/\(a == sysModules)=false/\∃ vs,KV kvs vs/\h.DictOf (Yr P w) a vs :=
 show Xa P w H h a (.dK kvs) from zgh ok e
theorem zdf{kvs:List (Key×V)}(ok:HOk P w H h)(e:H a=some (.dK kvs)):kvs.length<=sizeLine/\(a == sysModules)=false/\∃ vs,KV kvs vs/\h.DictOf (Yr P w) a vs:=Qp ok (.inl e)
theorem Oe{ks:List Key}(ok:HOk P w H h)(e:H a=some (.tup (ks.map kV))):(tupleKind (Yr P w)).is h ks a:=by
 obtain⟨_,its,r,o,h1,h2,n,h3⟩:=(show Xa P w H h a (.tup (ks.map kV)) from ok a _ e)
 exact⟨o,its.toArray,n,h1,h2,h3,by simpa using Fc r⟩
theorem Jk{kvs:List (List Key×V)}(ok:HOk P w H h)(e:Rd H a (.dT kvs)):kvs.length<=sizeLine/\(a == sysModules)=false /\
  ∃ xs,KT H kvs xs/\h.DictOfH (tupleKind (Yr P w)) a xs:=by
 obtain⟨z,y,xs,r,o,es,ep,h1,h2,h3,h4,h5⟩:=(show Xa P w H h a (.dT kvs) from zgh ok e)
 refine⟨z,y,xs,r,o,es,ep,h1,h2,h3,h4,fun x hx=>?_,h5⟩
 have all:∀ {l:List (List Key×V)} {m:List (List Key×Addr×Value)},KT H l m->∀ x∈m,(tupleKind (Yr P w)).is h x.1 x.2.1:=by
  intro l m q
  induction q with
  | nil=>intro x hx;exact nomatch hx
  | @cons p q ps qs hq t ih =>
    intro x hx;rcases z00.mp hx with e|hx
    ·subst e
     exact Oe ok (by rw[<- hq.1];exact hq.2.1)
    ·exact ih x hx
 exact all r x hx
theorem zgi{kvs:List (List Key×V)}(ok:HOk P w H h)(e:H a=some (.dT kvs)):kvs.length<=sizeLine/\(a == sysModules)=false /\
  ∃ xs,KT H kvs xs/\h.DictOfH (tupleKind (Yr P w)) a xs:=Jk ok (.inl e)
end
noncomputable def DGet(H:Hp)(a:Addr)(y:V)(r:Option V):Prop :=
 (∃ kvs k,Rd H a (.dK kvs)/\y=kV k/\r=valV kvs k)\/∃ kvs k b,Rd H a (.dT kvs)/\y=.ref b/\H b=some (.tup (k.map kV))/\r=valV kvs k
noncomputable def DPut(H:Hp)(a:Addr)(y v:V)(H':Hp):Prop :=
 (∃ kvs k,H a=some (.dK kvs)/\y=kV k/\kvs.length<sizeLine/\H'=upd H a (.dK (putK kvs k v))) \/
 ∃ kvs k b,H a=some (.dT kvs)/\y=.ref b/\H b=some (.tup (k.map kV))/\kvs.length<sizeLine/\H'=upd H a (.dT (putK kvs k v))
theorem DGet.k{H:Hp}{a:Addr}{kvs:List (Key×V)}{k:Key}(e:H a=some (.dK kvs)):DGet H a (kV k) (valV kvs k):=.inl ⟨kvs,k,.inl e,rfl,rfl⟩
theorem DGet.t{H:Hp}{a b:Addr}{kvs:List (List Key×V)}{k:List Key}(e:H a=some (.dT kvs))(eb:H b=some (.tup (k.map kV))):DGet H a (.ref b) (valV kvs k):=.inr ⟨kvs,k,b,.inl e,rfl,eb,rfl⟩
theorem DPut.k{H:Hp}{a:Addr}{kvs:List (Key×V)}{k:Key}{v:V}(e:H a=some (.dK kvs))(hl:kvs.length<sizeLine):DPut H a (kV k) v (upd H a (.dK (putK kvs k v))):=.inl ⟨kvs,k,e,rfl,hl,rfl⟩
theorem DPut.t{H:Hp}{a b:Addr}{kvs:List (List Key×V)}{k:List Key}{v:V}(e:H a=some (.dT kvs))(eb:H b=some (.tup (k.map kV)))(hl:kvs.length<sizeLine) :
  DPut H a (.ref b) v (upd H a (.dT (putK kvs k v))):=.inr ⟨kvs,k,b,e,rfl,eb,hl,rfl⟩
section
variable{X:Cx}{pins:List (Addr×Obj)}{σ:St}{H:Hp}{s:Shared}{a:Addr}{y v:V}{u r:Value}{o:Option V}{A:Around}{E:Value->Shared->Prop}
theorem Inv.big(I:Inv X pins σ H s):sysModules<s.heap.objs.size:=by
 have h:mainGlobals<s.heap.objs.size:=(I.mod.glob.keeps I.bk).lt;exact z24 (by decide) h
theorem zbj{Q:Value->Shared->Prop}(hu:A.units+1<cLine)(I:Inv X pins σ H s)(g:DGet H a y (some v))(ry:RelV y u)(h:∀ w' s',Inv X pins σ H s'->RelV v w'->Q w' s') :
  wpAny (model X.prog X.w) A (getItem (.ref a) u) Q E s:=by
 rcases g with ⟨kvs,k,e,ey,l⟩|⟨kvs,k,b,e,ey,eb,l⟩
 ·subst ey
  obtain⟨z,hd,vs,rel,dd⟩:=Qp I.hok e;obtain⟨w',hw,rw'⟩:=RelO.some_of (v:=v) (o:=valueAt vs k) (by rw[l];exact rel.val k)
  exact wpAny_getItem_of (Lp ry) dd.mapOf hw (h w' _ (I.tok _) rw')
 ·subst ey
  cases (show u=Value.ref b from ry)
  obtain⟨z,hd,xs,rel,dd⟩:=Jk I.hok e;obtain⟨w',hw,rw'⟩:=RelO.some_of (v:=v) (o:=(atKey xs k).map (·.2)) (by rw[l];exact rel.val k)
  obtain⟨p,hp,hp2⟩:=z11.mp hw;refine wpAny_getItem_heap (tupleKind_room_in1 hu) (Oe I.hok eb) dd hp ?_;rw[hp2];exact h w' _ (I.tok _) rw'
theorem zjw{Q:Value->Shared->Prop}(hu:A.units+1<cLine)(I:Inv X pins σ H s)(g:DGet H a y o)(ry:RelV y u)(h:∀ s',Inv X pins σ H s'->Q (.bool o.isSome) s') :
  wpAny (model X.prog X.w) A (compareOp .In u (.ref a)) Q E s:=by
 rcases g with ⟨kvs,k,e,ey,l⟩|⟨kvs,k,b,e,ey,eb,l⟩
 ·subst ey
  obtain⟨z,hd,vs,rel,dd⟩:=Qp I.hok e;refine wpAny_in_of (Lp ry) hd dd.mapOf ?_;rw[<- (rel.val k).isSome_eq,<- l];exact h _ (I.tok _)
 ·subst ey
  cases (show u=Value.ref b from ry)
  obtain⟨z,hd,xs,rel,dd⟩:=Jk I.hok e;refine wpAny_in_heap (tupleKind_room_in1 hu) (Oe I.hok eb) hd dd ?_;have q:=(rel.val k).isSome_eq;rw[Option.isSome_map] at q
  rw[<- q,<- l];exact h _ (I.tok _)
theorem zfi{Q:Value->Shared->Prop}(hu:A.units+1<cLine)(I:Inv X pins σ H s)(g:DGet H a y o)(ry:RelV y u)(h:∀ s',Inv X pins σ H s'->Q (.bool (!o.isSome)) s') :
  wpAny (model X.prog X.w) A (compareOp .NotIn u (.ref a)) Q E s:=by
 rcases g with ⟨kvs,k,e,ey,l⟩|⟨kvs,k,b,e,ey,eb,l⟩
 ·subst ey
  obtain⟨z,hd,vs,rel,dd⟩:=Qp I.hok e;refine wpAny_notIn_of (Lp ry) hd dd.mapOf ?_;rw[<- (rel.val k).isSome_eq,<- l];exact h _ (I.tok _)
 ·subst ey
  cases (show u=Value.ref b from ry)
  obtain⟨z,hd,xs,rel,dd⟩:=Jk I.hok e;refine wpAny_notIn_heap (tupleKind_room_in1 hu) (Oe I.hok eb) hd dd ?_;have q:=(rel.val k).isSome_eq;rw[Option.isSome_map] at q
  rw[<- q,<- l];exact h _ (I.tok _)
theorem Nb{h':Heap}{t':Nat}{ob:HO}(I:Inv X pins σ H s)(mu:Mut (H a))(hs:Heap.SameBut a s.heap h')(he:∃ q,h'.get? a=some q)(new:Xa X.prog X.w (upd H a ob) h' a ob) :
  Inv X pins σ (upd H a ob) { s with heap:=h',toks:=t' } :=
 I.write (x:=a) (e:=a) mu (.inl rfl) (fun b q hb z=>(hs.2 b hb).trans z) he new
theorem Ec{P:Program}{w:World}{H':Hp}{h':Heap}{kvs:List (Key×V)}{vs:List (Key×Value)}(z:kvs.length<=sizeLine)(hd:(a == sysModules)=false)(rel:KV kvs vs)(dd:h'.DictOf (Yr P w) a vs) :
  Xa P w H' h' a (.dK kvs):=⟨z,hd,vs,rel,dd⟩
theorem zbk{H':Hp}{Q:Unit->Shared->Prop}(hu:A.units+1<cLine)(I:Inv X pins σ H s)(g:DPut H a y v H')(ry:RelV y u)(rv:RelV v r)(h:∀ s',Inv X pins σ H' s'->Q () s') :
  wpAny (model X.prog X.w) A (setItem (.ref a) u r) Q E s:=by
 rcases g with ⟨kvs,k,e,ey,l,eH⟩|⟨kvs,k,b,e,ey,eb,l,eH⟩
 ·subst ey eH
  obtain⟨z,hd,vs,rel,dd⟩:=zdf I.hok e;have hz:vs.length<=sizeLine:=by rw[<- rel.length];exact z
  have hl:(putK kvs k v).length<=sizeLine:=by have:=Y1 kvs k v;omega
  refine wpAny_setItem_pairs (hsz:=hz) (Lp ry) dd fun h' dd' hs=>h _ ?_
  have he:∃ q,h'.get? a=some q:=let ⟨q,_,_,hq,_⟩:=dd';⟨q,hq⟩
  exact Nb I (by rw[e];exact True.intro) hs he (Ec hl hd (rel.put k rv) dd')
 ·subst ey eH
  cases (show u=Value.ref b from ry)
  obtain⟨z,hd,xs,rel,dd⟩:=zgi I.hok e;have hz:xs.length<=sizeLine:=by rw[<- Paired.length rel];exact z
  have hl:(putK kvs k v).length<=sizeLine:=by have:=Y1 kvs k v;omega
  refine wpAny_setItem_heap (hsz:=hz) (tupleKind_room_in1 hu) (Oe I.hok eb) dd fun h' dd' hs=>h _ ?_
  obtain⟨q,es,ep,hq,h2,h3,h4,_,h5⟩:=dd';refine Nb I (by rw[e];exact True.intro) hs ⟨q,hq⟩ ⟨hl,hd,_,(rel.put k eb rv).keeps fun c ys ec=>?_,q,es,ep,hq,h2,h3,h4,h5⟩
  rw[Zh (Yt ec e (fun z=>nomatch z))]
  exact ec
end
section
variable{X:Cx}{pins:List (Addr×Obj)}{σ:St}{H:Hp}{s:Shared}{a:Addr}{kvs:List (Key×V)}{k:Key}{u:Value}{A:Around}{E:Value->Shared->Prop}
theorem zix{v:V}{more:List Value}{Q:Value->Shared->Prop}(I:Inv X pins σ H s)(e:H a=some (.dK kvs))(ry:RelV (kV k) u)(l:valV kvs k=some v)(hm:more=[]\/∃ x,more=[x])
  (h:∀ w' s',Inv X pins σ (upd H a (.dK (Wc kvs k))) s'->RelV v w'->Q w' s'):wpAny (model X.prog X.w) A (call (.builtin "dict.pop") (.ref a :: u :: more)) Q E s:=by
 obtain⟨z,hd,vs,rel,dd⟩:=zdf I.hok e;obtain⟨w',hw,rw'⟩:=RelO.some_of (v:=v) (o:=valueAt vs k) (by rw[<- l];exact rel.val k)
 have hp:(keyPart u).isSome=true:=by
  cases k with
  | inl i=>obtain⟨t,q⟩:=(show ∃ t,u=Value.int i t from ry);subst q;rfl
  | inr x=>obtain⟨t,q⟩:=(show ∃ t,u=Value.str x t from ry);subst q;rfl
 have ha:argsOk "dict.pop" ⟨.ref a :: u :: more,[]⟩:=by
  rcases hm with q|⟨x,q⟩
  ·subst q;exact PySem.F.args_dict_pop_2 _ _
  ·subst q;exact PySem.F.args_dict_pop_3 _ _ _
 refine call_meetsIn PySem.F.slot_dict_pop dd.typeIs PySem.F.entry_dict_pop ha (meets_dict_pop_there (Yr X.prog X.w) a (Lp ry) more hm hp)
  ⟨vs,w',dd,by rw[<- rel.length];exact z,hw,fun h' dd' hs=>h w' _ ?_ rw'⟩
 have he:∃ q,h'.get? a=some q:=let ⟨q,_,_,hq,_⟩:=dd';⟨q,hq⟩
 exact Nb I (by rw[e];exact True.intro) hs he (Ec (z09 (D1 kvs k) z) hd (rel.drop k) dd')
theorem ziy{Q:Value->Shared->Prop}(I:Inv X pins σ H s)(e:Rd H a (.dK kvs))(h:∀ t s',Inv X pins σ H s'->Q (.int kvs.length t) s'):wpAny (model X.prog X.w) A (call (.builtin "len") [.ref a]) Q E s:=by
 obtain⟨z,hd,vs,rel,dd⟩:=Qp I.hok e;refine call_len_dict hd dd (by rw[<- rel.length];rw[sizeLine_eq] at z;omega) ?_
 rw[<- rel.length];exact h _ _ (I.tok _)
end
noncomputable def zha(i:Expr):Prop:=∀ ov iv,subscripted i false ov iv=operate [ov,iv] (getItem ov iv)
theorem zfj{prog:Program}{w:World}{A:Around}{E:Value->Shared->Prop}{s:Shared}{env:Env}{value slice:Expr}{pos:Pos}{T id:String}{Q:Value->Shared->Prop}
  (hl:typeLookup (.type T) "__getitem__"=pure (some (.builtin id))) (hs:zha slice)
  (h:wpAny (model prog w) A (eval value env) (fun o s₁=>wpAny (model prog w) A (eval slice env) (fun i s₂=>s₂.TypeIs o T/\wpAny (model prog w) A (getItem o i) Q E s₂) E s₁) E s) :
  wpAny (model prog w) A (eval (.Subscript value slice pos) env) Q E s:=by
 refine Subscript_ (wpAny_mono h (fun o s₁ h₁=>wpAny_mono h₁ (fun i s₂ h₂=>?_) fun _ _ x=>x) fun _ _ x=>x)
 obtain⟨hT,h₂⟩:=h₂;unfold subscriptTail;refine wpAny_bind ?_;rw[getitemInPython_of_ne hT.not_modules];refine wpAny_bind (wpAny_specialOf hT hl ?_);have fin:wpAny (model prog w) A (subscripted slice false o i) (fun r s₃=>wpAny (model prog w) A (letTemporaryGo value o r >>= fun _=>pure r) Q E s₃) E s₂:=by
  rw[hs o i];exact wpAny_operating (wpAny_mono h₂ (fun r s₃ h₃=>wpAny_bind (wpAny_letTemporaryGo (wpAny_pure h₃))) fun _ _ x=>x)
 first
  | exact wpAny_pure (wpAny_bind fin)
  | exact wpAny_bind (wpAny_pure (wpAny_bind fin))
  | exact wpAny_bind fin
theorem D2{X:Cx}{pins:List (Addr×Obj)}{σ:St}{H:Hp}{s:Shared}{a:Addr}{y:V}{o:Option V}(I:Inv X pins σ H s)(g:DGet H a y o):s.TypeIs (.ref a) "dict":=by
 rcases g with ⟨kvs,k,e,_,_⟩|⟨kvs,k,b,e,_,_,_⟩
 ·obtain⟨_,_,vs,_,dd⟩:=Qp I.hok e
  exact dd.typeIs
 ·obtain⟨_,_,xs,_,dd⟩:=Jk I.hok e
  exact dd.typeIs
inductive zhb(Q:VK)(x:V)(y:V)(H2:Hp):Prop where
 | mk(a)(v)(_:x=.ref a)(_:DGet H2 a y (some v))(_:Q v H2)
noncomputable def zgj(td ty:TE):TE:=fun σ H Q=>td σ H fun x H1=>ty σ H1 fun y H2=>zhb Q x y H2
inductive ziz(Q:VK)(y:V)(x:V)(H2:Hp):Prop where
 | mk(a)(o)(_:x=.ref a)(_:DGet H2 a y o)(_:Q (.bl o.isSome) H2)
noncomputable def zjx(ty td:TE):TE:=fun σ H Q=>ty σ H fun y H1=>td σ H1 fun x H2=>ziz Q y x H2
inductive zdg(Q:VK)(y:V)(x:V)(H2:Hp):Prop where
 | mk(a)(o)(_:x=.ref a)(_:DGet H2 a y o)(_:Q (.bl (!o.isSome)) H2)
noncomputable def zfk(ty td:TE):TE:=fun σ H Q=>ty σ H fun y H1=>td σ H1 fun x H2=>zdg Q y x H2
inductive zhc(D:S5)(σ:L2.St)(v:V)(x:V)(y:V)(H3:Hp):Prop where
 | mk(a)(H4)(_:x=.ref a)(_:DPut H3 a y v H4)(_:D.nx σ H4)
noncomputable def zi0(td ty tv:TE):TS:=fun D σ H=>tv σ H fun v H1=>td σ H1 fun x H2=>ty σ H2 fun y H3=>zhc D σ v x y H3
section
variable{X:Cx}{o i e value:Expr}{pos pos' tpos:Pos}{td ty tv:TE}
theorem zfl(hu:X.A.units+1<cLine)(ho:PE X o td)(hi:PE X i ty)(hs:zha i):PE X (.Subscript o i pos) (zgj td ty):=by
 intro pins s σ H Q I h;refine zfj PySem.F.slot_dict_getitem.lookup hs (thn (ho pins s σ H _ I h) fun u s1 ⟨x,H1,I1,rx,q1⟩=>thn (hi pins s1 σ H1 _ I1 q1) fun iv s2 ⟨y,H2,I2,ry,a,v,ex,g,q2⟩=>?_)
 subst ex;obtain rfl:u=Value.ref a:=rx;exact⟨D2 I2 g,zbj hu I2 g ry fun w' s3 I3 rw'=>⟨v,H2,I3,rw',q2⟩⟩
theorem Qq(hu:X.A.units+1<cLine)(hi:PE X i ty)(ho:PE X o td):PC X .In i o (zjx ty td):=by
 intro pins s σ H Q I h;refine thn (hi pins s σ H _ I h) fun iv s1 ⟨y,H1,I1,ry,q1⟩=>thn (ho pins s1 σ H1 _ I1 q1) fun u s2 ⟨x,H2,I2,rx,a,ov,ex,g,q2⟩=>?_
 subst ex;obtain rfl:u=Value.ref a:=rx;exact zjw hu I2 g ry fun s3 I3=>⟨.bl ov.isSome,H2,I3,rfl,q2⟩
theorem Mm(hu:X.A.units+1<cLine)(hi:PE X i ty)(ho:PE X o td):PC X .NotIn i o (zfk ty td):=by
 intro pins s σ H Q I h;refine thn (hi pins s σ H _ I h) fun iv s1 ⟨y,H1,I1,ry,q1⟩=>thn (ho pins s1 σ H1 _ I1 q1) fun u s2 ⟨x,H2,I2,rx,a,ov,ex,g,q2⟩=>?_
 subst ex;obtain rfl:u=Value.ref a:=rx;exact zfi hu I2 g ry fun s3 I3=>⟨.bl (!ov.isSome),H2,I3,rfl,q2⟩
theorem Ys(hu:X.A.units+1<cLine)(ho:PE X o td)(hi:PE X i ty)(hv:PE X value tv)(hs:swapsWith value (some (.Subscript o i pos')) pos.line X.env=pure false) :
  PS X (.Assign [.Subscript o i pos'] value pos) (zi0 td ty tv):=by
 intro pins s σ H D I h;refine wpAny_Assign_Subscript (thn (hv pins s σ H _ I h) fun r s1 ⟨v,H1,I1,rv,q1⟩=>thn (ho pins s1 σ H1 _ I1 q1) fun u s2 ⟨x,H2,I2,rx,q2⟩=>thn (hi pins s2 σ H2 _ I2 q2) fun iv s3 ⟨y,H3,I3,ry,a,H4,ex,g,q3⟩=>?_) hs
 subst ex;obtain rfl:u=Value.ref a:=rx;exact zbk hu I3 g ry rv fun s4 I4=>⟨σ,H4,I4,q3⟩
end
theorem D3{P:Program}{w:World}{H:Hp}(h:Heap)(hb:sysModules<h.objs.size):Xa P w H (h.push { cls:=.type "dict",data:=.dict #[] }) h.objs.size (.dK []) :=
 ⟨z1j _,z1g.mpr (Ne.symm (z1k hb)),[],.nil,Heap.DictOf.new h⟩
theorem zdh{P:Program}{w:World}{H:Hp}(h:Heap)(hb:sysModules<h.objs.size):Xa P w H (h.push { cls:=.type "dict",data:=.dict #[] }) h.objs.size (.dT []) :=
 ⟨z1j _,z1g.mpr (Ne.symm (z1k hb)),[],.nil,_,#[],0,Heap.get?_push_size _ rfl,⟨rfl,rfl,rfl⟩,rfl,rfl,List.nodup_nil⟩
noncomputable def zhd:TE:=fun _ H Q=>∀ p,H p=none->Q (.ref p) (upd H p (.dK []))
noncomputable def zhe:TE:=fun _ H Q=>∀ p,H p=none->Q (.ref p) (upd H p (.dT []))
section
variable{X:Cx}{pos:Pos}
theorem Jl:PE X (.Dict [] [] pos) zhd:=fun pins s σ H Q I h =>
 wpAny_Dict_empty ⟨.ref s.heap.objs.size,_,I.laid (a:=s.heap.objs.size) (o:=.dK []) (t':=s.toks) (fun _ _ q=>Heap.get?_push_of_some _ q) (z03 _) (D3 s.heap I.big),rfl,h _ (I.hok.fresh (z03 _))⟩
theorem Nd:PE X (.Dict [] [] pos) zhe:=fun pins s σ H Q I h =>
 wpAny_Dict_empty ⟨.ref s.heap.objs.size,_,I.laid (a:=s.heap.objs.size) (o:=.dT []) (t':=s.toks) (fun _ _ q=>Heap.get?_push_of_some _ q) (z03 _) (zdh s.heap I.big),rfl,h _ (I.hok.fresh (z03 _))⟩
end
noncomputable def B3:List (TE×TE)->St->Hp->(List (V×V)->Hp->Prop)->Prop
 | [],_,H,Q=>Q [] H
 | (tk,tv) :: r,σ,H,Q=>tk σ H fun x H1=>tv σ H1 fun y H2=>B3 r σ H2 fun ps H3=>Q ((x,y) :: ps) H3
noncomputable abbrev VV:List (V×V)->List (Value×Value)->Prop:=Paired fun p q=>RelV p.1 q.1/\RelV p.2 q.2
noncomputable def PPs(X:Cx)(pos:Pos)(keys:List (Option Expr))(values:List Expr)(trs:List (TE×TE)):Prop :=
 ∀ (pins:List (Addr×Obj)) (s:Shared) (σ:St) (H:Hp) (Q:List (V×V)->Hp->Prop),Inv X pins σ H s->B3 trs σ H Q ->
   wpAny (model X.prog X.w) X.A (evalPairs (pairTrees keys values X.env pos)) (fun vs s'=>∃ ps H',Inv X pins σ H' s'/\VV ps vs/\Q ps H') X.xe s
theorem zab{X:Cx}{pos:Pos}:PPs X pos [] [] []:=fun pins s σ H Q I h=>pairTrees_nil_walk ⟨[],H,I,.nil,h⟩
theorem Sd{X:Cx}{pos:Pos}{k v:Expr}{ks:List (Option Expr)}{vs:List Expr}{tk tv:TE}{trs:List (TE×TE)}(hk:PE X k tk)(hv:PE X v tv)(hr:PPs X pos ks vs trs) :
  PPs X pos (some k :: ks) (v :: vs) ((tk,tv) :: trs):=fun pins s σ H Q I h =>
 pairTrees_cons_walk (thn (hk pins s σ H _ I h) fun u s1 ⟨x,H1,I1,rx,q1⟩=>thn (hv pins s1 σ H1 _ I1 q1) fun w2 s2 ⟨y,H2,I2,ry,q2⟩ =>
  thn (hr pins s2 σ H2 _ I2 q2) fun ws s3 ⟨ps,H3,I3,rel,q3⟩=>⟨(x,y) :: ps,H3,I3,.cons ⟨rx,ry⟩ rel,q3⟩)
noncomputable def Rt(kvs more:List (Key×V)):List (Key×V):=more.foldl (fun acc kv=>putK acc kv.1 kv.2) kvs
theorem KV.merge:∀ {more:List (Key×V)} {rs:List (Key×Value)} {kvs:List (Key×V)} {vs:List (Key×Value)},KV more rs->KV kvs vs->KV (Rt kvs more) (merged vs rs):=by
 intro more rs kvs vs r;unfold KV at r
 induction r generalizing kvs vs with
 | nil=>intro q;exact q
 | @cons p q ps qs h t ih =>
   intro r0;have e:KV (putK kvs p.1 p.2) (stored vs q.1 q.2):=by
    have:=r0.put p.1 h.2;rw[<- h.1];exact this
   exact ih e
theorem P5:∀ (more kvs:List (Key×V)),(Rt kvs more).length<=kvs.length+more.length
 | [],kvs=>by show kvs.length<=kvs.length+0;omega
 | p :: r,kvs=>by
   have h1:=P5 r (putK kvs p.1 p.2);have h2:=Y1 kvs p.1 p.2;show (Rt (putK kvs p.1 p.2) r).length<=_;rw[z1h];omega
theorem Jm{P:Program}{w:World}:∀ {kvs:List (Key×V)} {ws:List (Value×Value)},VV (kvs.map fun kv=>(kV kv.1,kv.2)) ws->∃ rs,Carries (Yr P w) ws rs/\KV kvs rs
 | [],_,r=>by rw[z23] at r;cases r;exact⟨[],True.intro,.nil⟩
 | p :: kvs,_,r=>by
   rw[z04] at r
   cases r with
   | @cons a b as bs h t =>
     obtain⟨rs,c,q⟩:=Jm (P:=P) (w:=w) t;obtain⟨b1,b2⟩:=b;exact⟨(p.1,b2) :: rs,⟨Lp h.1,rfl,c⟩,.cons ⟨rfl,h.2⟩ q⟩
noncomputable def zi1(trs:List (TE×TE)):TE:=fun σ H Q=>∀ p,H p=none->B3 trs σ (upd H p (.dK [])) fun ps H2=>H2 p=some (.dK [])/\∃ kvs:List (Key×V),ps=kvs.map (fun kv=>(kV kv.1,kv.2))/\kvs.length<=15/\Q (.ref p) (upd H2 p (.dK (Rt [] kvs)))
theorem zac{X:Cx}{pos:Pos}{keys:List (Option Expr)}{values:List Expr}{trs:List (TE×TE)}(h:PPs X pos keys values trs)(hall:keys.all (·.isSome)=true)(hl:keys.length=values.length)(h0:keys≠[])
  (h15:keys.length<=15):PE X (.Dict keys values pos) (zi1 trs):=by
 intro pins s σ H Q I q;have hn:=I.hok.fresh (z03 s.heap.objs.size);have I1:=I.laid (a:=s.heap.objs.size) (o:=.dK []) (h':=s.heap.push { cls:=.type "dict",data:=.dict #[] }) (t':=s.toks) (fun _ _ q=>Heap.get?_push_of_some _ q) (z03 _) (D3 s.heap I.big)
 refine wpAny_Dict_walk (knd:=Yr X.prog X.w) hall hl h0 h15 (thn (h pins _ σ _ _ I1 (q _ hn)) fun ws s2 ⟨ps,H2,I2,rel,e,kvs,ep,lk,q2⟩=>?_)
 subst ep;obtain⟨rs,c,rk⟩:=Jm (P:=X.prog) (w:=X.w) rel;obtain⟨z,hd,vs0,r0,dd⟩:=zdf I2.hok e;cases r0;refine⟨rs,c,dd,fun h' dd' hs=>⟨.ref s.heap.objs.size,_,?_,rfl,q2⟩⟩
 have hz:(Rt [] kvs).length<=sizeLine:=by
  have h1:=P5 kvs [];rw[List.length_nil] at h1
  rw[sizeLine_eq];omega
 have he:∃ q,h'.get? s.heap.objs.size=some q:=let ⟨q,_,_,hq,_⟩:=dd';⟨q,hq⟩
 exact Nb I2 (by rw[e];exact True.intro) hs he (Ec hz hd (rk.merge .nil) dd')
structure M1(X:Cx)(o:Expr)(m:Str)(apos:Pos)(e:Expr)(cpos:Pos):Prop where
 base:attributeBase o m X.env (eval o X.env)=eval o X.env
 few:((backTo cpos (starEach [e] X.env)).all (fun x=>!x.1)&&(backToKw cpos (keywordEach [] X.env)).all (fun x=>x.1.isSome)
  && decide (([e]:List Expr).length+([]:List Keyword).length+(if ([]:List Keyword).isEmpty then 0 else 1)<30))=true
 line:(apos.endLine == cpos.line)=true
 trees:backTo cpos (starEach [e] X.env)=[(false,eval e X.env)]
structure M2(X:Cx)(o:Expr)(m:Str)(apos:Pos)(e f:Expr)(cpos:Pos):Prop where
 base:attributeBase o m X.env (eval o X.env)=eval o X.env
 few:((backTo cpos (starEach [e,f] X.env)).all (fun x=>!x.1)&&(backToKw cpos (keywordEach [] X.env)).all (fun x=>x.1.isSome)
  && decide (([e,f]:List Expr).length+([]:List Keyword).length+(if ([]:List Keyword).isEmpty then 0 else 1)<30))=true
 line:(apos.endLine == cpos.line)=true
 trees:backTo cpos (starEach [e,f] X.env)=[(false,eval e X.env),(false,eval f X.env)]
noncomputable def IsD(H:Hp)(a:Addr):Prop:=(∃ kvs,Rd H a (.dK kvs))\/∃ kvs,Rd H a (.dT kvs)
theorem B4{X:Cx}{pins:List (Addr×Obj)}{σ:St}{H:Hp}{s:Shared}{a:Addr}(I:Inv X pins σ H s)(d:IsD H a) :
  s.TypeIs (.ref a) "dict"/\(∀ b,Value.ref a=.ref b->∃ ob,s.heap.get? b=some ob/\ob.dict=none)/\(a == sysModules)=false:=by
 rcases d with ⟨kvs,e⟩|⟨kvs,e⟩
 ·obtain⟨_,hd,vs,_,dd⟩:=Qp I.hok e
  refine⟨dd.typeIs,fun b q=>?_,hd⟩
  cases q;obtain⟨ob,_,_,h1,h2,_⟩:=dd;exact⟨ob,h1,h2.2.1⟩
 ·obtain⟨_,hd,xs,_,dd⟩:=Jk I.hok e
  refine⟨dd.typeIs,fun b q=>?_,hd⟩
  cases q;obtain⟨ob,_,_,h1,h2,_⟩:=dd;exact⟨ob,h1,h2.2.1⟩
section
variable{X:Cx}{pins:List (Addr×Obj)}{σ:St}{H:Hp}{s:Shared}{a:Addr}{y d:V}{u r:Value}{o:Option V}{A:Around}{E:Value->Shared->Prop}
theorem zhf{Q:Value->Shared->Prop}(hu:A.units+1<cLine)(I:Inv X pins σ H s)(g:DGet H a y o)(ry:RelV y u)(rd:RelV d r)(h:∀ w' s',Inv X pins σ H s'->RelV (o.getD d) w'->Q w' s') :
  wpAny (model X.prog X.w) A (call (.builtin "dict.get") [.ref a,u,r]) Q E s:=by
 rcases g with ⟨kvs,k,e,ey,l⟩|⟨kvs,k,b,e,ey,eb,l⟩
 ·subst ey
  obtain⟨z,hd,vs,rel,dd⟩:=Qp I.hok e;refine call_meetsIn PySem.F.slot_dict_get dd.typeIs PySem.F.entry_dict_get (PySem.F.args_dict_get_3 _ _ _) (meets_dict_get_default (Yr X.prog X.w) a (Lp ry) hd r) ⟨_,dd.mapOf,h _ _ (I.tok _) ?_⟩;rw[l];exact(rel.val k).getD rd
 ·subst ey
  cases (show u=Value.ref b from ry)
  obtain⟨z,hd,xs,rel,dd⟩:=Jk I.hok e;refine call_meetsIn PySem.F.slot_dict_get dd.typeIs PySem.F.entry_dict_get (PySem.F.args_dict_get_3 _ _ _) (meetsH_dict_get_default (tupleKind (Yr X.prog X.w)) a b hd r) ⟨tupleKind_room_in1 hu,k,xs,Oe I.hok eb,dd,h _ _ (I.tok _) ?_⟩;rw[l];exact(rel.val k).getD rd
end
inductive zfm(ty:TE)(tx:TE)(σ:L2.St)(Q:VK)(x:V)(H1:Hp):Prop where
 | mk(a)(_:x=.ref a)(_:IsD H1 a)(_:ty σ H1 fun y H2=>tx σ H2 fun z H3=>∃ o,DGet H3 a y o/\Q (o.getD z) H3)
noncomputable def zhg(td ty tx:TE):TE:=fun σ H Q=>td σ H fun x H1=>zfm ty tx σ Q x H1
inductive zfn(ty:TE)(σ:L2.St)(Q:VK)(x:V)(H1:Hp):Prop where
 | mk(a)(_:x=.ref a)(_:IsD H1 a)(_:ty σ H1 fun y H2=>∃ kvs k v,H2 a=some (.dK kvs)/\y=kV k/\valV kvs k=some v/\Q v (upd H2 a (.dK (Wc kvs k))))
noncomputable def zhh(td ty:TE):TE:=fun σ H Q=>td σ H fun x H1=>zfn ty σ Q x H1
section
variable{X:Cx}{o e f:Expr}{apos cpos:Pos}{td ty tx:TE}
theorem zdi(hu:X.A.units+1<cLine)(ho:PE X o td)(he:PE X e ty)(hf:PE X f tx)(m:M2 X o "get" apos e f cpos):PE X (.Call (.Attribute o "get" apos) [e,f] [] cpos) (zhg td ty tx):=by
 intro pins s σ H Q I h;refine wpAny_Call_method m.base m.few m.line PySem.F.plainAttrs_dict PySem.F.slot_dict_get PySem.F.type_dict_get (thn (ho pins s σ H _ I h) fun u s1 ⟨x,H1,I1,rx,a,ex,d,q1⟩=>?_)
 subst ex;obtain rfl:u=Value.ref a:=rx;obtain⟨t1,t2,_⟩:=B4 I1 d;refine⟨t1,t2,?_⟩;rw[m.trees];refine Calls.callWith_builtin rfl (Calls.evalArgs_plain (Calls.spliced_cons (thn (he pins s1 σ H1 _ I1 q1) fun iv s2 ⟨y,H2,I2,ry,q2⟩ =>
  Calls.spliced_cons (thn (hf pins s2 σ H2 _ I2 q2) fun fv s3 ⟨z,H3,I3,rz,ov,g,q3⟩=>Calls.spliced_nil ?_))))
 exact zhf hu I3 g ry rz fun w' s4 I4 rw'=>⟨_,H3,I4,rw',q3⟩
theorem zdj(ho:PE X o td)(he:PE X e ty)(m:M1 X o "pop" apos e cpos):PE X (.Call (.Attribute o "pop" apos) [e] [] cpos) (zhh td ty):=by
 intro pins s σ H Q I h;refine wpAny_Call_method m.base m.few m.line PySem.F.plainAttrs_dict PySem.F.slot_dict_pop PySem.F.type_dict_pop (thn (ho pins s σ H _ I h) fun u s1 ⟨x,H1,I1,rx,a,ex,d,q1⟩=>?_)
 subst ex;obtain rfl:u=Value.ref a:=rx;obtain⟨t1,t2,_⟩:=B4 I1 d;refine⟨t1,t2,?_⟩;rw[m.trees];refine Calls.callWith_builtin rfl (Calls.evalArgs_plain (Calls.spliced_cons (thn (he pins s1 σ H1 _ I1 q1) fun iv s2 ⟨y,H2,I2,ry,kvs,k,v,ea,ey,l,q2⟩=>Calls.spliced_nil ?_)))
 subst ey;exact zix I2 ea ry l (.inl rfl) fun w' s3 I3 rw'=>⟨v,_,I3,rw',q2⟩
end
section
variable{X:Cx}{pins:List (Addr×Obj)}{σ:St}{H:Hp}{s:Shared}{a:Addr}{kvs:List (Key×V)}{A:Around}{E:Value->Shared->Prop}
theorem zdk{Q:Value->Shared->Prop}(I:Inv X pins σ H s)(e:Rd H a (.dK kvs))(h:∀ p s',H p=none->Inv X pins σ (upd H p (.dK kvs)) s'->Q (.ref p) s'):wpAny (model X.prog X.w) A (call (.type "dict") [.ref a]) Q E s:=by
 obtain⟨z,hd,vs,rel,dd⟩:=Qp I.hok e;refine kt_call_dict hd dd (by rw[<- rel.length];exact z) fun h' dd' hs=>?_
 refine h _ _ (I.hok.fresh (z03 _)) (I.laid (a:=s.heap.objs.size) (o:=.dK kvs) (t':=s.toks) (fun b q hq=>?_) (z03 _) (Ec z (z1g.mpr (Ne.symm (z1k I.big))) rel dd'))
 exact(hs.2 b (z1k (Heap.lt_size hq))).trans (Heap.get?_push_of_some _ hq)
end
section
variable{X:Cx}{pins:List (Addr×Obj)}{σ:St}{H:Hp}{s:Shared}{a:Addr}{y:V}{u:Value}{A:Around}{E:Value->Shared->Prop}
end
end L2
namespace HT
open PySem PyProof.Rows
section
open PySem.SeqAt
open PySem.AutoSeq1 (wpAny_loadPart')
open PySem.MeetsSeq PySem.MeetsSeq2 PySem.MeetsSeq3
end
section
variable{prog:Program}{w:World}{A:Around}{E:Value->Shared->Prop}{s:Shared}
theorem cat_tup{t b:Addr}{vs ws:List Value}{Q:Value->Shared->Prop}(ht:IsTup s.heap t vs.toArray)(hb:IsTup s.heap b ws.toArray)(hv:vs≠[])
  (h1:ws=[]->Q (.ref t) s) (h2:ws≠[]->Q (.ref s.heap.objs.size) { s with heap:=s.heap.push { cls:=.type "tuple",data:=.seq (vs++ws).toArray } })
  (hsz:vs.length+ws.length<=sizeLine):wpAny (model prog w) A (binaryOp .Add (.ref t) (.ref b)) Q E s:=by
 obtain⟨⟨cls,dd,data,sl⟩,ho,hc,n,hd⟩:=id ht;obtain⟨⟨cls2,dd2,data2,sl2⟩,ho2,hc2,n2,hd2⟩:=id hb;simp only at hc hd hc2 hd2
 subst hc hd hc2 hd2;have e:vs.toArray++ws.toArray=(vs++ws).toArray:=by simp
 by_cases hw:ws=[]
 ·exact concat_meets ⟨_,ho,rfl⟩ ⟨_,ho2,rfl⟩ noFill_tuple_add seq_tuple_add PySem.F.slot_tuple_add PySem.F.entry_tuple_add (PySem.F.args_tuple_add_2 _ _)
   (tuple_addW1 t b vs.toArray ws.toArray n n2 dd dd2 sl sl2 (by simpa using hv) (by simp[hw])) ⟨ho,ho2,h1 hw⟩
 ·refine concat_meets ⟨_,ho,rfl⟩ ⟨_,ho2,rfl⟩ noFill_tuple_add seq_tuple_add PySem.F.slot_tuple_add PySem.F.entry_tuple_add (PySem.F.args_tuple_add_2 _ _)
   (tuple_addW2 t b vs.toArray ws.toArray n n2 dd dd2 sl sl2 (by simpa using hv) (by simpa using hw) (by rw[z08,z08];exact hsz)) ⟨ho,ho2,?_⟩
  rw[e];exact h2 hw
noncomputable def sIx(n d:Nat):Option Int->Nat
 | none=>d
 | some v=>if v<0 then (v+(n:Int)).toNat else min v.toNat n
theorem sIx_none(n d:Nat):sIx n d none=d:=rfl
theorem sIx_nat(n d k:Nat):sIx n d (some (k:Int))=min k n:=by
 show (if (k:Int)<0 then ((k:Int)+(n:Int)).toNat else min (k:Int).toNat n)=min k n
 rw[if_neg (by omega),z1a]
end
end HT
namespace L2
open PySem PySem.Spec PyProof.Rows
noncomputable abbrev TO:=St->Hp->(Option Int->Hp->Prop)->Prop
noncomputable def PO(X:Cx)(e:Option Expr)(t:TO):Prop :=
 ∀ (pins:List (Addr×Obj)) (s:Shared) (σ:St) (H:Hp) (Q:Option Int->Hp->Prop),Inv X pins σ H s->t σ H Q ->
   wpAny (model X.prog X.w) X.A (evalPart e X.env) (fun u s'=>∃ o H',Inv X pins σ H' s'/\IsPart u o/\Q o H') X.xe s
noncomputable def zfo:TO:=fun _ H Q=>Q none H
inductive zhi(Q:Option Int->Hp->Prop)(x:V)(H1:Hp):Prop where
 | mk(i)(_:x=.int i)(_:Q (some i) H1)
noncomputable def zi2(t:TE):TO:=fun σ H Q=>t σ H fun x H1=>zhi Q x H1
section
variable{X:Cx}{e:Expr}{te:TE}{lo hi:Option Expr}{tl th:TO}{pos p2:Pos}
theorem Ed:PO X none zfo:=by
 intro pins s σ H Q I h;rw[evalPart_none];exact wpAny_pure ⟨none,H,I,.none,h⟩
theorem Ee(h:PE X e te):PO X (some e) (zi2 te):=by
 intro pins s σ H Q I hw;rw[evalPart_some];refine thn (h pins s σ H _ I hw) fun u s1 ⟨x,H1,I1,r1,q1⟩=>?_
 obtain⟨i,rfl,q⟩:=q1;obtain⟨t,rfl⟩:=r1;exact⟨some i,H1,I1,.int i t,q⟩
noncomputable def SlR(X:Cx)(r:V->Option Int->Option Int->Hp->VK->Prop):Prop :=
 ∀ (pins:List (Addr×Obj)) (s:Shared) (σ:St) (H:Hp) (x:V) (v vl vu:Value) (lo hi:Option Int) (sl:Addr) (Q:VK),Inv X pins σ H s->RelV x v->s.heap.IsSliceOf sl vl vu .none->IsPart vl lo->IsPart vu hi->r x lo hi H Q ->
   ∃ T id,typeLookup (.type T) "__getitem__"=pure (some (.builtin id))/\s.TypeIs v T/\wpAny (model X.prog X.w) X.A (getItem v (.ref sl)) (EP X pins σ Q) X.xe s
noncomputable def tSl(r:V->Option Int->Option Int->Hp->VK->Prop)(te:TE)(tl th:TO):TE:=fun σ H Q=>te σ H fun x H1=>tl σ H1 fun l H2=>th σ H2 fun u H3=>r x l u H3 Q
theorem Jn{r:V->Option Int->Option Int->Hp->VK->Prop}(hr:SlR X r)(he:PE X e te)(hl:PO X lo tl)(hu:PO X hi th):PE X (.Subscript e (.Slice lo hi none p2) pos) (tSl r te tl th):=by
 intro pins s σ H Q I h;refine Subscript_ (thn (he pins s σ H _ I h) fun v s1 ⟨x,H1,I1,r1,q1⟩=>?_)
 refine wpAny_Slice (thn (hl pins s1 σ H1 _ I1 q1) fun vl s2 ⟨l,H2,I2,pl,q2⟩=>thn (hu pins s2 σ H2 _ I2 q2) fun vu s3 ⟨u,H3,I3,pu,q3⟩=>?_)
 rw[evalPart_none];refine wpAny_pure ?_;have I4:Inv X pins σ H3 { s3 with heap:=s3.heap.push { cls:=.type "slice",data:=.fields #[vl,vu,.none] } }:=I3.kept (t':=s3.toks) fun b ob q=>Heap.get?_push_of_some _ q
 obtain⟨T,id,hT,ht,hg⟩:=hr pins { s3 with heap:=s3.heap.push { cls:=.type "slice",data:=.fields #[vl,vu,.none] } } σ H3 x v vl vu l u s3.heap.objs.size Q I4 r1 (Heap.IsSliceOf.new ..) pl pu q3
 show wpAny (model X.prog X.w) X.A (subscriptTail e (.Slice lo hi none p2) v (.ref s3.heap.objs.size)) (EP X pins σ Q) X.xe { s3 with heap:=s3.heap.push { cls:=.type "slice",data:=.fields #[vl,vu,.none] } }
 exact tail_any (ops:=[.ref s3.heap.objs.size,v]) ht hT hg (by with_unfolding_all rfl)
noncomputable def Ho(xs:List V)(lo hi:Option Int):List V:=(xs.drop (HT.sIx xs.length 0 lo)).take (HT.sIx xs.length xs.length hi-HT.sIx xs.length 0 lo)
theorem D4(xs:List V)(lo hi:Option Int):(Ho xs lo hi).length<=xs.length:=by
 unfold Ho;rw[z2p,List.length_drop];omega
inductive zgk(K:PySem.W.Frag)(x:V)(y:V)(H:Hp)(Q:VK):Prop where
 | mk(a)(b)(xs)(ys)(_:x=.ref a)(_:y=.ref b)(_:SqT K H a xs)(_:SqT K H b ys)(_:xs≠[])(_:xs.length+ys.length<=sizeLine)(_:(ys=[]->Q (.ref a) H))(_:(ys≠[]->∀ p,H p=none->Q (.ref p) (upd H p (.tup (xs++ys)))))
theorem Vals.nil_iff{xs:List V}{us:List Value}(r:Vals xs us):us=[]↔xs=[]:=by
 cases r with
 | nil=>simp
 | cons _ _=>simp
theorem zfp:OpR X (binaryOp .Add) (zgk X.K):=by
 intro pins s σ H x y v u Q I rx ry h;obtain⟨a,b,xs,ys,rfl,rfl,ha,hb,hx,hz,q1,q2⟩:=h;cases rx;cases ry;obtain⟨its,r1,p1,_⟩:=I.tuple ha;obtain⟨its2,r2,p2,_⟩:=I.tuple hb;refine HT.cat_tup p1 p2 (fun z=>hx (r1.nil_iff.mp z)) (fun z=>⟨.ref a,H,I,rfl,q1 (r2.nil_iff.mp z)⟩) (fun z=>?_) (by rw[<- r1.length,<- r2.length];exact hz)
 refine⟨.ref s.heap.objs.size,_,I.laid (t':=s.toks) (o:=.tup (xs++ys)) (fun b ob q=>Heap.get?_push_of_some _ q) (z03 _) ?_,rfl,q2 (fun w=>z (r2.nil_iff.mpr w)) _ (I.hok.fresh (z03 _))⟩
 exact⟨by rw[z0w];exact hz,_,r1.append r2,IsTup.new _ _⟩
end
noncomputable def ixN(n:Nat)(i:Int):Option Nat:=if 0<=i then (if i<n then some i.toNat else none) else if -(n:Int)<=i then some (i+n).toNat else none
noncomputable def atI{α:Type}(xs:List α)(i:Int):Option α:=(ixN xs.length i).bind fun j=>xs[j]?
theorem zad{n:Nat}{i:Int}{j:Nat}(h:ixN n i=some j):seqIndex? i n=some j/\j<n/\-(n:Int)<=i/\i<n:=by
 unfold ixN at h
 by_cases h0:0<=i
 ·rw[if_pos h0] at h
  by_cases h1:i<n
  ·rw[if_pos h1] at h
   have e:i.toNat=j:=Option.some.inj h;exact⟨by rw[seqIndex_of h0 h1,e],by omega,by omega,h1⟩
  ·rw[if_neg h1] at h;cases h
 ·rw[if_neg h0] at h
  by_cases h1:-(n:Int)<=i
  ·rw[if_pos h1] at h
   have e:(i+n).toNat=j:=Option.some.inj h;exact⟨by rw[seqIndex_neg (by omega) h1,e],by omega,h1,by omega⟩
  ·rw[if_neg h1] at h;cases h
theorem zae{α:Type}{xs:List α}{i:Int}{v:α}(h:atI xs i=some v):∃ j,seqIndex? i xs.length=some j/\xs[j]?=some v/\j<xs.length/\-(xs.length:Int)<=i/\i<xs.length:=by
 unfold atI at h
 cases e:ixN xs.length i with
 | none=>rw[e] at h;cases h
 | some j =>
   rw[e] at h
   obtain⟨h1,h2,h3,h4⟩:=zad e;exact⟨j,h1,h,h2,h3,h4⟩
theorem Z8{α:Type}{xs:List α}{j:Nat}{v:α}(h:xs[j]?=some v):atI xs (j:Int)=some v:=by
 have hj:j<xs.length:=(z0v.mp h).1;have e:ixN xs.length (j:Int)=some j:=by
  unfold ixN;rw[if_pos (by omega),if_pos (by omega)];simp
 unfold atI;rw[e];exact h
theorem atI_last{α:Type}(xs:List α)(v:α):atI (xs++[v]) (-1)=some v:=by
 have hl:(xs++[v]).length=xs.length+1:=by simp
 have e:ixN (xs++[v]).length (-1)=some xs.length:=by
  unfold ixN;rw[hl,if_neg (by decide),if_pos (by omega)]
  congr 1
  omega
 unfold atI;rw[e];show (xs++[v])[xs.length]?=some v;simp
noncomputable def zaf(b:Expr):Prop:=∀ o i,subscripted b false o i=operate [o,i] (getItem o i)
noncomputable def IxR(X:Cx)(r:R2):Prop :=
 ∀ (value slice:Expr) (pins:List (Addr×Obj)) (s:Shared) (σ:St) (H:Hp) (x y:V) (v u:Value) (Q:VK),Inv X pins σ H s->RelV x v->RelV y u->r x y H Q ->
   subscripted slice false v u=operate [v,u] (getItem v u)->wpAny (model X.prog X.w) X.A (subscriptTail value slice v u) (EP X pins σ Q) X.xe s
noncomputable def MtR(X:Cx)(id:String)(r:V->List V->Hp->VK->Prop):Prop :=
 ∀ (pins:List (Addr×Obj)) (s:Shared) (σ:St) (H:Hp) (x:V) (xs:List V) (v:Value) (us:List Value) (Q:VK),Inv X pins σ H s->RelV x v->Vals xs us->r x xs H Q ->
   wpAny (model X.prog X.w) X.A (call (.builtin id) (v :: us)) (EP X pins σ Q) X.xe s
section
variable{X:Cx}{a b:Expr}{ta tb:TE}{pos:Pos}
theorem zi3{r:R2}(hr:IxR X r)(ha:PE X a ta)(hb:PE X b tb)(hs:zaf b):PE X (.Subscript a b pos) (tOp r ta tb):=by
 intro pins s σ H Q I h;exact Subscript_ (binT ha hb I h fun v u s2 x y H2 I2 rx ry q=>hr a b pins s2 σ H2 x y v u Q I2 rx ry q (hs _ _))
inductive Hq(K:PySem.W.Frag)(x:V)(y:V)(H:Hp)(Q:VK):Prop where
 | mk(p)(xs)(i)(v)(_:x=.ref p)(_:y=.int i)(_:SqL K H p xs)(_:atI xs i=some v)(_:Q v H)
inductive zhj(K:PySem.W.Frag)(x:V)(y:V)(H:Hp)(Q:VK):Prop where
 | mk(p)(xs)(i)(v)(_:x=.ref p)(_:y=.int i)(_:SqT K H p xs)(_:atI xs i=some v)(_:Q v H)
theorem zfq:IxR X (Hq X.K):=by
 intro value slice pins s σ H x y v u Q I rx ry h hs;obtain⟨p,xs,i,z,rfl,rfl,hq,he,q⟩:=h;cases rx;obtain⟨t,rfl⟩:=ry;obtain⟨its,r,pl,hz⟩:=I.list hq;obtain⟨j,h1,h2,h3,h4,h5⟩:=zae he;obtain⟨w,ew,rw'⟩:=r.get h2;have hl:=r.length;have hn:=Od;have fin:EP X pins σ Q w s:=⟨z,H,I,rw',q⟩;by_cases h0:0<=i
 ·have hj:i.toNat=j:=by
   rw[seqIndex_of h0 h5] at h1
   exact Option.some.inj h1
  exact item_listR pl.isList h0 (by omega) (by rw[hj];simpa using ew) fin hs
 ·have hj:(i+(its.toArray.size:Int)).toNat=j:=by
   rw[seqIndex_neg (by omega) h4] at h1
   rw[z08,<- hl];exact Option.some.inj h1
  exact subscriptTail_builtinR (x:=w) pl.isList.typeIs slot_list_getitem.lookup
   (wpAny_getItem_list_neg (Q:=fun r s'=>r=w/\EP X pins σ Q r s') pl.isList (by omega) (by rw[z08]<;>omega) (by omega) (by rw[hj];simpa using ew) ⟨rfl,fin⟩) hs
theorem zhk:IxR X (zhj X.K):=by
 intro value slice pins s σ H x y v u Q I rx ry h hs;obtain⟨p,xs,i,z,rfl,rfl,hq,he,q⟩:=h;cases rx;obtain⟨t,rfl⟩:=ry;obtain⟨its,r,pl,hz⟩:=I.tuple hq;obtain⟨j,h1,h2,h3,h4,h5⟩:=zae he;obtain⟨w,ew,rw'⟩:=r.get h2;have hl:=r.length;have hn:=Od;have fin:EP X pins σ Q w s:=⟨z,H,I,rw',q⟩;exact subscriptTail_builtinR (x:=w) pl.typeIs slot_tuple_getitem.lookup
  (getItem_tuple (j:=j) (Q:=fun r s'=>r=w/\EP X pins σ Q r s') pl (by omega) (by omega) (by rw[z08,<- hl];exact h1) (by simpa using ew) ⟨rfl,fin⟩) hs
theorem B5(its:List Value)(n j:Nat)(u:Value):Obj.mapSeq (·.setIfInBounds j u) { cls:=.type "list",data:=.seq its.toArray n }={ cls:=.type "list",data:=.seq (its.set j u).toArray n }:=by
 simp[Obj.mapSeq]
theorem Inv.lst{pins:List (Addr×Obj)}{σ:St}{H:Hp}{s:Shared}{p:Addr}{xs:List V}(I:Inv X pins σ H s)(h:H p=some (.lst xs)) :
  ∃ (its:List Value) (n:Nat),Vals xs its/\s.heap.get? p=some { cls:=.type "list",data:=.seq its.toArray n }/\xs.length<=sizeLine:=by
 obtain⟨z,its,n,r,e⟩:=I.hok p _ h;exact⟨its,n,r,e,z⟩
theorem Inv.lstUpd{pins:List (Addr×Obj)}{σ:St}{H:Hp}{s:Shared}{p:Addr}{xs ys:List V}{its its':List Value}{n n':Nat}{f:Obj->Obj}(I:Inv X pins σ H s)(h:H p=some (.lst xs))
  (ho:s.heap.get? p=some { cls:=.type "list",data:=.seq its.toArray n }) (hf:f { cls:=.type "list",data:=.seq its.toArray n }={ cls:=.type "list",data:=.seq its'.toArray n' }) (r:Vals ys its') (hz:ys.length<=sizeLine) (t:Nat) :
  Inv X pins σ (upd H p (.lst ys)) { s with heap:=s.heap.update p f,toks:=t }:=by
 have e:(s.heap.update p f).get? p=some { cls:=.type "list",data:=.seq its'.toArray n' }:=by
  rw[Heap.get?_update_self f ho (by rw[hf]<;>rfl),hf]
 refine I.write (x:=p) (e:=p) (by rw[h];trivial) (.inl rfl) (fun b u hb q=>(Heap.get?_update_other _ _ (Ne.symm hb)).trans q) ⟨_,e⟩ ?_
 exact⟨hz,its',n',r,e⟩
noncomputable def zi4:V->V->V->Hp->(Hp->Prop)->Prop:=fun o i v H Q=>∃ p xs k j,o=.ref p/\i=.int k/\H p=some (.lst xs)/\ixN xs.length k=some j/\Q (upd H p (.lst (xs.set j v)))
theorem zdl:zii X zi4:=by
 intro pins s σ H o i v ov iv u Q I ro ri rv h;obtain⟨p,xs,k,j,rfl,rfl,hp,hj,q⟩:=h;cases ro;obtain⟨t,rfl⟩:=ri;obtain⟨its,n,r,ho,hz⟩:=I.lst hp;obtain⟨h1,h2,h3,h4⟩:=zad hj;have hl:=r.length;have hn:=Od;have I':Inv X pins σ (upd H p (.lst (xs.set j v))) { s with heap:=s.heap.update p (Obj.mapSeq (·.setIfInBounds j u)) } :=
  I.lstUpd hp ho (B5 its n j u) (r.set rv j) (by rw[z2k];exact hz) s.toks
 by_cases h0:0<=k
 ·have hk:k.toNat=j:=by
   rw[seqIndex_of h0 h4] at h1
   exact Option.some.inj h1
  exact PySem.W.ki_setAt ho h0 (by omega) (by rw[z08,<- hl];exact h4) (by rw[hk];exact⟨_,I',q⟩)
 ·have hk:(k+(its.toArray.size:Int)).toNat=j:=by
   rw[seqIndex_neg (by omega) h3] at h1
   rw[z08,<- hl];exact Option.some.inj h1
  exact PySem.W.ki_setBack ho (by omega) (by rw[z08,<- hl];exact h3) (by omega) (by rw[hk];exact⟨_,I',q⟩)
theorem Ef(lo hi:Option Int)(n:Nat):(sliceBounds lo hi none n).1=((HT.sIx n 0 lo:Nat):Int)/\(sliceBounds lo hi none n).2.1=((HT.sIx n n hi:Nat):Int)/\(sliceBounds lo hi none n).2.2=1:=by
 refine⟨?_,?_,rfl⟩
 ·cases lo with
  | none=>simp[sliceBounds,HT.sIx]
  | some i =>
    simp only[sliceBounds,HT.sIx,Option.getD_none,show (1:Int)>0 by decide,if_true]
    by_cases h:i<0
    ·simp only[h,if_true]<;>omega
    ·simp only[h,if_false]<;>omega
 ·cases hi with
  | none=>simp[sliceBounds,HT.sIx]
  | some i =>
    simp only[sliceBounds,HT.sIx,Option.getD_none,show (1:Int)>0 by decide,if_true]
    by_cases h:i<0
    ·simp only[h,if_true]<;>omega
    ·simp only[h,if_false]<;>omega
theorem Hr(its:List Value)(lo hi:Option Int):slicePick its.toArray lo hi none=((its.drop (HT.sIx its.length 0 lo)).take (HT.sIx its.length its.length hi-HT.sIx its.length 0 lo)).toArray:=by
 obtain⟨h1,h2,h3⟩:=Ef lo hi its.toArray.size;unfold slicePick;rw[h1,h2,h3];simp only[sliceRange_one,pick_run,z08]<;>rfl
noncomputable def zi5(K:PySem.W.Frag):V->Option Int->Option Int->Hp->VK->Prop:=fun x lo hi H Q=>∃ a xs,x=.ref a/\SqL K H a xs/\∀ p,H p=none->Q (.ref p) (upd H p (.lst (Ho xs lo hi)))
theorem zfr:SlR X (zi5 X.K):=by
 intro pins s σ H x v vl vu lo hi sl Q I rx hs pl pu h;obtain⟨a,xs,rfl,hx,q⟩:=h;cases rx;obtain⟨its,r,ht,hz⟩:=I.list hx;have hlen:=r.length;refine⟨"list",_,slot_list_getitem.lookup,ht.isList.typeIs,?_⟩;refine wpAny_getItem_list_slice ht.isList hs pl pu .none (by simp) ?_ (by rw[z08]<;>omega)
 rw[Hr,<- hlen];refine⟨.ref s.heap.objs.size,_,I.laid (t':=s.toks) (o:=.lst (Ho xs lo hi)) (fun b ob q=>Heap.get?_push_of_some _ q) (z03 _) ?_,rfl,q _ (I.hok.fresh (z03 _))⟩
 exact⟨z09 (D4 xs lo hi) hz,_,0,(r.drop (HT.sIx xs.length 0 lo)).take (HT.sIx xs.length xs.length hi-HT.sIx xs.length 0 lo),Heap.get?_push_size _ rfl⟩
noncomputable def Rf:V->Bool
 | .non=>true
 | .bl _=>true
 | .int _=>true
 | .str _=>true
 | _=>false
noncomputable def eqV:V->V->Bool
 | .non,.non=>true
 | .bl a,.bl b=>a == b
 | .bl a,.int b=>(if a then 1 else 0) == b
 | .int a,.bl b=>a == (if b then 1 else 0)
 | .int a,.int b=>a == b
 | .str a,.str b=>a == b
 | _,_=>false
theorem zhl{A:Around}{s:Shared}{y x:V}{u v:Value}(ry:RelV y u)(rx:RelV x v)(fy:Rf y=true)(fx:Rf x=true):SeqAt.EqAt A s u v (eqV y x):=by
 cases y with
 | non =>
   cases ry;cases x with
   | non=>cases rx;exact SeqAt.EqAt.same _
   | bl b=>cases rx;exact SeqAt.EqAt.none_bool b
   | int b=>obtain⟨t,rfl⟩:=rx;exact SeqAt.EqAt.none_int b t
   | str b=>obtain⟨t,rfl⟩:=rx;exact SeqAt.EqAt.none_str b t
   | _=>exact absurd (show false=true from fx) z1d
 | bl a =>
   cases ry;cases x with
   | non=>cases rx;exact SeqAt.EqAt.bool_none a
   | bl b=>cases rx;exact SeqAt.EqAt.bool_bool a b
   | int b=>obtain⟨t,rfl⟩:=rx;exact SeqAt.EqAt.bool_int a b t
   | str b=>obtain⟨t,rfl⟩:=rx;exact SeqAt.EqAt.bool_str a b t
   | _=>exact absurd (show false=true from fx) z1d
 | int a =>
   obtain⟨t',rfl⟩:=ry;cases x with
   | non=>cases rx;exact SeqAt.EqAt.int_none a t'
   | bl b=>cases rx;exact SeqAt.EqAt.int_bool a t' b
   | int b=>obtain⟨t,rfl⟩:=rx;exact SeqAt.EqAt.int_int a t' b t
   | str b=>obtain⟨t,rfl⟩:=rx;exact SeqAt.EqAt.int_str a t' b t
   | _=>exact absurd (show false=true from fx) z1d
 | str a =>
   obtain⟨t',rfl⟩:=ry;cases x with
   | non=>cases rx;exact SeqAt.EqAt.str_none a t'
   | bl b=>cases rx;exact SeqAt.EqAt.str_bool a t' b
   | int b=>obtain⟨t,rfl⟩:=rx;exact SeqAt.EqAt.str_int a t' b t
   | str b=>obtain⟨t,rfl⟩:=rx;exact SeqAt.EqAt.str_str a t' b t
   | _=>exact absurd (show false=true from fx) z1d
 | _=>exact absurd (show false=true from fy) z1d
noncomputable def eqU(x:V)(u:Value):Bool:=match u with
 | .none=>eqV .non x
 | .bool b=>eqV (.bl b) x
 | .int i _=>eqV (.int i) x
 | .str z _=>eqV (.str z) x
 | _=>false
theorem B6{x y:V}{u:Value}(r:RelV y u)(f:Rf y=true):eqU x u=eqV y x:=by
 cases y with
 | non=>cases r;rfl
 | bl b=>cases r;rfl
 | int i=>obtain⟨t,rfl⟩:=r;rfl
 | str z=>obtain⟨t,rfl⟩:=r;rfl
 | _=>exact absurd (show false=true from f) z1d
theorem Nf{x:V}:∀ {xs:List V} {us:List Value},Vals xs us->xs.all Rf=true->us.any (eqU x)=xs.any fun y=>eqV y x
 | _,_,.nil,_=>rfl
 | y :: xs,u :: us,.cons r t,f=>by
   rw[List.all_cons,z17] at f
   rw[z2t,z2t,B6 r f.1,Nf t f.2]
theorem Rg{A:Around}{s:Shared}{x:V}{v:Value}(rx:RelV x v)(fx:Rf x=true):∀ {xs:List V} {us:List Value},Vals xs us->xs.all Rf=true->∀ u∈us,SeqAt.EqAt A s u v (eqU x u)
 | _,_,.nil,_=>fun u hu=>by cases hu
 | y :: xs,u :: us,.cons r t,f=>fun u' hu=>by
   rw[List.all_cons,z17] at f
   rcases z00.mp hu with rfl|hu
   ·rw[B6 r f.1];exact zhl r rx f.1 fx
   ·exact Rg rx fx t f.2 u' hu
noncomputable def inV(x:V)(xs:List V):Bool:=xs.any fun y=>eqV y x
inductive rIn(K:PySem.W.Frag)(neg:Bool)(x:V)(y:V)(H:Hp)(Q:VK):Prop where
 | mk(p)(xs)(_:y=.ref p)(_:(SqL K H p xs\/SqT K H p xs))(_:Rf x=true)(_:xs.all Rf=true)(_:Q (.bl (if neg then !inV x xs else inV x xs)) H)
theorem zbl:OpR X (compareOp .In) (rIn X.K false):=by
 intro pins s σ H x y v u Q I rx ry h;obtain⟨p,xs,rfl,hq,fx,fs,q⟩:=h;cases ry;rcases hq with hq|hq
 ·obtain⟨its,r,pl,hz⟩:=I.list hq
  refine SeqAt.in_listAt (eqU x) pl.isList (fun w hw=>Rg rx fx r fs w (by simpa using hw)) ⟨.bl _,H,I,rfl,?_⟩
  rw[show its.toArray.any (eqU x)=its.any (eqU x) by simp,Nf r fs]
  exact q
 ·obtain⟨its,r,pl,hz⟩:=I.tuple hq
  refine SeqAt.in_tupleAt (eqU x) pl (fun w hw=>Rg rx fx r fs w (by simpa using hw)) ⟨.bl _,H,I,rfl,?_⟩
  rw[show its.toArray.any (eqU x)=its.any (eqU x) by simp,Nf r fs]
  exact q
theorem Eg:OpR X (compareOp .NotIn) (rIn X.K true):=by
 intro pins s σ H x y v u Q I rx ry h;obtain⟨p,xs,rfl,hq,fx,fs,q⟩:=h;cases ry;rcases hq with hq|hq
 ·obtain⟨its,r,pl,hz⟩:=I.list hq
  refine SeqAt.notIn_listAt (eqU x) pl.isList (fun w hw=>Rg rx fx r fs w (by simpa using hw)) ⟨.bl _,H,I,rfl,?_⟩
  rw[show its.toArray.any (eqU x)=its.any (eqU x) by simp,Nf r fs]
  exact q
 ·obtain⟨its,r,pl,hz⟩:=I.tuple hq
  refine SeqAt.notIn_tupleAt (eqU x) pl (fun w hw=>Rg rx fx r fs w (by simpa using hw)) ⟨.bl _,H,I,rfl,?_⟩
  rw[show its.toArray.any (eqU x)=its.any (eqU x) by simp,Nf r fs]
  exact q
theorem Eh:Ux X (.builtin "len") (fun xs H Q=>∃ p ys,xs=[.ref p]/\(SqL X.K H p ys\/SqT X.K H p ys)/\Q (.int ys.length) H):=by
 intro pins s σ H xs us Q I r h;obtain⟨p,ys,rfl,hq,q⟩:=h;obtain⟨u,rfl,rx⟩:=Qo r;cases rx;have hn:=Od;rcases hq with hq|hq
 ·obtain⟨its,r',pl,hz⟩:=I.list hq
  have hlen:=r'.length;exact Calls.call_len_list pl.isList (by simp only[z08]<;>omega) ⟨.int ys.length,H,I.tok _,⟨s.toks+1,by rw[z08,hlen]⟩,q⟩
 ·obtain⟨its,r',pl,hz⟩:=I.tuple hq
  have hlen:=r'.length;exact len_tuple pl (by simp only[z08]<;>omega) ⟨.int ys.length,H,I.tok _,⟨s.toks+1,by rw[z08,hlen]⟩,q⟩
theorem Ei:Ux X (.type "list") (fun xs H Q=>∃ p ys,xs=[.ref p]/\(SqL X.K H p ys\/SqT X.K H p ys)/\∀ l,H l=none->Q (.ref l) (upd H l (.lst ys))):=by
 intro pins s σ H xs us Q I r h;obtain⟨p,ys,rfl,hq,q⟩:=h;obtain⟨u,rfl,rx⟩:=Qo r;cases rx;have fin:∀ (its:List Value),Vals ys its->ys.length<=sizeLine->∀ (h':Heap) (c':Nat),(∀ b o',s.heap.get? b=some o'->h'.get? b=some o') ->
   h'.get? s.heap.objs.size=some { cls:=.type "list",dict:=none,data:=.seq its.toArray c',slots:=#[] }->EP X pins σ Q (.ref s.heap.objs.size) { s with heap:=h' }:=fun its r' hz h' c' kp e =>
  ⟨.ref s.heap.objs.size,_,I.laid (t':=s.toks) kp (z03 _) (show Xa X.prog X.w _ h' _ (.lst ys) from⟨hz,its,c',r',e⟩),rfl,q _ (I.hok.fresh (z03 _))⟩
 rcases hq with hq|hq
 ·obtain⟨its,r',pl,hz⟩:=I.list hq
  have hlen:=r'.length;obtain⟨o,ho,hc,n,hd⟩:=pl.isList;exact call_list_seq p (.inl rfl) ho hc hd (fun h' c' kp e=>fin its r' hz h' c' kp e) (by simp only[z08]<;>omega)
 ·obtain⟨its,r',pl,hz⟩:=I.tuple hq
  have hlen:=r'.length;obtain⟨o,ho,hc,n,hd⟩:=pl;exact call_list_seq p (.inr rfl) ho hc hd (fun h' c' kp e=>fin its r' hz h' c' kp e) (by simp only[z08]<;>omega)
theorem Hs:Ux X (.type "tuple") (fun xs H Q=>∃ p ys,xs=[.ref p]/\((SqL X.K H p ys/\∀ l,H l=none->Q (.ref l) (upd H l (.tup ys)))\/(SqT X.K H p ys/\Q (.ref p) H))):=by
 intro pins s σ H xs us Q I r h;obtain⟨p,ys,rfl,h⟩:=h;obtain⟨u,rfl,rx⟩:=Qo r;cases rx;rcases h with ⟨hq,q⟩|⟨hq,q⟩
 ·obtain⟨its,r',pl,hz⟩:=I.list hq
  have hlen:=r'.length;refine call_tuple_list pl.isList (fun h' kp=>?_) (by simp only[z08]<;>omega)
  have I1:Inv X pins σ H { s with heap:=h' }:=I.kept (t':=s.toks) kp
  have I2:Inv X pins σ (upd H h'.objs.size (.tup ys)) { s with heap:=h'.push { cls:=.type "tuple",data:=.seq its.toArray } } :=
   I1.laid (t':=s.toks) (fun b o e=>Heap.get?_push_of_some _ e) (z03 _) (show Xa X.prog X.w _ _ _ (.tup ys) from⟨hz,its,r',IsTup.new _ _⟩)
  exact⟨.ref h'.objs.size,_,I2,rfl,q _ (I1.hok.fresh (z03 _))⟩
 ·obtain⟨its,r',pl,hz⟩:=I.tuple hq
  exact call_tuple_same pl ⟨.ref p,H,I,rfl,q⟩
noncomputable def tyV(K:PySem.W.Frag)(T:String)(x:V)(H:Hp):Prop:=match x with
 | .str _=>T="str"
 | .int _=>T="int"
 | .ref p=>(T="list"/\∃ xs,SqL K H p xs)\/(T="tuple"/\∃ o,K.lookup p=some o/\o.cls=.type "tuple"/\o.dict=none) \/
   (T="dict"/\((∃ kvs,H p=some (.dK kvs))\/∃ kvs,H p=some (.dT kvs)))\/(T="set"/\∃ S n,H p=some (.set S n))
 | _=>False
theorem B7{pins:List (Addr×Obj)}{σ:St}{H:Hp}{s:Shared}{T:String}{x:V}{v:Value}(I:Inv X pins σ H s)(r:RelV x v)(ty:tyV X.K T x H) :
  s.TypeIs v T/\∀ a,v=.ref a->∃ ob,s.heap.get? a=some ob/\ob.dict=none:=by
 cases x with
 | str z =>
   obtain⟨t,rfl⟩:=r;cases (show T="str" from ty)
   exact⟨typeIs_str s z t,fun _ e=>nomatch e⟩
 | int i =>
   obtain⟨t,rfl⟩:=r;cases (show T="int" from ty)
   exact⟨typeIs_int s i t,fun _ e=>nomatch e⟩
 | ref p =>
   cases r;rcases ty with ⟨rfl,xs,hq⟩|⟨rfl,o,hk,hc,hd⟩|⟨rfl,hk⟩|⟨rfl,S,n,hk⟩
   ·obtain⟨its,_,pl,_⟩:=I.list hq
    refine⟨pl.isList.typeIs,fun a e=>?_⟩
    cases e;obtain⟨o,n,e,c,hd,_⟩:=pl;exact⟨o,e,hd⟩
   ·refine⟨⟨o,I.kIn p o hk,hc⟩,fun a e=>?_⟩
    cases e;exact⟨o,I.kIn _ o hk,hd⟩
   ·have z:∃ o,s.heap.get? p=some o/\o.ExactDict:=by
     rcases hk with ⟨kvs,hk⟩|⟨kvs,hk⟩
     ·obtain⟨_,_,_,_,o,_,_,e,ex,_⟩:=I.hok p _ hk
      exact⟨o,e,ex⟩
     ·obtain⟨_,_,_,_,o,_,_,e,ex,_⟩:=I.hok p _ hk
      exact⟨o,e,ex⟩
    obtain⟨o,e,ex⟩:=z;refine⟨⟨o,e,ex.1⟩,fun a e2=>?_⟩
    cases e2;exact⟨o,e,ex.2.1⟩
   ·obtain⟨o,_,_,_,e,ex,_⟩:=I.hok p _ hk
    refine⟨⟨o,e,ex.1⟩,fun a e2=>?_⟩
    cases e2;exact⟨o,e,ex.2.1⟩
 | _=>exact False.elim ty
inductive zi6(K:PySem.W.Frag)(T:String)(r:V->List V->Hp->VK->Prop)(Q:VK)(x:V)(H1:Hp):Prop where
 | mk(_:tyV K T x H1)(_:r x [] H1 Q)
noncomputable def zjy(K:PySem.W.Frag)(T:String)(r:V->List V->Hp->VK->Prop)(to:TE):TE:=fun σ H Q=>to σ H fun x H1=>zi6 K T r Q x H1
inductive zjz(K:PySem.W.Frag)(T:String)(r:V->List V->Hp->VK->Prop)(t:TA)(σ:L2.St)(Q:VK)(x:V)(H1:Hp):Prop where
 | mk(_:tyV K T x H1)(_:t σ H1 fun xs H2=>r x xs H2 Q)
noncomputable def tBM(K:PySem.W.Frag)(T:String)(r:V->List V->Hp->VK->Prop)(to:TE)(t:TA):TE:=fun σ H Q=>to σ H fun x H1=>zjz K T r t σ Q x H1
variable{o e:Expr}{es:List Expr}{to:TE}{t:TA}{name:Str}{apos cpos:Pos}{T id:String}{r:V->List V->Hp->VK->Prop}
theorem zdm(pa:PlainAttrs T)(slot:Slot T name id)(hty:typeOf (.builtin id)=pure (.type "method_descriptor"))(hm:MtR X id r)(ho:PE X o to)
  (hbase:attributeBase o name X.env (eval o X.env)=eval o X.env:=by rfl) (hline:(apos.endLine == cpos.line)=true:=by rfl):PE X (.Call (.Attribute o name apos) [] [] cpos) (zjy X.K T r to):=by
 intro pins s σ H Q I h;refine wpAny_Call_method0_late hbase hline (thn (ho pins s σ H _ I h) fun v s1 ⟨x,H1,I1,r1,ty,q1⟩=>?_)
 obtain⟨h1,h2⟩:=B7 I1 r1 ty;exact⟨T,id,pa,slot,hty,h1,h2,Calls.callWith_builtin rfl (PySem.evalArgs_none (hm pins s1 σ H1 x [] v [] Q I1 r1 .nil q1))⟩
theorem zi7(pa:PlainAttrs T)(slot:Slot T name id)(hty:typeOf (.builtin id)=pure (.type "method_descriptor"))(hm:MtR X id r)(ho:PE X o to)(ha:PA X (e :: es) t)
  (hbase:attributeBase o name X.env (eval o X.env)=eval o X.env:=by rfl)
  (hfew:((backTo cpos (starEach (e :: es) X.env)).all (fun x=>!x.1)&&(backToKw cpos (keywordEach [] X.env)).all (fun x=>x.1.isSome)
   && decide ((e :: es).length+([]:List Keyword).length+(if ([]:List Keyword).isEmpty then 0 else 1)<30))=true:=by rfl)
  (hline:(apos.endLine == cpos.line)=true:=by rfl) (hs:starEach (e :: es) X.env=(false,eval e X.env) :: starEach es X.env:=by rfl) (hplain:(backTo cpos (starEach es X.env)).any (·.1)=false:=by rfl) :
  PE X (.Call (.Attribute o name apos) (e :: es) [] cpos) (tBM X.K T r to t):=by
 intro pins s σ H Q I h;refine wpAny_Call_method_late hbase hfew hline rfl (thn (ho pins s σ H _ I h) fun v s1 ⟨x,H1,I1,r1,ty,q1⟩=>?_)
 obtain⟨h1,h2⟩:=B7 I1 r1 ty;refine⟨T,id,pa,slot,hty,h1,h2,?_⟩;have hA:=ha cpos pins s1 σ H1 _ I1 q1;rw[hs] at hA ⊢
 refine Calls.callWith_builtin (by show (false||(backTo cpos (starEach es X.env)).any (·.1))=false;rw[hplain]<;>rfl) (Calls.evalArgs_plain ?_)
 exact thn hA fun us s2 ⟨vs,H2,I2,r2,q2⟩=>hm pins s2 σ H2 x vs v us Q I2 r1 r2 q2
end
noncomputable def MtM(X:Cx)(id:String)(r:V->List V->Hp->VK->Prop):Prop :=
 ∀ (pins:List (Addr×Obj)) (s:Shared) (σ:St) (H:Hp) (x:V) (xs:List V) (v:Value) (us:List Value) (Q:VK),Inv X pins σ H s->RelV x v->Vals xs us->r x xs H Q ->
   wpAny (model X.prog X.w) X.A (call (.builtin id) (v :: us)) (EP X pins σ Q) X.xe s
theorem Vals.one:∀ {x:V} {us:List Value},Vals [x] us->∃ u,us=[u]/\RelV x u
 | _,_,.cons r .nil=>⟨_,rfl,r⟩
theorem Vals.zero:∀ {us:List Value},Vals [] us->us=[]
 | _,.nil=>rfl
theorem Vals.dropLast{xs:List V}{us:List Value}(h:Vals xs us):Vals xs.dropLast us.dropLast:=by
 induction h with
 | nil=>exact .nil
 | cons r t ih =>
   cases t with
   | nil=>exact .nil
   | cons q t'=>exact .cons r ih
theorem Vals.reverse{xs:List V}{us:List Value}(h:Vals xs us):Vals xs.reverse us.reverse:=by
 induction h with
 | nil=>exact .nil
 | cons r t ih=>rw[z2u,z2u];exact Vals.append ih (.cons r .nil)
theorem B8{α:Type}(l:List α):l.eraseIdx (l.length-1)=l.dropLast:=by
 induction l with
 | nil=>rfl
 | cons a r ih =>
   cases r with
   | nil=>rfl
   | cons b r =>
     have e:(a :: b :: r).length-1=((b :: r).length-1)+1:=by
      have h1:(a :: b :: r).length=r.length+2:=rfl;have h2:(b :: r).length=r.length+1:=rfl;omega
     rw[e,List.eraseIdx_cons_succ,ih]
     all_goals rfl
section
variable{X:Cx}{pins:List (Addr×Obj)}{σ:St}{H:Hp}{s:Shared}{l b:Addr}{xs ys zs:List V}
theorem Inv.lset{its its':List Value}{n:Nat}{f:Array Value->Array Value}{t':Nat}(I:Inv X pins σ H s)(hH:H l=some (.lst xs))
  (e:s.heap.get? l=some { cls:=.type "list",data:=.seq its.toArray n }) (hf:f its.toArray=its'.toArray) (hv:Vals ys its') (hz:ys.length<=sizeLine) :
  Inv X pins σ (upd H l (.lst ys)) { s with heap:=s.heap.update l (Obj.mapSeq f),toks:=t' }:=by
 have q:=PySem.IsL.update e f;rw[hf] at q
 refine I.write (x:=l) (e:=l) (by rw[hH];exact trivial) (.inl rfl) (fun b' u hb hu=>(Heap.get?_update_other s.heap (Obj.mapSeq f) (Ne.symm hb)).trans hu) ⟨_,q⟩ ?_
 exact⟨hz,its',_,hv,q⟩
theorem Inv.lnew{its:List Value}{t':Nat}(I:Inv X pins σ H s)(hv:Vals ys its)(hz:ys.length<=sizeLine) :
  Inv X pins σ (upd H s.heap.objs.size (.lst ys)) { s with heap:=s.heap.push { cls:=.type "list",data:=.seq its.toArray },toks:=t' } :=
 I.laid (fun _ _ q=>Heap.get?_push_of_some _ q) (z03 _) ⟨hz,its,0,hv,Heap.get?_push_size _ rfl⟩
theorem Inv.fresh(I:Inv X pins σ H s):H s.heap.objs.size=none:=I.hok.fresh (z03 _)
theorem Inv.lstM(I:Inv X pins σ H s)(hH:H l=some (.lst xs)):xs.length<=sizeLine/\∃ (its:List Value) (n:Nat),Vals xs its/\xs.length=its.length/\s.heap.get? l=some { cls:=.type "list",data:=.seq its.toArray n }:=by
 obtain⟨z,its,n,r,e⟩:=I.hok l _ hH;exact⟨z,its,n,r,r.length,e⟩
end
section
variable{X:Cx}
inductive zfs(x:V)(vs:List V)(H:Hp)(Q:VK):Prop where
 | mk(l)(xs)(y)(_:x=.ref l)(_:vs=[y])(_:H l=some (.lst xs))(_:xs.length<sizeLine)(_:Q .non (upd H l (.lst (xs++[y]))))
theorem zbm:MtM X "list.append" zfs:=by
 intro pins s σ H x vs v us Q I rx rv h;obtain⟨l,xs,y,rfl,rfl,hH,hz,q⟩:=h;cases rx;obtain⟨u,rfl,ru⟩:=rv.one;obtain⟨z,its,n,r,hl,e⟩:=I.lstM hH;refine call_meets F.slot_list_append ⟨_,e,rfl⟩ F.entry_list_append (F.args_list_append_2 _ _) (PySem.list_append l its.toArray n u (by rw[z08];omega)) ⟨e,?_⟩
 refine⟨.non,_,I.lset (its':=its++[u]) hH e (by simp) (r.append (.cons ru .nil)) ?_,rfl,q⟩
 rw[z0w,List.length_singleton];omega
inductive zj0(x:V)(vs:List V)(H:Hp)(Q:VK):Prop where
 | mk(l)(xs)(y)(_:x=.ref l)(_:vs=[])(_:H l=some (.lst xs))(_:xs[xs.length-1]?=some y)(_:Q y (upd H l (.lst xs.dropLast)))
theorem zhm:MtM X "list.pop" zj0:=by
 intro pins s σ H x vs v us Q I rx rv h;obtain⟨l,xs,y,rfl,rfl,hH,hy,q⟩:=h;cases rx;have hus:=rv.zero;subst hus;obtain⟨z,its,n,r,hl,e⟩:=I.lstM hH;obtain⟨u,hu,ru⟩:=r.get hy;have hy':its.toArray[its.toArray.size-1]?=some u:=by
  show its.toArray[its.length-1]?=some u;rw[<- Array.getElem?_toList,<- hl];exact hu
 refine call_meets F.slot_list_pop ⟨_,e,rfl⟩ F.entry_list_pop (F.args_list_pop_1 _) (MeetsSeq.list_pop_last l its.toArray n u hy' (by rw[z08];omega)) ⟨e,?_⟩
 refine⟨y,_,I.lset (its':=its.dropLast) hH e ?_ r.dropLast ?_,ru,q⟩
 ·show its.toArray.eraseIdxIfInBounds (its.toArray.size-1)=its.dropLast.toArray
  rw[z08,List.eraseIdxIfInBounds_toArray,B8]
 ·rw[List.length_dropLast]
  omega
inductive zdn(x:V)(vs:List V)(H:Hp)(Q:VK):Prop where
 | mk(l)(xs)(_:x=.ref l)(_:vs=[])(_:H l=some (.lst xs))(_:Q .non (upd H l (.lst xs.reverse)))
theorem B9:MtM X "list.reverse" zdn:=by
 intro pins s σ H x vs v us Q I rx rv h;obtain⟨l,xs,rfl,rfl,hH,q⟩:=h;cases rx;have hus:=rv.zero;subst hus;obtain⟨z,its,n,r,hl,e⟩:=I.lstM hH;refine call_meets F.slot_list_reverse ⟨_,e,rfl⟩ F.entry_list_reverse (F.args_list_reverse_1 _) (AutoSeq1.list_reverse_list_0 l its.toArray n (by rw[z08];omega)) ⟨e,?_⟩
 refine⟨.non,_,I.lset (its':=its.reverse) hH e (by simp) r.reverse ?_,rfl,q⟩
 rw[List.length_reverse];omega
inductive zj1(x:V)(y:V)(H:Hp)(Q:VK):Prop where
 | mk(l)(b)(xs)(zs)(_:x=.ref l)(_:y=.ref b)(_:H l=some (.lst xs))(_:H b=some (.lst zs))(_:xs.length+zs.length<=sizeLine)(_:∀ p,H p=none->Q (.ref p) (upd H p (.lst (xs++zs))))
theorem Jo:OpR X (binaryOp .Add) zj1:=by
 intro pins s σ H x y v u Q I rx ry h;obtain⟨l,b,xs,zs,rfl,rfl,hH,hB,hz,q⟩:=h;cases rx;cases ry;obtain⟨z,its,n,r,hl,e⟩:=I.lstM hH;obtain⟨z2,its2,n2,r2,hl2,e2⟩:=I.lstM hB;refine PySem.P.add_list e e2 ?_ (by rw[z08,z08];omega)
 have ea:its.toArray++its2.toArray=(its++its2).toArray:=by simp
 rw[ea];exact⟨.ref _,_,I.lnew (t':=s.toks) (r.append r2) (by rw[z0w];omega),rfl,q _ I.fresh⟩
end
section
variable{prog:Program}{w:World}{A:Around}{E:Value->Shared->Prop}{s:Shared}
end
section
variable{X:Cx}
end
end L2
namespace Att
open PySem PySem.W PySem.Calls PyProof.Rows
theorem Kh{P:Params}{h:Heap}:∀ (ns:List Int) (vs:List Value),WellAll P h vs (ns.map WData.int)->IntsAre vs ns:=by
 intro ns
 induction ns with
 | nil =>
   intro vs w;rw[z23] at w
   cases w;exact .nil
 | cons n ns ih =>
   intro vs w;rw[z04] at w
   cases w with
   | cons a b =>
     cases a;exact .cons _ _ (ih _ b)
theorem zbn{l:OpenLaw}{n:Nat}(hn:l.most=some n){P:Params}{h:Heap}{args:List WData}{vals:List Value}
  (hpre:l.row.toRowW.claim.pre args=true) (hwl:WellAll P h vals args) :
  ∃ a vs ns,vals=[Value.ref a]/\args=[WData.list (ns.map WData.int)]/\h.get? a=some { cls:=.type "list",data:=.seq vs.toArray }/\IntsAre vs ns/\ns.length<=n:=by
 have hsh:WShape.hasAll [] args [.list .int]=true:=(pre_splitW hpre).1;have hc:l.pre.holds [] { args:=args }=true:=(pre_splitW hpre).2;obtain⟨d,r,rfl,h1,h2⟩:=hasAllW_cons hsh;obtain rfl:=hasAllW_nil h2;obtain⟨xs,rfl,h3⟩:=hasW_list h1;obtain⟨ns,rfl⟩:=items_int h3;have hlen:ns.length<=n:=by
  unfold OpenLaw.pre at hc
  have h4:(WTm.not (.lt (.lit (.int (n:Int))) (.len (.arg 0)))).holds [] { args:=[.list (ns.map .int)] }=true:=by
   have h4:=(holds_andW hc).1;rw[hn] at h4
   exact h4
  have h5:=condW_of h4 (w_not (w_lt w_lit (w_len_list (w_arg rfl))));rw[z0t] at h5
  refine Nat.le_of_not_lt fun q=>?_
  have q':(n:Int)<((ns.length:Nat):Int):=by omega
  first
   | (rw[z01 q'] at h5;exact absurd h5 (by decide))
   | (simp at h5;omega)
 cases hwl with
 | cons w1 w2 =>
   cases w2;cases w1 with
   | list ho hall=>exact⟨_,_,ns,rfl,rfl,ho,Kh ns _ hall,hlen⟩
theorem zbo(l:OpenLaw)(args:List WData):l.row.toRowW.claim.post args (.bool true) args=true :=
 postW_of (r:=l.row.toRowW) (X:=(true == true))
  (show WShape.has [] (.bool true) .bool=true by first|rfl|decide|simp[WShape.has,WShape.arms,WShape.armsAll])
  (show (WTm.eq .res (.lit (.bool true))).value [] { args:=args,res:=some (.bool true),after:=args }=some (.bool (true == true)) from w_eq_bool (w_res rfl) w_lit) rfl
theorem attach_call{l:OpenLaw}{n:Nat}{q:Program}{loose:List Str}{XP:(Str->Option Value)->Heap->Prop}{YP:World->Heap->Prop}{d:DefRec}
  (hn:l.most=some n) (hdf:d.params.defaults=[])
  (call:∀ (w:World) (s₀ s₁:Shared) (mg mb:Str->Option Value) (fa:Addr) (o:Obj) (pm cd doc:Value) (a:Addr) (vs:List Value) (ns:List Int),
   Ground q loose [] XP w s₀ mg mb s₁.heap->YP w s₁.heap ->
   s₁.heap.get? fa=some o->o.data=.func (docDef d.name d.params d.body d.scope pm cd doc)->s₁.heap.CodeRec cd d.name->mg d.name=some (.ref fa) ->
   s₁.heap.get? a=some { cls:=.type "list",data:=.seq vs.toArray }->IntsAre vs ns->ns.length<=n->s₁.gens=#[] ->
   codeAny (model l.prog w) callerA (.call (.ref fa) ⟨[.ref a],[]⟩) (fun r s'=>r=.ok (.ret (.bool true))/\OldK s₁.heap s'.heap/\s'.os=s₁.os/\AllBare s'.gens) s₁) :
  WalkO q loose XP YP l.row.toRowW d [] (fun f vs=>PySem.call f vs):=by
 intro w s₀ s₁ mg mb G Y fa o pm cd doc dV kV ho hd hcd hD hmg hg args vals as hpre hlay hrd hwl hlo;obtain rfl:dV=.none:=Dflts.none hD hdf;obtain rfl:kV=.none:=Dflts.noKw hD;obtain⟨a,vs,ns,rfl,rfl,hobj,hints,hlen⟩:=zbn hn hpre hwl;refine enter_call (codeAny_mono (call w s₀ s₁ mg mb fa o pm cd doc a vs ns G Y ho (fd_plain hd) hcd hmg hobj hints hlen hg) fun r s' hq=>?_)
 obtain⟨rfl,h2,h3,h4⟩:=hq;exact⟨.inl ⟨.bool true,.bool true,[],rfl,fun _=>rfl,.bool true,zbo l _,fun _=>⟨List.Pairwise.nil,fun _ hm=>(nomatch hm)⟩⟩,h2,h3,h4⟩
section
variable{prog:Program}{w:World}{A:Around}{E:Value->Shared->Prop}{s:Shared}{K:Frag}
end
end Att
namespace L2
open PySem PySem.Spec PyProof.Rows
theorem Fd:∀ {vs:List Value} {ns:List Int},IntsAre vs ns->Vals (ns.map V.int) vs
 | _,_,.nil=>.nil
 | _,_,.cons n t h=>.cons ⟨t,rfl⟩ (Fd h)
noncomputable def zhn(H:Hp):Prop:=∀ b,H b=none\/∃ o xs,H b=some (.frz o (.lst xs))
theorem zdo{P:Program}{w:World}{K:PySem.W.Frag}{mg mb:Str->Option Value}{CX:CXT}{k:Nat}{fa a:Addr}{fd:FuncData}{x:Str}{sp:Sp}{s₁:Shared}{vs:List Value}{ns:List Int}
  (KX:K.In s₁.heap) (hns:s₁.heap.Ns mainGlobals mg) (hb:s₁.heap.Ns builtinsNs mb) (hbb:∀ x:Str,x≠"__name__"->mb x=bootBuiltins x) (hlim:s₁.heap.NoLimit) (hg:s₁.gens=#[])
  (ha:s₁.heap.get? a=some { cls:=.type "list",data:=.seq vs.toArray }) (hi:IntsAre vs ns) (hl:ns.length<=sizeLine) (hr:Vm k callerA)
  (F:∀ base:Heap,K.In base->base.Ns mainGlobals mg->Z6 P w K mg base CX k fa fd [x] sp) (hbind:∀ (s:Shared) (u:Value),BindsTo s fd ⟨[u],[]⟩ [(x,u)])
  (hsp:∀ H:Hp,zhn H->SqL K H a (ns.map V.int)->sp [.ref a] H (fun v _=>v=.bl true) fun _ _ _=>False)
  (hCX:∀ H e s',CX [] H s₁ (fun _ _ _=>False) e s'->False) :
  codeAny (model P w) callerA (.call (.ref fa) ⟨[.ref a],[]⟩) (fun r s'=>r=.ok (.ret (.bool true))/\OldK s₁.heap s'.heap/\s'.os=s₁.os/\AllBare s'.gens) s₁:=by
 have rv:=Fd hi;have lenV:=hi.length;have core:∀ H:Hp,zhn H->SqL K H a (ns.map V.int)->HOk P w H s₁.heap->(∀ b,H b≠none->b=a)->(H a≠none->K.lookup a=none) ->
   codeAny (model P w) callerA (.call (.ref fa) ⟨[.ref a],[]⟩) (fun r s'=>r=.ok (.ret (.bool true))/\OldK s₁.heap s'.heap/\s'.os=s₁.os/\AllBare s'.gens) s₁:=by
  intro H hO hS hok hA hK;have base_of:∀ {b:Addr} {o:Obj},s₁.heap.get? b=some o->H b=none->(Eb s₁.heap H).get? b=some o:=fun e n=>zcv e n
  have noA:∀ {b:Addr} {o:Obj} {es:Array DictEntry} {ep:Nat},s₁.heap.get? b=some o->o.data=.dict es ep->H b=none:=fun {b o es ep} e d=>by
   cases q:H b with
   | none=>rfl
   | some u =>
     have e':b=a:=hA b (by rw[q];simp)
     subst e';rw[ha] at e;cases e
     have d':Data.seq vs.toArray _=Data.dict es ep:=d;cases d'
  have nsK:∀ {b:Addr} {m:Str->Option Value},s₁.heap.Ns b m->(Eb s₁.heap H).Ns b m:=fun {b m} ⟨o,es,ep,e,d,r⟩=>⟨o,es,ep,base_of e (noA e d),d,r⟩
  have hKb:K.In (Eb s₁.heap H):=fun b o e=>base_of (KX b o e) (by
   cases q:H b with
   | none=>rfl
   | some u =>
     have e':b=a:=hA b (by rw[q];simp)
     subst e';rw[hK (by rw[q];simp)] at e;cases e)
  have hM:Mod K mg (Eb s₁.heap H):=⟨hKb,nsK hns,⟨mb,nsK hb,hbb⟩,let ⟨mc,h1,h2⟩:=hlim;⟨mc,nsK h1,h2⟩⟩;have e0:B1 P w K mg (Eb s₁.heap H) callerA [] s₁ H:=⟨rfl,hM,fun b o e=>ze7 e,Nat.le_of_eq (zbb _ _),trivial,fun b hb=>absurd (show b∈([]:List Addr) from hb) (by simp),hok,.of_eq hg⟩
  refine codeAny_mono ((F _ hKb (nsK hns)).run callerA [] s₁ H ⟨[.ref a],[]⟩ [.ref a] [.ref a] _ _ hr e0 (hbind s₁ (.ref a)) (.cons rfl .nil) (hsp H hO hS)) fun r s' h=>?_
  cases r with
  | error e=>exact(hCX H e s' h).elim
  | ok fl =>
    cases fl with
    | next=>exact False.elim h
    | brk=>exact False.elim h
    | cont=>exact False.elim h
    | ret u =>
      obtain⟨v,H',os,bare,un,hok',r',q⟩:=h;have q':v=.bl true:=q;subst q';obtain rfl:u=Value.bool true:=r';refine⟨rfl,OldK.of_keep fun b o e=>?_,os,bare⟩
      cases q:H b with
      | none=>exact un.keep b o e q (by intro z;exact absurd (show b∈([]:List Addr) from z) (by simp)) (by simp)
      | some u =>
        rcases hO b with z|⟨ob,xs,z⟩
        ·rw[q] at z;cases z
        ·have z2:=un.frzs b ob _ z
         obtain⟨e1,_⟩:=hok b _ z;obtain⟨e2,_⟩:=hok' b _ z2;rw[e] at e1;cases e1
         exact e2
 cases hk:K.lookup a with
 | some o =>
   have e:=KX a o hk;rw[ha] at e
   cases e;refine core (fun _=>none) (fun _=>.inl rfl) (.inr ⟨_,vs.toArray,_,hk,rfl,rfl,rfl,by rw[z08,lenV];exact hl,by simpa using rv⟩) (fun b u z=>by have z':(none:Option HO)=some u:=z;cases z') (fun b z=>absurd rfl z) fun z=>absurd rfl z
 | none =>
   refine core (fun b=>if b=a then some (.frz { cls:=.type "list",data:=.seq vs.toArray } (.lst (ns.map V.int))) else none) (fun b=>?_) (.inl (.inr ⟨{ cls:=.type "list",data:=.seq vs.toArray },if_pos rfl⟩)) (fun b u z=>?_) (fun b z=>?_) fun _=>hk
   ·by_cases hb:b=a
    ·exact .inr ⟨_,_,if_pos hb⟩
    ·exact .inl (if_neg hb)
   ·by_cases hb:b=a
    ·have z':=(if_pos hb).symm.trans z
     cases z';subst hb;exact⟨ha,by rw[z0t];exact hl,vs,_,rv,ha⟩
    ·have z':=(if_neg hb).symm.trans z
     cases z'
   ·by_cases hb:b=a
    ·exact hb
    ·exact absurd (if_neg hb) z
theorem zft{l:PySem.W.OpenLaw}{n k:Nat}{q:Program}{loose:List Str}{XP:(Str->Option Value)->Heap->Prop}{YP:World->Heap->Prop}{d:DefRec}{K:Params->PySem.W.Frag}{CX:World->CXT}{sp:World->Sp}{x:Str}
  (hn:l.most=some n) (hn2:n<=sizeLine) (hdf:d.params.defaults=[]) (hr:Vm k callerA)
  (hY:∀ (w:World) (h:Heap),YP w h->(K w.params).In h)
  (F:∀ (w:World) (mg:Str->Option Value) (fa:Addr) (h:Heap),(K w.params).In h->h.Ns mainGlobals mg->mg d.name=some (.ref fa) ->
   ∃ fd:FuncData,(∀ (s:Shared) (u:Value),BindsTo s fd ⟨[u],[]⟩ [(x,u)]) /\
     ∀ base:Heap,(K w.params).In base->base.Ns mainGlobals mg->Z6 l.prog w (K w.params) mg base (CX w) k fa fd [x] (sp w))
  (hsp:∀ (w:World) (H:Hp) (a:Addr) (ns:List Int),ns.length<=n->zhn H->SqL (K w.params) H a (ns.map V.int)->sp w [.ref a] H (fun v _=>v=.bl true) fun _ _ _=>False)
  (hCX:∀ (w:World) (H:Hp) (s:Shared) (e:Value) (s':Shared),CX w [] H s (fun _ _ _=>False) e s'->False) :
  PySem.W.WalkO q loose XP YP l.row.toRowW d [] (fun f vs=>PySem.call f vs):=by
 refine Att.attach_call hn hdf fun w s₀ s₁ mg mb fa o pm cd doc a vs ns G Y ho hd hcd hmg hobj hints hlen hg=>?_
 have KX:=hY w _ Y;obtain⟨fd,hb,hF⟩:=F w mg fa _ KX G.T.g hmg;exact zdo KX G.T.g G.T.b G.T.builtins G.T.nolimit hg hobj hints (z09 hlen hn2) hr hF hb (fun H hO hS=>hsp w H a ns hlen hO hS) fun H e s'=>hCX w H s₁ e s'
noncomputable def Z4(s:Stmt)(j:Nat):Stmt:=match s with
 | .ClassDef _ _ _ body _ _ _ _ _ _ _=>body.getD j (.Pass ⟨0,0,0,0⟩)
 | _=>.Pass ⟨0,0,0,0⟩
noncomputable def Sl(s:Stmt):Arguments:=match s with
 | .FunctionDef _ a _ _ _ _ _ _ _ _=>a
 | _=>{ posonlyargs:=[],args:=[],vararg:=none,kwonlyargs:=[],kw_defaults:=[],kwarg:=none,defaults:=[] }
noncomputable def Zt(s:Stmt):List Stmt:=match s with
 | .FunctionDef _ _ b _ _ _ _ _ _ _=>b
 | _=>[]
noncomputable def Zj(s:Stmt):Scope:=match s with
 | .FunctionDef _ _ _ _ _ _ sc _ _ _=>sc
 | _=>{ kind:=.function,names:=[],isGenerator:=false,isCoroutine:=false }
noncomputable abbrev E0:XK:=fun _ _ _=>False
structure Fun(K:PySem.W.Frag)(x qual:Str)(st:Stmt)(f:Addr)(fd:FuncData):Prop where
 ex:∃ (oc:Value) (od:Option Addr) (kV doc pm:Value) (an:Option Addr) (cdv ct:Value) (osl:Array (Option Value)),
  fd=PySem.W.fnOf x qual (Sl st) (Zt st) (Zj st) .none kV doc pm an cdv ct/\K.lookup f=some ⟨oc,od,.func fd,osl⟩/\PySem.W.codeIn K cdv qual=true
 kp:PySem.W.keepIn K (.ref f)=true
section
variable{P:Program}{w:World}{K:PySem.W.Frag}{mg:Str->Option Value}{base:Heap}
theorem Fun.binds{x qual:Str}{st:Stmt}{f:Addr}{fd:FuncData}{ps:List Str}(F:Fun K x qual st f fd)
  (h:∀ (kV doc pm:Value) (an:Option Addr) (cdv ct:Value) (us:List Value),us.length=ps.length->bindArgs (PySem.W.fnOf x qual (Sl st) (Zt st) (Zj st) .none kV doc pm an cdv ct) ⟨us,[]⟩=pure (ps.zip us)):Rb K fd ps []:=by
 obtain⟨oc,od,kV,doc,pm,an,cdv,ct,osl,rfl,lk,hcd⟩:=F.ex;exact .all (h kV doc pm an cdv ct)
theorem Zq{x qual:Str}{st:Stmt}{f:Addr}{oc:Value}{od an:Option Addr}{osl:Array (Option Value)}{kV doc pm cdv ct:Value}(l:K.lookup f=some ⟨oc,od,.func (PySem.W.fnOf x qual (Sl st) (Zt st) (Zj st) .none kV doc pm an cdv ct),osl⟩)
  (c:PySem.W.codeIn K cdv qual=true) (k:PySem.W.keepIn K (.ref f)=true):Fun K x qual st f (PySem.W.fnOf x qual (Sl st) (Zt st) (Zj st) .none kV doc pm an cdv ct):=⟨⟨oc,od,kV,doc,pm,an,cdv,ct,osl,rfl,l,c⟩,k⟩
end
theorem Wm{A:Around}{k:Nat}(hr:Vm k A):A.units+1<cLine:=z16 (Nat.add_le_add_left (by decide:1<=64) _) hr.units
theorem T9{n:Nat}(h:n<=1000):n<sizeLine:=z16 h (by decide)
section
variable{X:Cx}
theorem pv(i:Nat){x:Str}{pos:Pos}(hN:X.N[i]?=some x:=by rfl)(hv:Vis X.env.scope x:=by first|exact Or.inl rfl|exact Or.inr (Or.inl rfl)|exact Or.inr (Or.inr rfl))(hd:(x == ("__debug__":Str))=false:=by decide)
  (hcd:(x == ("__classdict__":Str))=false:=by decide):PE X (.Name x pos) (ze8 i):=zgu hN hv hd hcd
theorem zbp:Ux X (.builtin "len") (fun xs H Q=>∃ a kvs,xs=[V.ref a]/\H a=some (.dK kvs)/\Q (.int kvs.length) H):=by
 intro pins s σ H xs us Q I r h;obtain⟨a,kvs,rfl,ha,q⟩:=h;obtain⟨u,rfl,ru⟩:=Qo r;cases ru;exact ziy I (.inl ha) fun t s' I'=>⟨.int kvs.length,H,I',⟨t,rfl⟩,q⟩
end
theorem iteF{A B:Prop}(h:B):if false=true then A else B:=by
 rw[if_neg z1d];exact h
theorem iteT{A B:Prop}(h:A):if true=true then A else B:=by
 rw[if_pos rfl];exact h
theorem Hu{c A B:Prop}[Decidable c](h1:c->A)(h2:¬ c->B):if c then A else B:=by
 by_cases h:c
 ·rw[if_pos h]
  exact h1 h
 ·rw[if_neg h]
  exact h2 h
noncomputable def Same(H H':Hp):Prop:=∀ b o,H b=some o->H' b=some o
theorem Same.refl(H:Hp):Same H H:=fun _ _ h=>h
theorem Same.trans{H H1 H2:Hp}(a:Same H H1)(b:Same H1 H2):Same H H2:=fun c o h=>b c o (a c o h)
theorem Same.free{H H':Hp}(e:Same H H'){l:Addr}(h:H' l=Option.none):H l=Option.none:=by
 cases q:H l with
 | none=>rfl
 | some o =>
   rw[e l o q] at h
   cases h
theorem Same.seq{K:PySem.W.Frag}{H H':Hp}{a:Addr}{xs:List V}(e:Same H H')(h:SqL K H a xs):SqL K H' a xs:=by
 rcases h with (h|⟨o,h⟩)|h
 ·exact .inl (.inl (e _ _ h))
 ·exact .inl (.inr ⟨o,e _ _ h⟩)
 ·exact .inr h
section
variable{κ:Type}[DecidableEq κ]
theorem Ej:∀ {l:List κ} {k:κ},l.Nodup->¬ k∈l->(l++[k]).Nodup
 | [],k,_,_=>by simp
 | a :: r,k,h,hk=>by
   obtain⟨h1,h2⟩:=z1i.mp h;show (a :: (r++[k])).Nodup;refine z1i.mpr ⟨fun m=>?_,Ej h2 fun m=>hk (z00.mpr (Or.inr m))⟩
   rcases z06.mp m with q|q
   ·exact h1 q
   ·exact hk (z00.mpr (Or.inl (z0z.mp q).symm))
theorem zbq{p:κ×V}{r:List (κ×V)}{k:κ}(e:p.1=k):Wc (p :: r) k=Wc r k:=by
 unfold Wc;rw[z2d,if_neg (by simp[e])]
theorem zbr{p:κ×V}{r:List (κ×V)}{k:κ}(e:¬ p.1=k):Wc (p :: r) k=p :: Wc r k:=by
 unfold Wc;rw[z2d,if_pos (by simp[e])]
end
section
variable{X:Cx}{pins:List (Addr×Obj)}{σ:List (Option V)}{H H':Hp}{s:Shared}{h':Heap}
end
section
variable{P:Program}{w:World}{H H':Hp}{h h' g:Heap}{a:Addr}{o:HO}
theorem Xa.there(x:Xa P w H h a o):∃ ob,h.get? a=some ob:=by
 cases o with
 | lst xs=>obtain⟨_,_,_,_,e⟩:=x;exact⟨_,e⟩
 | tup xs=>obtain⟨_,_,_,ob,e,_⟩:=x;exact⟨_,e⟩
 | dK kvs=>obtain⟨_,_,_,_,o,_,_,e,_⟩:=x;exact⟨_,e⟩
 | dT kvs=>obtain⟨_,_,_,_,o,_,_,e,_⟩:=x;exact⟨_,e⟩
 | set S n=>obtain⟨o,_,_,_,e,_⟩:=x;exact⟨_,e⟩
 | ins C dx fs=>obtain⟨_,_,_,e,_⟩:=x;exact⟨_,e⟩
 | own y=>obtain⟨_,e⟩:=x;exact⟨_,e⟩
 | xd fs=>obtain⟨_,⟨_,_,_,e,_⟩,_⟩:=x;exact⟨_,e⟩
 | rng lo hi=>obtain⟨_,_,_,e⟩:=x;exact⟨_,e⟩
 | frz ob u=>obtain⟨e,_⟩:=x;exact⟨_,e⟩
 | tbl ps=>exact⟨_,(show h.get? a=some _ from x)⟩
 | met f y=>exact⟨_,(show h.get? a=some _ from x)⟩
 | ext φ=>obtain⟨_,⟨_,e⟩,_⟩:=x;exact⟨_,e⟩
theorem HOk.none_of(x:HOk P w H h)(e:h.get? a=none):H a=none:=by
 cases q:H a with
 | none=>rfl
 | some u =>
   obtain⟨_,z⟩:=(x a u q).there;rw[e] at z;cases z
theorem D5{as:List Addr}(e:(PySem.W.hideAll h as).get? a=none):h.get? a=none\/a∈as:=by
 by_cases m:a∈as
 ·exact .inr m
 ·cases q:h.get? a with
  | none=>exact .inl rfl
  | some o=>rw[PySem.W.hideAll_get as q m] at e;cases e
end
structure Fly(g:Heap)(H:Hp)(h:Heap)(e T:Addr)(cls:Value):Prop where
 ex:∃ oe vs oT ts,h.get? e=some oe/\oe.cls=cls/\oe.data=.fields vs/\vs[1]?=some (.ref T)/\T≠e/\h.get? T=some oT/\oT.data=.fields ts/\ts[3]?=some .none
 newE:g.get? e=none
 newT:g.get? T=none
 freeE:H e=none
 freeT:H T=none
noncomputable def CX1(P:Program)(w:World):CXT:=fun outer H s E e s'=>∃ a T cls H',e=.ref a/\s'.os=s.os/\AllBare s'.gens/\Un (frs outer) [] H H' s.heap s'.heap/\HOk P w H' s'.heap/\Fly s.heap H' s'.heap a T cls/\E cls none H'
section
variable{X:Cx}{pins:List (Addr×Obj)}{σ:St}{H H':Hp}{s s':Shared}{h':Heap}{e T:Addr}{cls:Value}
structure Of(X:Cx)(ch:List Addr)(h h':Heap):Prop where
 keep:∀ b o,h.get? b=some o->b∉ch->b∉frs X.stack->h'.get? b=some o
 slot:∀ b o,h.get? b=some o->b∉ch->b∈frs X.stack->∃ sl,h'.get? b=some { o with slots:=sl }
theorem Of.of{as:List Addr}(I:Inv X pins σ H s)(st:(PySem.W.hideAll s.heap (as++frs X.stack)).StaysIn h')(up:s.heap.UpToSlots h'):Of X as s.heap h' where
 keep:=fun b o q n1 n2=>st b o (PySem.W.hideAll_get _ q (by simp[n1,n2]))
 slot:=fun b o q _ m=>by
  obtain⟨_,o',ho,nf⟩:=I.stack.mem m;rw[q] at ho;cases ho
  exact up b o q nf
theorem Of.hok{ch:List Addr}(I:Inv X pins σ H s)(t:Of X ch s.heap h')(hch:∀ b∈ch,H b=none):HOk X.prog X.w H h':=fun b u q=>by
 have tr:∀ c v,H c=some v->c∉ch/\c∉frs X.stack:=fun c v z=>⟨(fun m=>by rw[hch c m] at z;cases z),(fun m=>by rw[I.stkFree c m] at z;cases z)⟩
 refine(I.hok b u q).stay (fun c v hc r=>?_) (fun _ z=>z) fun _ _ z=>z
 rcases hc with z|z
 ·subst z;exact t.keep c v r (tr c u q).1 (tr c u q).2
 ·exact t.keep c v r (tr c _ z).1 (tr c _ z).2
theorem Inv.raised(I:Inv X pins σ H s)(ho:s'.os=s.os)(hg:AllBare s'.gens)(u:Un (frs X.stack) [] H H' s.heap s'.heap)(hok:HOk X.prog X.w H' s'.heap):Inv X pins σ H' s' :=
 I.call' ho u hok hg (fun _ z=>nomatch z)
theorem Fly.flying{g:Heap}{l:List Env}(J:Inv X pins σ H s)(hl:s.heap.FunFrames X.base l)(hsub:∀ b∈frs l,b∈frs X.stack)(F:Fly g H s.heap e T cls) :
  ∃ a0,Heap.FlyingW (PySem.W.hideAll s.heap ([e,T]++frs X.stack)) l e cls a0 s.heap:=by
 obtain⟨oe,vs,oT,ts,e1,e2,e3,e4,e5,e6,e7,e8⟩:=F.ex;have sz:0<vs.size:=z16 (z1j _) (Array.getElem?_eq_some_iff.mp e4).1;refine⟨vs[0],fun b o q=>PySem.W.of_hideAll _ q,PySem.W.hideAll_none _ (by simp),PySem.W.funFrames_hide hl fun env he a ha=>?_,oe,vs,T,oT,ts,e1,⟨e2,?_⟩,e3,e4,PySem.W.hideAll_none _ (by simp),e5,e6,e7,e8⟩
 ·have:a∈frs l:=z21.mpr ⟨env,he,ha⟩
  simp[hsub a this]
 ·exact Array.getElem?_eq_getElem sz
theorem Fly.again{g:Heap}{a0:Value}(J:Inv X pins σ H s)(F:Fly g H s.heap e T cls)(hg:∀ b,s.heap.get? b=none->g.get? b=none)
  (up:s.heap.UpToSlots h') (st:(PySem.W.hideAll s.heap ([e,T]++frs X.stack)).StaysIn h') (tr:h'.TracedW (PySem.W.hideAll s.heap ([e,T]++frs X.stack)) e cls a0):∃ T',Fly g H h' e T' cls:=by
 obtain⟨oe,vs,T',oT,ts,f1,⟨f2,_⟩,f3,f4,f5,f6,f7,f8,f9⟩:=tr;refine⟨T',⟨oe,vs,oT,ts,f1,f2,f3,f4,f6,f7,f8,f9⟩,F.newE,?_,F.freeE,?_⟩
 all_goals
  rcases D5 f5 with z|z
  ·first
    | exact hg _ z
    | exact J.hok.none_of z
  ·simp only[z06,z00,z10,or_false] at z
   rcases z with (z|z)|z
   ·exact absurd z f6
   ·subst z
    first
     | exact F.newT
     | exact F.freeT
   ·obtain⟨_,o,ho,nf⟩:=J.stack.mem z
    obtain⟨sl,q⟩:=up T' o ho nf;rw[f7] at q
    cases q;exact absurd f8 (nf _)
end
section
variable{P:Program}{w:World}{K:PySem.W.Frag}{mg:Str->Option Value}{base:Heap}{N:List Str}{qual:Str}{scope:Scope}{f:Addr}{cd:Value}{A:Around}{outer:List Env}{s0:Shared}{H0:Hp}{E:XK}
 {pins:List (Addr×Obj)} {σ:St} {H H':Hp} {s s':Shared} {h':Heap} {e T:Addr} {cls:Value}
theorem D6{X:Cx}{ch:List Addr}(hx:X.ex=[])(J:Inv X pins σ H s)(hst:X.stack=X.env :: X.outer)(hf:X.env.frame=some X.env.locals)(t:Of X ch s.heap h')(hch:∀ b∈ch,X.s₀.heap.get? b=none) :
  Un X.fs [] X.H₀ H X.s₀.heap h':=by
 have nb:∀ b o,X.s₀.heap.get? b=some o->b∉ch:=fun b o q m=>by rw[hch b m] at q;cases q
 have mem:∀ b,b∈frs X.stack↔b=X.env.locals\/b∈X.fs:=fun b=>by
  unfold Cx.fs frs;rw[hst,z2x,hf];exact z00
 have neL:∀ b o,X.s₀.heap.get? b=some o->b≠X.env.locals:=fun b o q=>z1k (z1c (Heap.lt_size q) J.ok.above)
 have nx:∀ b:Addr,b∉X.ex:=fun b=>by rw[hx];simp
 refine⟨fun b o q n hb _=>?_,fun b o q n hb _=>?_,fun b o q n _=>J.base.free b o q n (nx b),fun b o q _=>?_,J.base.tups,J.base.frzs,J.base.tbls⟩
 ·refine t.keep b o (J.base.keep b o q n hb (nx b)) (nb b o q) fun m=>?_
  exact((mem b).mp m).elim (neL b o q) hb
 ·obtain⟨sl,z⟩:=J.base.slot b o q n hb (nx b)
  obtain⟨sl',z'⟩:=t.slot b _ z (nb b o q) ((mem b).mpr (.inr hb));exact⟨sl',z'⟩
 ·obtain⟨o',z⟩:=J.base.there b o q (nx b)
  by_cases m:b∈frs X.stack
  ·obtain⟨_,z'⟩:=t.slot b o' z (nb b o q) m;exact⟨_,z'⟩
  ·exact⟨o',t.keep b o' z (nb b o q) m⟩
theorem Zk:Vu (CX1 P w) (cxOf (CX1 P w) P w K mg base N qual scope f cd A outer s0 H0 E) E:=by
 intro pins σ H s ev s' I h;obtain⟨a,T,cls,H',q0,ho,hg,u,hok,F,hE⟩:=h;subst q0;have J:=I.raised ho hg u hok;obtain⟨a0,hfl⟩:=F.flying J J.stack (fun _ z=>z)
 refine wpAny_leaves_onW (base:=PySem.W.hideAll s'.heap ([a,T]++frs _)) J.ok.frames rfl hfl fun h2 hfl2 up=>?_
 have old:∀ b,s.heap.get? b=none->s0.heap.get? b=none:=fun b n=>by
  cases q:s0.heap.get? b with
  | none=>rfl
  | some o =>
    obtain⟨_,z⟩:=I.base.there b o q (by show b∉([]:List Addr);simp)
    rw[n] at z;cases z
 have old2:∀ b,s'.heap.get? b=none->s0.heap.get? b=none:=fun b n=>by
  cases q:s0.heap.get? b with
  | none=>rfl
  | some o =>
    obtain⟨_,z⟩:=J.base.there b o q (by show b∉([]:List Addr);simp)
    rw[n] at z;cases z
 have t:=Of.of (as:=[a,T]) J hfl2.1 up;have F0:Fly s0.heap H' s'.heap a T cls:=⟨F.ex,old _ F.newE,old _ F.newT,F.freeE,F.freeT⟩;obtain⟨T',F'⟩:=F0.again J old2 up hfl2.1 hfl2.2.2.2;refine⟨a,T',cls,H',rfl,J.os,J.bare,D6 rfl J rfl rfl t ?_,t.hok J ?_,F',hE⟩
 ·intro b hb
  rcases z00.mp hb with rfl|hb
  ·exact F0.newE
  ·rcases z00.mp hb with rfl|hb
   ·exact F0.newT
   ·cases hb
 ·intro b hb
  rcases z00.mp hb with rfl|hb
  ·exact F.freeE
  ·rcases z00.mp hb with rfl|hb
   ·exact F.freeT
   ·cases hb
noncomputable def zgl(X:Cx)(E:XK):Prop:=∀ (pins:List (Addr×Obj)) (σ:St) (H:Hp) (s:Shared) (h':Heap) (e C:Addr) (args:List Value),Inv X pins σ H s->Heap.MadeExcOf s.heap h' e (.ref C) args->E (.ref C) none H->X.xe (.ref e) { s with heap:=h' }
theorem Xe:zgl (cxOf (CX1 P w) P w K mg base N qual scope f cd A outer s0 H0 E) E:=by
 intro pins σ H s h1 e C args I hm hE;refine wpAny_leaves_madeW (base:=PySem.W.hideAll s.heap ([]++frs _)) (h:=s.heap) I.ok.frames rfl (fun b o q=>PySem.W.of_hideAll _ q)
  (PySem.W.funFrames_hide I.stack fun env he a ha=>by
   have:a∈frs _:=z21.mpr ⟨env,he,ha⟩
   simpa using this) hm fun h2 t hfl _ _ up=>?_
 have up2:s.heap.UpToSlots h2:=(Heap.UpToSlots.of_keeps hm.keeps).trans up;have tt:=Of.of (as:=[]) I hfl.1 up2;have old2:∀ b,s.heap.get? b=none->s0.heap.get? b=none:=fun b n=>by
  cases q:s0.heap.get? b with
  | none=>rfl
  | some o =>
    obtain⟨_,z⟩:=I.base.there b o q (by show b∉([]:List Addr);simp)
    rw[n] at z;cases z
 obtain⟨oe,vs,T',oT,ts,f1,⟨f2,_⟩,f3,f4,f5,f6,f7,f8,f9⟩:=hfl.2.2.2;have nT:s.heap.get? T'=none:=by
  rcases D5 f5 with z|z
  ·exact z
  ·have z':T'∈frs (cxOf (CX1 P w) P w K mg base N qual scope f cd A outer s0 H0 E).stack:=(z06.mp z).resolve_left (by simp)
   obtain⟨_,o,ho,nf⟩:=I.stack.mem z';obtain⟨sl,q⟩:=up2 T' o ho nf;rw[f7] at q
   cases q;exact absurd f8 (nf _)
 refine⟨e,T',.ref C,H,rfl,I.os,I.bare,D6 rfl I rfl rfl tt (fun _ z=>nomatch z),tt.hok I (fun _ z=>nomatch z),⟨⟨oe,vs,oT,ts,f1,f2,f3,f4,f6,f7,f8,f9⟩,old2 _ hm.new,old2 _ nT,I.hok.none_of hm.new,I.hok.none_of nT⟩,hE⟩
end
structure Qg(K:PySem.W.Frag)(mg:Str->Option Value)(x:Str)(C:Addr):Prop where
 nm:mg x=some (.ref C)
 ex:PySem.W.excIn K C [.type "ValueError",.type "Exception",.type "BaseException",.type "object"] "ValueError.__new__"=true
theorem Qg.own{K:PySem.W.Frag}{mg:Str->Option Value}{x:Str}{C:Addr}{h:Heap}(c:Qg K mg x C)(X:K.In h):OwnCls x C [.type "ValueError",.type "Exception",.type "BaseException",.type "object"] "ValueError.__new__" mg h:=by
 refine⟨c.nm,?_⟩;have q:=c.ex;unfold PySem.W.excIn at q
 split at q
 ·rename_i dd cd sl ho
  split at q
  ·rename_i C' bm k0 k1 k2 k3 n k5 hm hs
   simp only[z17,beq_iff_eq,Bool.not_eq_true'] at q
   obtain⟨⟨⟨⟨⟨rfl,rfl⟩,hdel⟩,ht⟩,hok⟩,hni⟩:=q;obtain⟨nm,bs,mro,ns,qn,hd,sn,sub,ab,col,del⟩:=cd;dsimp only at hm hdel hok hni
   subst hm hdel;have hsl:sl=#[k0,k1,k2,k3,some (.builtin "ValueError.__new__"),k5]:=by
    obtain⟨l⟩:=sl;simp only at hs
    rw[hs]
   subst hsl;exact⟨bm,ns,nm,qn,bs,hd,sn,sub,ab,col,dd,k0,k1,k2,k3,k5,_,X _ _ ho,.of_isNs (PySem.W.isNs_of_in X hok),PySem.W.nsMap_none_of_in X hok hni,PySem.W.tail_of_in X ht⟩
  ·cases q
 ·cases q
inductive zfu(C:Addr)(E:XK)(vs:List V)(H1:Hp):Prop where
 | mk(_:vs.length<=sizeLine)(_:E (.ref C) none H1)
noncomputable def zho(C:Addr)(E:XK)(t:TA):TS:=fun _ σ H=>t σ H fun vs H1=>zfu C E vs H1
theorem Xf{X:Cx}{x:Str}{C:Addr}{E:XK}{e₀:Expr}{rest:List Expr}{t:TA}{np cpos pos:Pos}(hl:zgl X E)(hc:X.calm=true)(c:Qg X.K X.mg x C)(hg:Gl X x)(ha:PA X (e₀ :: rest) t)
  (he:starEach (e₀ :: rest) X.env=(false,eval e₀ X.env) :: starEach rest X.env:=by rfl) (hplain:(backTo cpos (starEach rest X.env)).any (·.1)=false:=by rfl) (hd:(x == ("__debug__":Str))=false:=by decide) :
  PS X (.Raise (some (.Call (.Name x np) (e₀ :: rest) [] cpos)) none pos) (zho C E t):=by
 intro pins s σ H D I h;have O:=c.own I.mod.kin;obtain⟨tl,N,nm,q,bs,hdct,sn,sub,ab,col,dd,k0,k1,k2,k3,k5,mN,hC,hN,hni,T⟩:=O.obj;refine wpAny_Raise_call_subT (C:=C) (nm:=nm) (q:=q) (N:=N) (bs:=bs) (bm:=tl) (hdct:=hdct) (sn:=sn) (sub:=sub) (ab:=ab) (col:=col) (dd:=dd) (k0:=k0) (k1:=k1) (k2:=k2) (k3:=k3) (k5:=k5)
  PySem.F.excBase_ValueError (mN:=mN) (T.hasType (by rfl)) (I.ok.hd hc) (by rw[he];show (false||(backTo cpos (starEach rest X.env)).any (·.1))=false;rw[hplain];rfl) hni (O8 I hg c.nm ⟨rfl,?_⟩ hd)
 have hp:=ha cpos pins s σ H _ I h;rw[he] at hp ⊢
 refine Calls.evalArgs_plain (wpAny_mono hp (fun us s2 h2=>?_) fun _ _ y=>y)
 obtain⟨vs,H1,I1,r,hlen,hE⟩:=h2;exact⟨rfl,by rw[<- r.length];exact hlen,I1.bk _ _ hC,hN.keeps I1.bk,T.keeps I1.bk,fun h' e hm=>hl _ _ _ _ _ _ _ _ I1 hm hE⟩
structure zka(K:PySem.W.Frag)(CB:Addr):Prop where
 ty:PySem.W.typeIn K (.ref CB)=some (.type "type")
 cl:(PySem.W.clsIn K CB).isSome=true
 bx:PySem.W.mroIn K CB (.type "BaseException")=some true
end L2
namespace L2
open PySem PySem.Spec PyProof.Rows PySem.W PySem.Calls PySem.Builtin PySem.Builtin.ObjectAttr PySem.Builtin.Getset_descriptor
noncomputable def zi8(a:Addr)(cls:Value):HO:=.ext fun h=>∃ o vs,h.get? a=some o/\o.cls=cls/\o.data=.fields vs
structure zbs(K:Frag)(D:Addr):Prop where
 ga:findIn K (.ref D) "__getattribute__"=some (some (.builtin "BaseException.__getattribute__"))
 gk:findIn K (.ref D) "__getattr__"=some none
 cl:(clsIn K D).isSome=true
 at_:findIn K (.ref D) "__class__"=some (some (.builtin "object.__class__"))
 gt:specialIn K (.builtin "object.__class__") "__get__"=some (some (.builtin "getset_descriptor.__get__"))
 tk:takesIn K (.builtin "object.__class__")=some true
 mo:mroIn K D (.type "object")=some true
 mx:mroIn K D (.type "BaseException")=some true
section
variable{prog:Program}{w:World}{A:Around}{E:Value->Shared->Prop}{s:Shared}{K:Frag}{x D:Addr}
theorem zdp{M:Model}{h:Heap}(X:K.In h)(c:zbs K D):Looks M h (find (.ref x) (.ref D) "__class__") (.bind (.builtin "getset_descriptor.__get__") (.builtin "object.__class__")):=by
 have L1:=looks_findIn (M:=M) X c.at_;have L2:Looks M h (getOf (some (.builtin "object.__class__"))) (some (.builtin "getset_descriptor.__get__")):=looks_specialIn X c.gt;have L3:=looks_takesIn (M:=M) X c.tk;exact L1.andThen (L2.andThen ((show Looks M h (dataDescriptor? (some (.builtin "object.__class__")) (some (.builtin "getset_descriptor.__get__"))) (some (.builtin "getset_descriptor.__get__",.builtin "object.__class__")) from L3.andThen .now).andThen (Looks.tag .now)))
theorem Aa{o:Obj}{R:Result->Shared->Prop}(X:K.In s.heap)(hx:s.heap.get? x=some o)(hc:o.cls=.ref D)(c:zbs K D)(q:R (.ok (.ret (.ref D))) s) :
  codeAny (model prog w) A (.call (.builtin "getset_descriptor.__get__") ⟨[.builtin "object.__class__",.ref x,.ref D],[]⟩) R s:=by
 obtain⟨hh,g,d,t,os⟩:=s;have L0:Looks (model prog w) hh (typeOf (.ref x)) (.ref D):=hc▸(Looks.ld hx).andThen .now;have Lm:=looks_mroIn (M:=model prog w) X c.mo;refine codeAny_call_builtin KF.slot_gs.plain KF.entry_gs (KF.slot_gs.check _ _ _ _ _ _ _ _ KF.type_class (KF.args_gs _ _ _) ?_);unfold Builtin.«getset_descriptor.__get__» descrGet;rw[dga_obj];refine wpAny_bind (wpAny_pure ?_);unfold descrGetter descrCheckInstance descrNameAndClass isInstance;simp only[KF.owner_class]
 repeat lk
 refine⟨Code.quiet_builtin _ (by decide +kernel),codeAny_builtin KF.entry_class ?_⟩
 unfold Builtin.«object.__class__» shownTypeOf
 repeat lk
 exact q
theorem zhp{o:Obj}{tk:Tok}{Q:Fin->Shared->Prop}(X:K.In s.heap)(hx:s.heap.get? x=some o)(hc:o.cls=.ref D)(c:zbs K D)(q:Q (.done (.ret (.ref D))) s) :
  wpAny (model prog w) A (Builtin.«object.__getattribute__» ⟨[.ref x,.str "__class__" tk],[]⟩) Q E s:=by
 have L0:Looks (model prog w) s.heap (typeOf (.ref x)) (.ref D):=hc▸(Looks.ld hx).andThen .now;have Lf:=zdp (x:=x) (M:=model prog w) X c;have e1:slotArgs "__getattribute__" 1 ⟨[.ref x,.str "__class__" tk],[]⟩=pure (.ref x,[.str "__class__" tk]):=rfl;unfold Builtin.«object.__getattribute__»;rw[e1];refine wpAny_bind (wpAny_pure ?_);refine wpAny_bind (show wpAny _ _ (attrName (.str "__class__" tk)) _ _ _ from wpAny_pure ?_)
 obtain⟨hh,g,d,t,os⟩:=s;refine wpAny_bind (L0.at (wpAny_bind (Lf.at ?_)))
 show wpAny _ _ (bindTo _ _ _ _) _ _ _;unfold bindTo;dsimp only;refine wpAny_bind (wpAny_holding (wpAny_call (Aa X hx hc c ?_)));exact wpAny_pure q
theorem Hv{o:Obj}{Q:Option Value->Shared->Prop}(X:K.In s.heap)(hx:s.heap.get? x=some o)(hc:o.cls=.ref D)(c:zbs K D)(q:Q (some (.ref D)) { s with toks:=s.toks+1 }) :
  wpAny (model prog w) A (getAttr? (.ref x) "__class__") Q E s:=by
 obtain⟨hh,g,d,t,os⟩:=s;have L0:Looks (model prog w) hh (typeOf (.ref x)) (.ref D):=hc▸(Looks.ld hx).andThen .now;have La:=looks_findIn (M:=model prog w) X c.ga;have Lk:=looks_findIn (M:=model prog w) X c.gk;have Lx:=looks_mroIn (M:=model prog w) X c.mx;have hb:=PySem.F.attr_ValueError.ga.bind (.ref x);have hne0:(Value.builtin "BaseException.__getattribute__" == Value.builtin "object.__getattribute__")=false:=by decide +kernel
 have hne:(onTheHeap (Value.ref D)&&Value.builtin "BaseException.__getattribute__" == Value.builtin "object.__getattribute__")=false:=by rw[hne0];rfl
 unfold getAttr? getAttrBy? getAttrBy;refine wpAny_bind (wpAny_mkText (wpAny_bind (wpAny_attempt (wpAny_holding (wpAny_bind (L0.at (wpAny_bind (La.at ?_))))))))
 dsimp only;rw[if_neg (by rw[hne];decide)]
 unfold getAttrByItsOwn;refine wpAny_bind (show wpAny _ _ (typeLookup (.ref D) "__getattr__") _ _ _ from Lk.at ?_)
 refine wpAny_bind (wpAny_attempt (wpAny_holding ?_));show wpAny _ _ (boundAndCalled _ _ _) _ _ _;unfold boundAndCalled;rw[hb];refine wpAny_bind (wpAny_pure (wpAny_call ?_));refine codeAny_call_builtin PySem.F.attr_ValueError.ga.plain PySem.F.entry_bexc_ga ?_;have hk:builtinKind "BaseException.__getattribute__"=some .slot:=by decide +kernel
 have hsplit:splitId "BaseException.__getattribute__"=some ("BaseException","__getattribute__"):=by decide +kernel
 have ha:=PySem.F.args_bexc_ga (.ref x) (.str "__class__" t);simp only[checkBuiltinCall,hk,hsplit,List.cons_append,List.nil_append];unfold isInstance
 repeat (first|with_reducible refine zhp X hx hc c ?_|lk)
 exact q
theorem zdq(c:zbs K D):KitX K (.ref x) (.ref D) (fun h=>∃ o,h.get? x=some o/\o.cls=.ref D) where
 ty:=fun M h _ p=>by obtain⟨o,hx,hc⟩:=p;exact hc▸(Looks.ld hx).andThen .now
 it:=fun _ _ X _=>by
  have z:=c.cl;unfold clsIn at z
  split at z
  ·rename_i ho
   intro A' Q' E' s' k q;unfold isType loadHead;exact wpAny_bind (wpAny_loadPart (k _ _ (X _ _ ho)) (wpAny_pure q))
  ·cases z
 ne:=fun h tp dd its n sl X htp=>by
  refine Bool.eq_false_iff.mpr fun q=>?_
  have e:D=tp:=Value.ref.inj (beq_iff_eq.mp q);subst e;have z:=c.cl;unfold clsIn at z
  split at z
  ·rename_i ho
   have z:=(X _ _ ho).symm.trans htp;cases z
  ·cases z
 ca:=fun X p q=>by obtain⟨o,hx,hc⟩:=p;exact Hv X hx hc c q
end
inductive TyX(K:Frag)(H:Hp)(x:V)(t:Value):Prop where
 | of (h:Ml K H x t):TyX K H x t
 | exc {a D:Addr} (ex:x=.ref a) (et:t=.ref D) (h:H a=some (zi8 a (.ref D))) (c:zbs K D):TyX K H x t
noncomputable def zi9:V->Value
 | .ty n=>.type n
 | .ref a=>.ref a
 | _=>.none
inductive zja(K:Frag)(xs:List V)(H:Hp)(Q:VK):Prop where
 | mk(x)(c)(t)(b)(_:xs=[x,c])(_:TyX K H x t)(_:((∃ n,c=.ty n)\/∃ a,c=.ref a))(_:kitOne K t (zi9 c)=some b)(_:Q (.bl b) H)
theorem zdr{X:Cx}:Ux X (.builtin "isinstance") (zja X.K):=by
 intro pins s σ H xs us Q I r h;obtain⟨x,c,t,b,rfl,ty,hc,hk,q⟩:=h;obtain⟨u,w',rfl,r1,r2⟩:=zc6 r;have e:w'=zi9 c:=by
  rcases hc with ⟨n,rfl⟩|⟨a,rfl⟩
  ·exact r2
  ·exact r2
 subst e;cases ty with
 | of ty=>exact zbh I r1 ty hk fun tk=>⟨.bl b,H,I.tok tk,rfl,q⟩
 | @exc a D ex et ha cl =>
   subst ex et;cases (show u=Value.ref a from r1)
   obtain⟨⟨o,vs,ho,hcl,_⟩,_⟩:=(show Xa X.prog X.w H s.heap a (zi8 a (.ref D)) from I.hok a _ ha)
   exact kia_one (zdq cl) I.kIn ⟨o,ho,hcl⟩ hk (fun z=>nomatch z) fun tk=>⟨.bl b,H,I.tok tk,rfl,q⟩
section
variable{X:Cx}{pins:List (Addr×Obj)}{σ:St}{H:Hp}{s:Shared}
end
section
variable{X:Cx}{pins pins':List (Addr×Obj)}{σ σ' lk:St}{H:Hp}{s:Shared}{E:Value->Shared->Prop}{e:Addr}
end
structure zkc(X:Cx):Prop where
 ex:X.ex=[]
 lk:X.lk=[]
 st:X.stack=X.env :: X.outer
 fr:X.env.frame=some X.env.locals
section
variable{X:Cx}{pins:List (Addr×Obj)}{σ:St}{H:Hp}{s:Shared}{E:Value->Shared->Prop}
end
section
variable{X:Cx}{as:List Nat}{i:Nat}{CB:Addr}{tb:XK->TS}{th:TS}{body suite:List Stmt}{b₀:Stmt}{n cx:Str}{p hpos pos:Pos}
end
section
variable{P:Program}{w:World}{K:PySem.W.Frag}{mg:Str->Option Value}{base:Heap}
theorem Fun.okX{x qual:Str}{st:Stmt}{f:Addr}{fd:FuncData}{N ps:List Str}{k:Nat}{sp:Sp}(F:Fun K x qual st f fd)(S:Zl N ps (Zj st))(len:∀ vs H Q E,sp vs H Q E->vs.length=ps.length)
  (hbody:∀ (cdv:Value) (A:Around) (outer:List Env) (s:Shared) (H:Hp) (vs:List V) (Q:VK) (E:XK),Vm k (A.deeper (envOfC qual (Zj st) s.heap.objs.size f cdv))->sp vs H Q E ->
   ∃ t,PSs (cxOf (CX1 P w) P w K mg base N qual (Zj st) f cdv A outer s H E) (Zt st) t/\t { nx:=fun _ H'=>Q .non H',rt:=Q } (Lo N vs) H):Z6 P w K mg base (CX1 P w) (k+1) f fd ps sp:=by
 obtain⟨oc,od,kV,doc,pm,an,cdv,ct,osl,rfl,lk,hcd⟩:=F.ex;exact ziw lk hcd S len fun A outer s H vs Q E hr hsp=>hbody cdv A outer s H vs Q E hr hsp
end
noncomputable def Hw{α:Type}(p:α->Prop):List α->Prop
 | []=>True
 | a :: r=>p a/\Hw p r
theorem Hw.get{α:Type}{p:α->Prop}:∀ {l:List α} {a:α},Hw p l->a∈l->p a
 | _ :: _,_,h,.head _=>h.1
 | _ :: _,_,h,.tail _ m=>Hw.get h.2 m
noncomputable def Yp(X:Cx)(pn:List (Addr×Obj))(Nc:List Str)(scope:Scope)(cl:List (Str×Addr))(s₀:Shared)(H₀:Hp)(fp:List Addr)(C:Addr):Cx :=
 { X with N:=Nc,s₀:=s₀,H₀:=H₀,env:=compEnvC scope cl C X.env,outer:=X.stack,stack:=X.stack,ex:=fp,fn:=fun _=>false,pn:=pn,xe:=fun _ _=>False,lk:=[] }
noncomputable def cs(js:List Nat)(σ:St)(x:V):St:=some x :: js.map fun j=>(σ[j]?).getD none
noncomputable def PTs(X:Cx)(ifs:List Expr)(t:TT):Prop :=
 ∀ (pins:List (Addr×Obj)) (s:Shared) (σ:St) (H:Hp) (Q:Bool->Hp->Prop),Inv X pins σ H s->t σ H Q ->
   wpAny (model X.prog X.w) X.A (forIn ifs true fun c r=>if r=true then do let ok <- isTrue c X.env (eval c X.env);pure (ForInStep.yield ok) else pure (ForInStep.yield r)) (TP X pins σ Q) X.xe s
noncomputable def tYes:TT:=fun _ H Q=>Q true H
theorem V3{X:Cx}:PTs X [] tYes:=fun _ _ _ H _ I h=>wpAny_tests_nil ⟨H,I,h⟩
theorem Pf{X:Cx}{c:Expr}{t:TT}(h:PT X c t):PTs X [c] t:=fun pins s σ H Q I q=>wpAny_tests_one (h pins s σ H Q I q)
noncomputable def zag(J:It)(js:List Nat)(tt:TT)(te:TE)(σ:St)(H:Hp)(Q:VK):Prop:=∃ W:Nat->Nat->List V->Hp->Prop,(∃ m,W 0 m [] H)/\∀ i m ys H,W i m ys H ->
 (J.stop i H/\ys.length<=sizeLine/\∀ p,H p=none->Q (.ref p) (upd H p (.lst ys))) \/
 (J.go i H/\ys.length<sizeLine/\∃ N:List V->Hp->Prop,(∀ ys' H',N ys' H'->∃ m',m' < m/\W (i+1) m' ys' H')/\∀ x H',J.yld i H x H'->tt (cs js σ x) H' fun b H2=>if b=true then te (cs js σ x) H2 fun y H3=>N (ys++[y]) H3 else N ys H2)
noncomputable def zgm(wi:TI)(js:List Nat)(tt:TT)(te:TE):TE:=fun σ H Q=>wi σ H fun J H1=>zag J js tt te σ H1 Q
section
variable{X:Cx}{elt iter:Expr}{x:Str}{px pos:Pos}{ifs:List Expr}{scope:Scope}{cl:List (Str×Addr)}{ys:List Str}{js:List Nat}
structure zah(X:Cx)(x:Str)(scope:Scope)(cl:List (Str×Addr))(ys:List Str)(js:List Nat):Prop where
 clos:closureFor scope X.env=pure cl
 kind:scope.kind=.function
 names:∀ y∈scope.names,y.2=.local->scope.names.lookup y.1=some .local
 nocell:∀ y∈scope.names,y.2≠.cell
 own:scope.names.lookup x=some .local
 nd:(x :: ys).Nodup
 at_:js.map (X.N[·]?)=ys.map some
 free:Hw (fun y=>X.env.kindOf y=some .cell/\(relabel scope X.env).names.lookup y=some .cell/\cl.lookup y=X.env.cells.lookup y) ys
 only:Hw (fun p=>X.env.cells.lookup p.1=some p.2) cl
 vis:∀ y∈scope.names,y.2=.free->y.1∈ys
theorem Ng{env:Env}:∀ {names:List (Str×NameKind)} {y:Str},(names.map fun (n,k)=>if (k == NameKind.free&&env.scope.kind == .function&&env.kindOf n == some .cell) then (n,NameKind.cell) else (n,k)).lookup y=some .cell \/
  (names.map fun (n,k)=>if (k == NameKind.free&&env.scope.kind == .function&&env.kindOf n == some .cell) then (n,NameKind.cell) else (n,k)).lookup y=some .free->∃ k,(y,k)∈names/\(k=.cell\/k=.free)
 | [],_,h=>by rcases h with h|h<;>simp at h
 | (n,k) :: r,y,h=>by
   by_cases hx:y=n
   ·subst hx
    refine⟨k,z1o,?_⟩;rw[z04] at h
    dsimp only at h
    by_cases hc:(k == NameKind.free&&env.scope.kind == .function&&env.kindOf y == some .cell)=true
    ·simp only[z17,beq_iff_eq] at hc
     exact .inr hc.1.1
    ·rw[if_neg hc] at h
     simp only[z1r,beq_self_eq_true] at h
     rcases h with h|h
     ·exact .inl (Option.some.inj h)
     ·exact .inr (Option.some.inj h)
   ·have hb:(y == n)=false:=z1g.mpr hx
    have ih:=@Ng env r y;rw[z04] at h
    have key:∀ z:Str×NameKind,z.1=n->List.lookup y (z :: (r.map fun (n,k)=>if (k == NameKind.free&&env.scope.kind == .function&&env.kindOf n == some .cell) then (n,NameKind.cell) else (n,k))) =
      List.lookup y (r.map fun (n,k)=>if (k == NameKind.free&&env.scope.kind == .function&&env.kindOf n == some .cell) then (n,NameKind.cell) else (n,k)):=fun z hz=>by
     obtain⟨z1,z2⟩:=z;cases hz;simp only[z1r,hb]
    rw[key _ (by dsimp only;split<;>rfl)] at h
    obtain⟨k',m,q⟩:=ih h;exact⟨k',z1e _ m,q⟩
variable{wi:TI}{tt:TT}{te:TE}
end
theorem Wq{K:PySem.W.Frag}{js:List Nat}{tt:TT}{te:TE}{a:Addr}{xs:List V}{σ:St}{H:Hp}{Q:VK}(Pv:Nat->List V->Hp->Prop)(h0:Pv 0 [] H)(hl:∀ i ys H,i<=xs.length->Pv i ys H->SqL K H a xs)(hz:xs.length<=sizeLine)
  (hy:∀ i ys H,Pv i ys H->ys.length<=i)
  (hs:∀ i x ys H,xs[i]?=some x->Pv i ys H->tt (cs js σ x) H fun b H2=>if b=true then te (cs js σ x) H2 fun y H3=>Pv (i+1) (ys++[y]) H3 else Pv (i+1) ys H2)
  (hd:∀ ys H,Pv xs.length ys H->∀ p,H p=none->Q (.ref p) (upd H p (.lst ys))):zag (Itl K a) js tt te σ H Q:=by
 refine⟨fun i m ys H=>m=xs.length-i/\i<=xs.length/\Pv i ys H,⟨xs.length,by simp,z1j _,h0⟩,?_⟩
 rintro i m ys H ⟨rfl,hi,p⟩;have q:=hl i ys H hi p;have ly:=hy i ys H p;by_cases hlt:i<xs.length
 ·refine .inr ⟨⟨xs,xs[i],q,by simp[hlt]⟩,by omega,Pv (i+1),fun ys' H' p'=>⟨xs.length-(i+1),by omega,rfl,hlt,p'⟩,fun x H' y=>?_⟩
  obtain⟨e,y⟩:=y;subst e;exact hs i x ys _ (y xs q) p
 ·have e:i=xs.length:=by omega
  subst e;exact .inl ⟨⟨xs,q,z03 _⟩,by omega,hd ys H p⟩
theorem Og{js:List Nat}{tt:TT}{te:TE}{lo:Int}{n:Nat}{σ:St}{H:Hp}{Q:VK}(Pv:Nat->List V->Hp->Prop)(h0:Pv 0 [] H)(hz:n<=sizeLine)(hy:∀ i ys H,Pv i ys H->ys.length<=i)
  (hs:∀ i ys H,i<n->Pv i ys H->tt (cs js σ (.int (lo+i))) H fun b H2=>if b=true then te (cs js σ (.int (lo+i))) H2 fun y H3=>Pv (i+1) (ys++[y]) H3 else Pv (i+1) ys H2)
  (hd:∀ ys H,Pv n ys H->∀ p,H p=none->Q (.ref p) (upd H p (.lst ys))):zag (Itr lo n) js tt te σ H Q:=by
 refine⟨fun i m ys H=>m=n-i/\i<=n/\Pv i ys H,⟨n,by simp,z1j _,h0⟩,?_⟩
 rintro i m ys H ⟨rfl,hi,p⟩;have ly:=hy i ys H p;by_cases hlt:i<n
 ·refine .inr ⟨hlt,by omega,Pv (i+1),fun ys' H' p'=>⟨n-(i+1),by omega,rfl,hlt,p'⟩,fun x H' y=>?_⟩
  obtain⟨e,y⟩:=y;subst e y;exact hs i ys _ hlt p
 ·have e:i=n:=by omega
  subst e;exact .inl ⟨z03 _,by omega,hd ys H p⟩
theorem Fe{js:List Nat}{te:TE}{lo:Int}{n:Nat}{σ:St}{H:Hp}{Q:VK}(f:Nat->V)(hz:n<=sizeLine)
  (hs:∀ i (R:VK),i<n->R (f i) H->te (cs js σ (.int (lo+i))) H R) (hd:∀ p,H p=none->Q (.ref p) (upd H p (.lst ((List.range n).map f)))):zag (Itr lo n) js tYes te σ H Q:=by
 refine Og (fun i ys H'=>H'=H/\ys=(List.range i).map f) ⟨rfl,rfl⟩ hz (fun i ys H' ⟨_,e⟩=>by rw[e,z0t,z19];exact z03 _) (fun i ys H' hi ⟨e1,e2⟩=>?_) fun ys H' ⟨e1,e2⟩ p hp=>?_
 ·subst e1
  unfold tYes;dsimp only;rw[if_pos rfl];refine hs i _ hi ⟨rfl,?_⟩;rw[e2,List.range_succ,z0y];rfl
 ·subst e1
  rw[e2];exact hd p hp
theorem Lq:∀ {xs:List V} {us:List Value},xs.length=us.length->(∀ (j:Nat) x u,xs[j]?=some x->us[j]?=some u->RelV x u)->Vals xs us
 | [],[],_,_=>.nil
 | x :: xs,u :: us,hl,h=>.cons (h 0 x u rfl rfl) (Lq (by simpa using hl) fun j x' u' h1 h2=>h (j+1) x' u' (by simpa using h1) (by simpa using h2))
noncomputable abbrev TF:=St->Hp->(Hp->Prop)->Prop
noncomputable def PF(X:Cx)(e:Expr)(t:TF):Prop :=
 ∀ (pins:List (Addr×Obj)) (s:Shared) (σ:St) (H:Hp) (k:Hp->Prop),Inv X pins σ H s->t σ H k ->
   wpAny (model X.prog X.w) X.A (eval e X.env) (fun u s'=>∃ y tk H',u=.str y tk/\y.length<=10000/\Inv X pins σ H' s'/\k H') X.xe s
noncomputable def PFs(X:Cx)(es:List Expr)(t:TF):Prop :=
 ∀ (pins:List (Addr×Obj)) (s:Shared) (σ:St) (H:Hp) (k:Hp->Prop) (acc:Str),Inv X pins σ H s->acc.length+10000*es.length<=sizeLine->t σ H k ->
   Joins (model X.prog X.w) X.A X.xe (evalEach es X.env) acc (fun out s'=>out.length<=sizeLine/\∃ H',Inv X pins σ H' s'/\k H') s
noncomputable def zjb:TF:=fun _ H k=>k H
noncomputable def zjc(t u:TF):TF:=fun σ H k=>t σ H fun H1=>u σ H1 k
noncomputable def okF(v:V):Prop:=(∃ i,v=.int i/\i.natAbs.log2<1920)\/∃ y,v=.str y/\y.length<=10000
noncomputable def zj2(te:TE):TF:=fun σ H k=>te σ H fun v H1=>okF v/\k H1
noncomputable def zjd(t:TF):TE:=fun σ H Q=>t σ H fun H1=>∀ z,Q (.str z) H1
section
variable{X:Cx}{e:Expr}{es:List Expr}{te:TE}{t u:TF}{pos:Pos}
theorem Xr{x:Str}{j}(h:x.length<=10000):PF X (.Constant (.str x) j pos) zjb:=fun _ _ _ H _ I hk=>Calls.Constant_str ⟨x,_,H,rfl,h,I.tok _,hk⟩
theorem W2(he:PE X e te):PF X (.FormattedValue e (-1) none pos) (zj2 te):=by
 intro pins s σ H k I h;refine FormattedValue_plain (thn (he pins s σ H _ I h) fun v s1 ⟨x,H1,I1,r1,ok,hk⟩=>?_)
 rcases ok with ⟨i,rfl,hi⟩|⟨y,rfl,hy⟩
 ·obtain⟨t,rfl⟩:=r1
  refine formatField_int_small hi ⟨_,_,H1,rfl,?_,I1.tok _,hk⟩;have:=int_text_length_le (k:=1920) (by decide) hi
  show (Str.ofString (toString i)).length<=10000;rw[PySem.ofString_length];omega
 ·obtain⟨t,rfl⟩:=r1
  exact formatField_str (fun t' tk=>⟨y,t',H1,rfl,hy,I1.tok tk,hk⟩) (by rw[sizeLine_eq];omega)
theorem W8:PFs X [] zjb:=fun _ _ _ H _ _ I hz hk=>⟨by simpa using hz,H,I,hk⟩
theorem Z1(h1:PF X e t)(h2:PFs X es u)(hs:evalEach (e :: es) X.env=eval e X.env :: evalEach es X.env:=by rfl):PFs X (e :: es) (zjc t u):=by
 intro pins s σ H k acc I hz h;rw[hs];refine thn (h1 pins s σ H _ I h) fun v s1 ⟨y,tk,H1,e1,hy,I1,hk⟩=>⟨y,tk,e1,?_,?_⟩
 ·rw[strLen_append];rw[z1h] at hz;omega
 ·exact h2 pins s1 σ H1 k _ I1 (by rw[strLen_append];rw[z1h] at hz;omega) hk
theorem W9{e':Expr}(h:PFs X (e :: e' :: es) t)(hl:es.length<=100):PE X (.JoinedStr (e :: e' :: es) pos) (zjd t):=by
 intro pins s σ H Q I h';refine wpAny_JoinedStr ?_;have q:=h pins s σ H _ Str.empty I (by rw[sizeLine_eq];simp only[z1h];have:Str.empty.length=0:=rfl;omega) h'
 have mono:∀ (ps:List (Sem Value)) (acc:Str) (Q1 Q2:Str->Shared->Prop) (s:Shared),(∀ o s,Q1 o s->Q2 o s)->Joins (model X.prog X.w) X.A X.xe ps acc Q1 s->Joins (model X.prog X.w) X.A X.xe ps acc Q2 s:=by
  intro ps
  induction ps with
  | nil=>intro acc Q1 Q2 s m z;exact m _ _ z
  | cons p r ih=>intro acc Q1 Q2 s m z;exact thn z fun v s1 ⟨y,tk,e1,hz,z1⟩=>⟨y,tk,e1,hz,ih _ _ _ _ m z1⟩
 refine mono _ _ _ _ _ (fun out s1 ⟨hz,H1,I1,hk⟩=>⟨hz,.str out,H1,I1.tok _,⟨_,rfl⟩,hk out⟩) q
end
section
variable{X:Cx}
theorem Ab(hc:X.calm=true):Ux X (.type "list") (fun xs H Q=>∃ a kvs,xs=[.ref a]/\Rd H a (.dK kvs)/\∀ l,H l=none->Q (.ref l) (upd H l (.lst (kvs.map fun kv=>kV kv.1)))):=by
 intro pins s σ H xs us Q I r h;obtain⟨a,kvs,rfl,ha,q⟩:=h;obtain⟨u,rfl,ru⟩:=Qo r;cases (show u=Value.ref a from ru)
 obtain⟨hz,lo,vs,kv,o,es,ep,e1,e2⟩:=Qp I.hok ha;have hl:kvs.length=vs.length:=KV.length kv;refine PySem.W.kdl_call (PySem.W.kdl_dict (knd:=Yr X.prog X.w) (kvs:=vs) (ep:=ep) lo) (I.ok.hd hc) ⟨o,es,e1,e2⟩ (by rw[<- hl];exact hz) fun h' tk acc c hk hS hacc=>?_
 have hf:H s.heap.objs.size=none:=I.hok.fresh (z03 _);refine⟨.ref s.heap.objs.size,upd H s.heap.objs.size (.lst (kvs.map fun kv=>kV kv.1)),I.laid (t':=tk) hk (z03 _) ?_,rfl,q _ hf⟩
 obtain⟨accl⟩:=acc;refine⟨by rw[z0t];exact hz,accl,c,?_,hS⟩
 have hlen:accl.length=vs.length:=by have:=hacc.1;simpa using this
 refine Lq (by rw[z0t,hl,hlen]) fun j x u hx hu=>?_
 obtain⟨k,y,hk1,hk2⟩:=hacc.2 j u (by simpa using hu)
 have ek:=congrArg (·[j]?) (KV.keys kv)
 simp only[z0x,hk1,z12] at ek
 rw[z0x] at hx
 cases hkv:kvs[j]? with
 | none=>rw[hkv] at hx;cases hx
 | some p =>
   rw[hkv] at hx ek
   have e1:kV p.1=x:=Option.some.inj hx;have e2:p.1=k:=Option.some.inj ek;rw[<- e1,e2];rcases Y0 hk2 with ⟨i,t,rfl,rfl⟩|⟨z,t,rfl,rfl⟩
   ·exact⟨t,rfl⟩
   ·exact⟨t,rfl⟩
end
inductive Dt where
 | non|bl (b:Bool)|int (i:Int)|str (x:Str)|lst (xs:List Dt)|tup (xs:List Dt)
mutual
inductive Is(K:PySem.W.Frag)(H:Hp):V->Dt->Prop where
 | non:Is K H .non .non
 | bl (b:Bool):Is K H (.bl b) (.bl b)
 | int (i:Int):Is K H (.int i) (.int i)
 | str (x:Str):Is K H (.str x) (.str x)
 | lst {a:Addr} {xs:List V} {ds:List Dt} (h:SqL K H a xs) (hs:Wn K H xs ds):Is K H (.ref a) (.lst ds)
 | tup {a:Addr} {xs:List V} {ds:List Dt} (h:SqT K H a xs) (hs:Wn K H xs ds):Is K H (.ref a) (.tup ds)
inductive Wn(K:PySem.W.Frag)(H:Hp):List V->List Dt->Prop where
 | nil:Wn K H [] []
 | cons {x:V} {xs:List V} {d:Dt} {ds:List Dt} (h:Is K H x d) (t:Wn K H xs ds):Wn K H (x :: xs) (d :: ds)
end
mutual
noncomputable def eqD:Dt->Dt->Bool
 | .non,.non=>true
 | .bl a,.bl b=>a == b
 | .bl a,.int b=>(if a then 1 else 0) == b
 | .int a,.bl b=>a == (if b then 1 else 0)
 | .int a,.int b=>a == b
 | .str a,.str b=>a == b
 | .lst xs,.lst ys=>Pt xs ys
 | .tup xs,.tup ys=>Pt xs ys
 | _,_=>false
noncomputable def Pt:List Dt->List Dt->Bool
 | [],[]=>true
 | x :: xs,y :: ys=>eqD x y&&Pt xs ys
 | _,_=>false
end
mutual
theorem zds:∀ d:Dt,eqD d d=true
 | .non=>by simp[eqD]
 | .bl _=>by simp[eqD]
 | .int _=>by simp[eqD]
 | .str _=>by simp[eqD]
 | .lst xs=>by rw[eqD];exact Mn xs
 | .tup xs=>by rw[eqD];exact Mn xs
theorem Mn:∀ ds:List Dt,Pt ds ds=true
 | []=>by simp[Pt]
 | d :: ds=>by rw[Pt,zds d,Mn ds];rfl
end
mutual
noncomputable def zj3:Dt->Nat
 | .lst xs=>zdt xs+1
 | .tup xs=>zdt xs+1
 | _=>0
noncomputable def zdt:List Dt->Nat
 | []=>0
 | d :: ds=>max (zj3 d) (zdt ds)
end
section
variable{X:Cx}{pins:List (Addr×Obj)}{σ:St}{H:Hp}{s:Shared}
theorem Qr(I:Inv X pins σ H s){a:Addr}{xs ys:List V}(h1:SqL X.K H a xs)(h2:SqT X.K H a ys):False:=by
 obtain⟨_,_,⟨o,n,e1,e2,_⟩,_⟩:=I.list h1;obtain⟨_,_,⟨o',e1',e2',_⟩,_⟩:=I.tuple h2;rw[e1] at e1';cases e1'
 exact absurd (Value.type.inj (e2.symm.trans e2')) (by decide)
mutual
theorem Is.inj(I:Inv X pins σ H s):∀ {x:V} {d d':Dt},Is X.K H x d->Is X.K H x d'->d=d'
 | _,_,_,.non,.non=>rfl
 | _,_,_,.bl _,.bl _=>rfl
 | _,_,_,.int _,.int _=>rfl
 | _,_,_,.str _,.str _=>rfl
 | _,_,_,.lst h hs,.lst h' hs'=>by
   have e:=I.list_inj h h';subst e;rw[Wn.inj I hs hs']
 | _,_,_,.tup h hs,.tup h' hs'=>by
   have e:=I.tuple_inj h h';subst e;rw[Wn.inj I hs hs']
 | _,_,_,.lst h _,.tup h' _=>(Qr I h h').elim
 | _,_,_,.tup h _,.lst h' _=>(Qr I h' h).elim
theorem Wn.inj(I:Inv X pins σ H s):∀ {xs:List V} {ds ds':List Dt},Wn X.K H xs ds->Wn X.K H xs ds'->ds=ds'
 | _,_,_,.nil,.nil=>rfl
 | _,_,_,.cons h t,.cons h' t'=>by rw[Is.inj I h h',Wn.inj I t t']
end
mutual
noncomputable def toPy:Dt->PyData
 | .non=>.none
 | .bl b=>.bool b
 | .int i=>.int i
 | .str x=>.str x
 | .lst xs=>.list (Wd xs)
 | .tup xs=>.tuple (Wd xs)
noncomputable def Wd:List Dt->List PyData
 | []=>[]
 | d :: ds=>toPy d :: Wd ds
end
mutual
theorem Nh:∀ d e:Dt,PyData.eqv (toPy d) (toPy e)=eqD d e
 | .non,e=>by cases e<;>simp[toPy,eqD,PyData.eqv]
 | .bl _,e=>by cases e<;>simp[toPy,eqD,PyData.eqv]
 | .int _,e=>by cases e<;>simp[toPy,eqD,PyData.eqv]
 | .str _,e=>by cases e<;>simp[toPy,eqD,PyData.eqv]
 | .lst xs,.lst ys=>by rw[toPy,toPy,PyData.eqv,eqD];exact Mo xs ys
 | .tup xs,.tup ys=>by rw[toPy,toPy,PyData.eqv,eqD];exact Mo xs ys
 | .lst _,.non=>by simp[toPy,eqD,PyData.eqv]
 | .lst _,.bl _=>by simp[toPy,eqD,PyData.eqv]
 | .lst _,.int _=>by simp[toPy,eqD,PyData.eqv]
 | .lst _,.str _=>by simp[toPy,eqD,PyData.eqv]
 | .lst _,.tup _=>by simp[toPy,eqD,PyData.eqv]
 | .tup _,.non=>by simp[toPy,eqD,PyData.eqv]
 | .tup _,.bl _=>by simp[toPy,eqD,PyData.eqv]
 | .tup _,.int _=>by simp[toPy,eqD,PyData.eqv]
 | .tup _,.str _=>by simp[toPy,eqD,PyData.eqv]
 | .tup _,.lst _=>by simp[toPy,eqD,PyData.eqv]
theorem Mo:∀ ds es:List Dt,PyData.eqvAll (Wd ds) (Wd es)=Pt ds es
 | [],[]=>by simp[Wd,Pt,PyData.eqvAll]
 | [],_ :: _=>by simp[Wd,Pt,PyData.eqvAll]
 | _ :: _,[]=>by simp[Wd,Pt,PyData.eqvAll]
 | d :: ds,e :: es=>by rw[Wd,Wd,PyData.eqvAll,Pt,Nh d e,Mo ds es]
end
mutual
theorem Is.reads(I:Inv X pins σ H s):∀ {d:Dt} {x:V} {u:Value},Is X.K H x d->RelV x u->∃ as,Reads s.heap u (toPy d) as
 | _,_,_,.non,r=>by cases r;exact⟨_,.none⟩
 | _,_,_,.bl b,r=>by cases r;exact⟨_,.bool b⟩
 | _,_,_,.int i,r=>by obtain⟨t,rfl⟩:=r;exact⟨_,.int i t⟩
 | _,_,_,.str i,r=>by obtain⟨t,rfl⟩:=r;exact⟨_,.str i t⟩
 | _,_,_,.lst h hs,r=>by
   cases r;obtain⟨its,r1,⟨o,n',e1,e2,e3,e4⟩,_⟩:=I.list h;obtain⟨as,q⟩:=Wn.reads I hs r1;rw[toPy];exact⟨_,.list e1 e2 e4 (by simpa using q)⟩
 | _,_,_,.tup h hs,r=>by
   cases r;obtain⟨its,r1,⟨o,e1,e2,n',e4⟩,_⟩:=I.tuple h;obtain⟨as,q⟩:=Wn.reads I hs r1;rw[toPy];exact⟨_,.tuple e1 e2 e4 (by simpa using q)⟩
theorem Wn.reads(I:Inv X pins σ H s):∀ {ds:List Dt} {xs:List V} {us:List Value},Wn X.K H xs ds->Vals xs us->∃ as,ReadsAll s.heap us (Wd ds) as
 | _,_,_,.nil,r=>by cases r;exact⟨_,.nil⟩
 | _,_,_,.cons h t,r=>by
   cases r with
   | cons r1 r2 =>
     obtain⟨as,q1⟩:=Is.reads I h r1;obtain⟨bs,q2⟩:=Wn.reads I t r2;exact⟨_,.cons q1 q2⟩
end
noncomputable def shD(d:Dt):Prop:=SeqAt.shaped (toPy d)=true
inductive zdu(K:PySem.W.Frag)(neg:Bool)(x:V)(y:V)(H:Hp)(Q:VK):Prop where
 | mk(d)(e)(_:Is K H x d)(_:Is K H y e)(_:shD d)(_:shD e)(_:Q (.bl (if neg then !eqD d e else eqD d e)) H)
theorem zhq(hu:X.A.units+64<cLine):OpR X (compareOp .Eq) (zdu X.K false):=by
 intro pins s σ H x y v u Q I rx ry h;obtain⟨d,e,h1,h2,s1,s2,q⟩:=h;obtain⟨as,r1⟩:=h1.reads I rx;obtain⟨bs,r2⟩:=h2.reads I ry;exact eq_dataH r1 r2 s1 s2 hu (by rw[Nh];exact⟨.bl _,H,I,rfl,q⟩)
theorem zhr(hu:X.A.units+64<cLine):OpR X (compareOp .NotEq) (zdu X.K true):=by
 intro pins s σ H x y v u Q I rx ry h;obtain⟨d,e,h1,h2,s1,s2,q⟩:=h;obtain⟨as,r1⟩:=h1.reads I rx;obtain⟨bs,r2⟩:=h2.reads I ry;exact ne_dataH r1 r2 s1 s2 hu (by rw[Nh];exact⟨.bl _,H,I,rfl,q⟩)
end
mutual
theorem Is.same{K:PySem.W.Frag}{H H':Hp}(e:Same H H'):∀ {d:Dt} {x:V},Is K H x d->Is K H' x d
 | _,_,.non=>.non
 | _,_,.bl b=>.bl b
 | _,_,.int i=>.int i
 | _,_,.str i=>.str i
 | _,_,.lst h hs=>.lst (e.seq h) (Wn.same e hs)
 | _,_,.tup h hs=>.tup (by
   rcases h with (h|⟨o,h⟩)|h
   ·exact .inl (.inl (e _ _ h))
   ·exact .inl (.inr ⟨o,e _ _ h⟩)
   ·exact .inr h) (Wn.same e hs)
theorem Wn.same{K:PySem.W.Frag}{H H':Hp}(e:Same H H'):∀ {ds:List Dt} {xs:List V},Wn K H xs ds->Wn K H' xs ds
 | _,_,.nil=>.nil
 | _,_,.cons h t=>.cons (Is.same e h) (Wn.same e t)
end
section
variable{P:Program}{w:World}{K:PySem.W.Frag}{mg:Str->Option Value}{base:Heap}{x m:Str}{k j:Nat}{ps:List Str}{sp:Sp}{C:Addr}
noncomputable def Z9(P:Program)(w:World)(K:PySem.W.Frag)(mg:Str->Option Value)(base:Heap)(x:Str)(k:Nat)(ps:List Str)(sp:Sp):Prop :=
 ∃ (f:Addr) (fd:FuncData),Z6 P w K mg base (CX1 P w) k f fd ps sp/\mg x=some (.ref f)/\PySem.W.keepIn K (.ref f)=true/\Rb K fd ps []
noncomputable def Zu(P:Program)(w:World)(K:PySem.W.Frag)(mg:Str->Option Value)(base:Heap)(C:Addr)(m:Str)(k:Nat)(ps:List Str)(sp:Sp):Prop :=
 ∃ (f:Addr) (fd:FuncData),Z6 P w K mg base (CX1 P w) k f fd ps sp/\zc9 K C m f/\Rb K fd ps []
noncomputable def S7(P:Program)(w:World)(K:PySem.W.Frag)(mg:Str->Option Value)(base:Heap)(x:Str)(C:Addr)(k:Nat)(ps:List Str)(sp:Sp):Prop :=
 ∃ (f:Addr) (fd:FuncData),Z6 P w K mg base (CX1 P w) k f fd ps sp/\Mk K C f/\mg x=some (.ref C)/\Rb K fd ps []
theorem D7{X:Cx}:Vu (CX1 P w) X E0:=fun _ _ _ _ _ _ _ h=>by obtain⟨_,_,_,_,_,_,_,_,_,_,z⟩:=h;exact z.elim
structure zkb(K:PySem.W.Frag)(mg:Str->Option Value)(x:Str)(st:Stmt)(f:Addr)(fd:FuncData):Prop where
 fn:Fun K x x st f fd
 nm:mg x=some (.ref f)
end
section
variable{X:Cx}{k:Nat}{C:Addr}{ps:List Str}{sp:Sp}{E:XK}{x m:Str}{p pos apos:Pos}{e o:Expr}{es:List Expr}{ta:TE}{t:TA}
theorem zai(D:Z9 X.prog X.w X.K X.mg X.base x k ps sp)(hr:Vm k X.A)(hx:Vu (CX1 X.prog X.w) X E)(hg:Gl X x)(ha:PA X (e :: es) t)(hdb:(x == ("__debug__":Str))=false:=by decide)
  (he:starEach (e :: es) X.env=(false,eval e X.env) :: starEach es X.env:=by rfl) (hpl:(backTo pos (starEach es X.env)).any (·.1)=false:=by rfl):PE X (.Call (.Name x p) (e :: es) [] pos) (zda sp [] E t):=by
 obtain⟨f,fd,F,hm,kp,b⟩:=D;exact zff F hr hg hm kp b .nil hx ha hdb he hpl
theorem Yy{pl:Sem Bool}(he:PE X o ta)(c:Cls X.K C)(M:Zu X.prog X.w X.K X.mg X.base C m k ps sp)(hr:Vm k X.A)(hx:Vu (CX1 X.prog X.w) X E)(ha:PA X (e :: es) t)
  (hst:starEach (e :: es) X.env=(false,eval e X.env) :: starEach es X.env:=by rfl) (hpl:(backTo pos (starEach es X.env)).any (·.1)=false:=by rfl)
  (ht:eval (.Call (.Attribute o m apos) (e :: es) [] pos) X.env=(do
   let ov <- eval o X.env
   standAt apos.atName
   let (f,first) <- holding [ov] (getMethod ov m pl)
   callWith pos f first (backTo pos (starEach (e :: es) X.env)) (backToKw pos (keywordEach [] X.env))):=by rfl):PE X (.Call (.Attribute o m apos) (e :: es) [] pos) (A9 C m sp [] E ta t):=by
 obtain⟨f,fd,F,hm,b⟩:=M;exact zfg he c hm F hr b .nil hx ha hst hpl ht
theorem Yl{pl:Sem Bool}(he:PE X o ta)(c:Cls X.K C)(M:Zu X.prog X.w X.K X.mg X.base C m k ps sp)(hr:Vm k X.A)(hx:Vu (CX1 X.prog X.w) X E)
  (ht:eval (.Call (.Attribute o m apos) [] [] pos) X.env=(do
   let ov <- eval o X.env
   standAt apos.atName
   let (f,first) <- holding [ov] (getMethod ov m pl)
   callWith pos f first (backTo pos (starEach [] X.env)) (backToKw pos (keywordEach [] X.env))):=by rfl):PE X (.Call (.Attribute o m apos) [] [] pos) (A9 C m sp [] E ta Bz):=by
 obtain⟨f,fd,F,hm,b⟩:=M;exact zdb he c hm F hr b .nil hx ht
theorem Ek(M:S7 X.prog X.w X.K X.mg X.base x C k ps sp)(hr:Vm (k+1) X.A)(hx:Vu (CX1 X.prog X.w) X E)(hg:Gl X x)(ha:PA X (e :: es) t)(hdb:(x == ("__debug__":Str))=false:=by decide)
  (he:starEach (e :: es) X.env=(false,eval e X.env) :: starEach es X.env:=by rfl) (hpl:(backTo pos (starEach es X.env)).any (·.1)=false:=by rfl):PE X (.Call (.Name x p) (e :: es) [] pos) (zaa C sp [] E t):=by
 obtain⟨f,fd,F,mk,hm,b⟩:=M;exact zfh mk F hr hg hm b .nil hx ha hdb he hpl
theorem El(M:S7 X.prog X.w X.K X.mg X.base x C k ps sp)(hr:Vm (k+1) X.A)(hx:Vu (CX1 X.prog X.w) X E)(hg:Gl X x)(hdb:(x == ("__debug__":Str))=false:=by decide):PE X (.Call (.Name x p) [] [] pos) (zaa C sp [] E Bz):=by
 obtain⟨f,fd,F,mk,hm,b⟩:=M;exact zdc mk F hr hg hm b .nil hx hdb
theorem Wu{i:Int}(hg:Gl X x)(hm:∃ t,X.mg x=some (.int i t))(hd:(x == ("__debug__":Str))=false:=by decide):PE X (.Name x pos) (tC (.int i)):=by
 obtain⟨t,hm⟩:=hm;exact ze9 hg hm ⟨t,rfl⟩ hd
end
inductive zje(te:TE)(D:S5)(σ:L2.St)(x:V)(H1:Hp):Prop where
 | mk(l)(xs)(_:x=.ref l)(_:H1 l=some (.lst xs))(_:te σ H1 fun y H2=>∃ ys,H2 l=some (.lst ys)/\ys.length<sizeLine/\D.nx σ (upd H2 l (.lst (ys++[y]))))
noncomputable def zjf(to te:TE):TS:=fun D σ H=>to σ H fun x H1=>zje te D σ x H1
theorem Yu{X:Cx}{o e:Expr}{to te:TE}{apos cpos pos:Pos}(ho:PE X o to)(he:PE X e te)(hbase:attributeBase o "append" X.env (eval o X.env)=eval o X.env:=by rfl)
  (hst:starEach [e] X.env=[(false,eval e X.env)]:=by rfl)
  (hline:(apos.endLine == cpos.line)=true:=by rfl) (hs:swapsWith (.Call (.Attribute o "append" apos) [e] [] cpos) none pos.line X.env=pure false:=by rfl):PS X (.Expr (.Call (.Attribute o "append" apos) [e] [] cpos) pos) (zjf to te):=by
 intro pins s σ H D I h;refine wpAny_Expr ?_ I.quiet;refine wpAny_Call_method_late hbase (by rw[hst];rfl) hline rfl (thn (ho pins s σ H _ I h) fun v s1 ⟨x,H1,I1,r1,l,xs,e1,hl,q1⟩=>?_)
 subst e1;obtain⟨h1,h2⟩:=B7 (T:="list") I1 r1 (.inl ⟨rfl,_,SqL.of hl⟩);refine⟨"list","list.append",PySem.F.plainAttrs_list,PySem.F.slot_list_append,PySem.F.type_list_append,h1,h2,?_⟩;rw[hst];refine Calls.callWith_builtin rfl (Calls.evalArgs_plain ?_);refine Calls.spliced_cons (thn (he pins s1 σ H1 _ I1 q1) fun u s2 ⟨y,H2,I2,r2,ys,hl2,hz,q2⟩=>Calls.spliced_nil ?_)
 refine thn (zbm pins s2 σ H2 (.ref l) [y] v [u] (fun v H3=>v=.non/\D.nx σ H3) I2 r1 (.cons r2 .nil) ⟨l,ys,y,rfl,rfl,hl2,hz,rfl,q2⟩) fun z s3 ⟨zv,H3,I3,rz,ez,q3⟩=>?_
 subst ez;cases rz;exact⟨σ,H3,I3,q3⟩
section
variable{X:Cx}{K:PySem.W.Frag}
theorem zdv(hK:X.K=K):IxR X (Hq K):=hK▸zfq
theorem zfv(hK:X.K=K):IxR X (zhj K):=hK▸zhk
theorem Hy(hK:X.K=K):Ux X (.builtin "len") (fun xs H Q=>∃ p ys,xs=[.ref p]/\(SqL K H p ys\/SqT K H p ys)/\Q (.int ys.length) H):=hK▸Eh
theorem Yq(hK:X.K=K):Ux X (.type "list") (fun xs H Q=>∃ p ys,xs=[.ref p]/\(SqL K H p ys\/SqT K H p ys)/\∀ l,H l=none->Q (.ref l) (upd H l (.lst ys))):=hK▸Ei
theorem Va(hK:X.K=K):Ux X (.builtin "isinstance") (zja K):=hK▸zdr
theorem Jp(hK:X.K=K):OpR X (compareOp .In) (rIn K false):=hK▸zbl
theorem P6(hK:X.K=K):OpR X (compareOp .NotIn) (rIn K true):=hK▸Eg
theorem zaj(hK:X.K=K)(hu:X.A.units+64<cLine):OpR X (compareOp .Eq) (zdu K false):=hK▸zhq hu
theorem zak(hK:X.K=K)(hu:X.A.units+64<cLine):OpR X (compareOp .NotEq) (zdu K true):=hK▸zhr hu
theorem Jq(hK:X.K=K):SlR X (zi5 K):=hK▸zfr
variable{o e l tg value a:Expr}{f:Str}{pos pos':Pos}{ta tv tl:TE}{es:List Expr}{k n:Nat}{t:TGs}
theorem Zp(hK:X.K=K)(he:PE X e ta)(hb:attributeBase e f X.env (eval e X.env)=eval e X.env):PE X (.Attribute e f pos) (zir K ta f):=hK▸zg7 he hb
theorem Xb(hK:X.K=K)(ha:PE X o ta)(hv:PE X value tv)(hs:swapsWith value (some (.Attribute o f pos')) pos.line X.env=pure false):PS X (.Assign [.Attribute o f pos'] value pos) (zit K ta tv f):=hK▸zg8 ha hv hs
theorem Yh(hK:X.K=K)(hl:PE X l tl):PI X tg l (zgd K tl):=hK▸zfa hl
theorem Wg(hK:X.K=K)(hc:X.calm=true)(h:PGs X es t)(hn:(assignEach es X.env).length=n:=by rfl)(hst:(assignEach es X.env).findIdx? (·.1)=none:=by rfl):PG X (.Tuple es k pos) (zik K n t):=hK▸zg2 hc h hn hst
theorem Ff(hK:X.K=K)(ha:PE X a ta)(he:∀ whole,isTrue a X.env whole=(do let v <- whole;standAt a.pos;holding [v] (truthy v))):PT X a (fun σ H Q=>ta σ H fun x H'=>∃ k,TruV K x H' k/\Q k H'):=hK▸zc5 ha he
end
section
variable{X:Cx}{K:PySem.W.Frag}
theorem Jr(hK:X.K=K):Ux X (.type "tuple") (fun xs H Q=>∃ p ys,xs=[.ref p]/\((SqL K H p ys/\∀ l,H l=none->Q (.ref l) (upd H l (.tup ys)))\/(SqT K H p ys/\Q (.ref p) H))):=hK▸Hs
end
end L2
namespace G
open PySem PySem.Spec PyProof.Rows L2
theorem sz1:1<=sizeLine:=by decide
theorem sz2:2<=sizeLine:=by decide
theorem sz3:3<=sizeLine:=by decide
theorem sz4:4<=sizeLine:=by decide
theorem szN{n:Nat}(h:n<=1000):n<=sizeLine:=Nat.le_of_lt (T9 h)
theorem itD{p:Prop}[Decidable p]{A B:Prop}(h1:p->A)(h2:¬ p->B):if decide p=true then A else B:=by
 by_cases h:p
 ·rw[z01 h,if_pos rfl];exact h1 h
 ·rw[z07 h,if_neg (by decide)];exact h2 h
theorem itB{b:Bool}{A B:Prop}(h1:b=true->A)(h2:b=false->B):if b=true then A else B:=by
 cases b
 ·exact iteF (h2 rfl)
 ·exact iteT (h1 rfl)
theorem Qs{i j:Int}:decide (V.int i=V.int j)=decide (i=j):=by
 by_cases h:i=j
 ·subst h;simp
 ·rw[z07 h,z07 (fun z=>h (V.int.inj z))]
theorem itV{i j:Int}{A B:Prop}(h1:i=j->A)(h2:¬ i=j->B):if decide (V.int i=V.int j)=true then A else B:=by
 rw[Qs];exact itD h1 h2
theorem Zf{H:Hp}{p:Addr}{o:HO}(h:H p=none):Same H (upd H p o):=fun b u e=>by rw[Zh (Zg e h)];exact e
noncomputable def Yk(i:Int):Prop:=i.natAbs.log2<1920
theorem Yj{i:Int}(h:i.natAbs<=10 ^ 60):Yk i:=by
 unfold Yk;by_cases h0:i.natAbs=0
 ·rw[h0];decide
 ·exact(Nat.log2_lt h0).mpr (z16 h (by decide +kernel))
theorem Ym{i:Int}(h:-1000<=i)(h':i<=1000):Yk i:=Yj (z09 (show i.natAbs<=1000 by omega) (by decide))
theorem Wo{xs:List Int}{i:Int}(h0:0<=i)(h1:i<xs.length):atI (xs.map V.int) i=some (.int (xs.getD i.toNat 0)):=by
 obtain⟨k,rfl⟩:∃ k:Nat,i=k:=⟨i.toNat,by omega⟩
 refine Z8 ?_;have hk:k<xs.length:=by omega
 rw[z0x,z0u hk,z12,z1a,z1l,z0u hk];rfl
theorem Qt{t u:TT}{σ:L2.St}{H:Hp}{b c:Bool}(h1:∀ Q:Bool->Hp->Prop,Q b H->t σ H Q)(h2:∀ Q:Bool->Hp->Prop,Q c H->u σ H Q)(Q:Bool->Hp->Prop)(h:Q (b||c) H):tOr t u σ H Q:=by
 refine h1 _ ?_;cases b with
 | true=>exact h
 | false=>exact h2 _ h
theorem V4{t:TT}{A B:TS}{D:S5}{σ:L2.St}{H:Hp}{b:Bool}(h1:∀ Q:Bool->Hp->Prop,Q b H->t σ H Q)(h:if b=true then A D σ H else B D σ H):Br t A B D σ H:=h1 _ h
theorem Se{A B:TS}{D:S5}{σ:L2.St}{H:Hp}(h:A { D with nx:=B D } σ H):Z2 A B D σ H:=h
theorem D8{c:TT}{t e u:TS}{D:S5}{σ:L2.St}{H:Hp}{b:Bool}(J:L2.St->Hp->Prop)(hc:∀ Q:Bool->Hp->Prop,Q b H->c σ H Q)(h1:b=true->∀ N:L2.St->Hp->Prop,(∀ σ' H',J σ' H'->N σ' H')->t { D with nx:=N } σ H)
  (h2:b=false->∀ N:L2.St->Hp->Prop,(∀ σ' H',J σ' H'->N σ' H')->e { D with nx:=N } σ H) (h3:∀ σ' H',J σ' H'->u D σ' H'):Z2 (Br c t e) u D σ H:=by
 refine hc _ ?_;cases b with
 | true=>rw[if_pos rfl];exact h1 rfl _ h3
 | false=>rw[if_neg (by decide)];exact h2 rfl _ h3
theorem Zz{D:S5}{σ:L2.St}{H:Hp}(h:D.nx σ H):zcy D σ H:=h
theorem zhs(K:PySem.W.Frag):PySem.W.kitOne K (.type "int") (.type "int")=some true:=rfl
theorem zht(K:PySem.W.Frag):PySem.W.kitOne K (.type "int") (.type "bool")=some false:=by with_unfolding_all rfl
theorem Js(K:PySem.W.Frag):PySem.W.kitOne K (.type "list") (.type "list")=some true:=rfl
theorem zhu(K:PySem.W.Frag):PySem.W.kitOne K (.type "tuple") (.type "tuple")=some true:=rfl
theorem zhv(K:PySem.W.Frag):PySem.W.kitOne K (.type "str") (.type "str")=some true:=rfl
inductive Yb(H:Hp):List V->List (List V)->Prop where
 | nil:Yb H [] []
 | cons {t:Addr} {r:List V} {ts:List V} {R:List (List V)} (h:H t=some (.tup r)) (q:Yb H ts R):Yb H (.ref t :: ts) (r :: R)
theorem Yb.mono{H H':Hp}(k:∀ t xs,H t=some (.tup xs)->H' t=some (.tup xs)):∀ {ts:List V} {R:List (List V)},Yb H ts R->Yb H' ts R
 | _,_,.nil=>.nil
 | _,_,.cons h r=>.cons (k _ _ h) (Yb.mono k r)
theorem Yb.same{H H':Hp}(e:Same H H'){ts:List V}{R:List (List V)}(h:Yb H ts R):Yb H' ts R:=h.mono fun t xs q=>e _ _ q
theorem Yb.length{H:Hp}:∀ {ts:List V} {R:List (List V)},Yb H ts R->ts.length=R.length
 | _,_,.nil=>rfl
 | _,_,.cons _ r=>by simp[Yb.length r]
theorem Yb.snoc{H:Hp}{t:Addr}{x:List V}(h:H t=some (.tup x)):∀ {ts:List V} {R:List (List V)},Yb H ts R->Yb H (ts++[.ref t]) (R++[x])
 | _,_,.nil=>.cons h .nil
 | _,_,.cons h' r=>.cons h' (Yb.snoc h r)
theorem Yb.get{H:Hp}:∀ {ts:List V} {R:List (List V)} {i:Nat} {x:V},Yb H ts R->ts[i]?=some x->∃ t r,x=.ref t/\R[i]?=some r/\H t=some (.tup r)
 | _,_,_,_,.nil,e=>by simp at e
 | _,_,0,_,.cons h _,e=>by simp at e;subst e;exact⟨_,_,rfl,rfl,h⟩
 | _,_,i+1,x,.cons _ r,e=>by
   obtain⟨t,n,h1,h2,h3⟩:=Yb.get (i:=i) (x:=x) r (by simpa using e)
   exact⟨t,n,h1,by simpa using h2,h3⟩
theorem Yb.getR{H:Hp}:∀ {ts:List V} {R:List (List V)} {i:Nat} {r:List V},Yb H ts R->R[i]?=some r->∃ t,ts[i]?=some (.ref t)/\H t=some (.tup r)
 | _,_,_,_,.nil,e=>by simp at e
 | _,_,0,_,.cons h _,e=>by simp at e;subst e;exact⟨_,rfl,h⟩
 | _,_,i+1,x,.cons _ r,e=>by
   obtain⟨t,h1,h2⟩:=Yb.getR (i:=i) (r:=x) r (by simpa using e)
   exact⟨t,by simpa using h1,h2⟩
inductive Em(vs:List V)(H:Hp)(Q:VK)(_:XK):Prop where
 | mk(i)(_:vs=[.int i])(_:Q (.bl true) H)
noncomputable def Xg(ns:List Int)(k:Nat):Int:=(ns[k]?).getD 0
inductive Ac(K:PySem.W.Frag)(vs:List V)(H:Hp)(Q:VK)(_:XK):Prop where
 | mk(b:Addr)(ns:List Int)(k:Nat)(_:vs=[.ref b,.int k])(_:SqL K H b (ns.map V.int))(_:Q (.int (Xg ns k)) H)
noncomputable def zhw(c k:Int):Int:=(c*48271+k)%2147483647
noncomputable def zjg(c k:Int):Int:=(zhw c k*69621+7*k)%2147483629
noncomputable def zj4(c k:Int):Int:=(zjg c k*39373+zhw c k)%2147483587
noncomputable def Ae(c k:Int):Int:=(zhw c k*2147483647+zjg c k)*2147483647+zj4 c k
inductive zal(vs:List V)(H:Hp)(Q:VK)(_:XK):Prop where
 | mk(c)(k)(_:vs=[.int c,.int k])(_:Q (.int (Ae c k)) H)
noncomputable def stp(c:Int):Int:=([1,2,5,10,100,500,998]:List Int).getD (c%7).toNat 0
noncomputable def zbt(c:Int)(j:Nat):Int:=1+(c/7+stp c*(j:Int))%999
noncomputable def Lr(c:Int)(many:Nat):List Int:=(List.range many).map (zbt c)
inductive Jt(vs:List V)(H:Hp)(Q:VK)(_:XK):Prop where
 | mk(c:Int)(many:Nat)(_:vs=[.int c,.int many])(_:many<=1000)(_:∀ l H',H' l=some (.lst ((Lr c many).map V.int))->Same H H'->H l=none->Q (.ref l) H')
noncomputable def En(c:Int):Int:=([1,2,5,10,50,97,98]:List Int).getD (c%7).toNat 0
noncomputable def Fg(c:Int)(j:Nat):Int:=1+(c/7+En c*(j:Int))%99
noncomputable def Qu(c:Int)(many:Nat):List Int:=(List.range many).map (Fg c)
inductive zam(vs:List V)(H:Hp)(Q:VK)(_:XK):Prop where
 | mk(c:Int)(many:Nat)(_:vs=[.int c,.int many])(_:many<=1000)(_:∀ l H',H' l=some (.lst ((Qu c many).map V.int))->Same H H'->H l=none->Q (.ref l) H')
noncomputable def oneV(x:V):Prop:=x=.non\/∃ i,x=.int i
inductive Eo(vs:List V)(H:Hp)(Q:VK)(_:XK):Prop where
 | mk(x)(_:vs=[x,x])(_:oneV x)(_:Q (.bl true) H)
inductive D9(K:PySem.W.Frag)(vs:List V)(H:Hp)(Q:VK)(_:XK):Prop where
 | mk(b c:Addr)(xs:List V)(_:vs=[.ref b,.ref c])(_:H b=some (.lst xs))(_:SqL K H c xs)(_:(∀ x∈xs,oneV x))(_:xs.length<=1000)(_:Q (.bl true) H)
inductive Fh(K:PySem.W.Frag)(vs:List V)(H:Hp)(Q:VK)(_:XK):Prop where
 | mk(b c:Addr)(xs:List V)(_:vs=[.ref b,.ref c])(_:H b=some (.tup xs))(_:SqT K H c xs)(_:(∀ x∈xs,oneV x))(_:xs.length<=1000)(_:Q (.bl true) H)
inductive Fi(K:PySem.W.Frag)(vs:List V)(H:Hp)(Q:VK)(_:XK):Prop where
 | mk(b c:Addr)(ts us:List V)(R:List (List V))(_:vs=[.ref b,.ref c])(_:H b=some (.lst ts))(_:SqL K H c us)(_:Yb H ts R)(_:Yb H us R)(_:(∀ r∈R,r.length<=1000/\∀ x∈r,oneV x))(_:R.length<=1000)(_:Q (.bl true) H)
inductive zan(K:PySem.W.Frag)(vs:List V)(H:Hp)(Q:VK)(_:XK):Prop where
 | mk(b:Addr)(ns:List Int)(_:vs=[.ref b])(_:SqL K H b (ns.map V.int))(_:ns.length<=63)(_:∀ H',Q (.bl true) H')
structure Row where
 h:Int
 g:Int
 d:Int
 w:Option Int
noncomputable def oV:Option Int->V
 | none=>.non
 | some n=>.int n
noncomputable def row4(r:Row):List V:=[.int r.h,.int r.g,.int r.d,oV r.w]
theorem zhx(o:Option Int):oneV (oV o):=by
 cases o with
 | none=>exact .inl rfl
 | some n=>exact .inr ⟨n,rfl⟩
theorem zdw{H:Hp}{ts:List V}{rs:List Row}{i:Nat}{x:V}(h:Yb H ts (rs.map row4))(e:ts[i]?=some x):∃ t r,x=.ref t/\rs[i]?=some r/\H t=some (.tup (row4 r)):=by
 obtain⟨t,r,h1,h2,h3⟩:=h.get e;rw[z0x] at h2
 cases q:rs[i]? with
 | none=>rw[q] at h2;cases h2
 | some m=>rw[q] at h2;cases h2;exact⟨t,m,h1,rfl,h3⟩
noncomputable def hit(n c:Int)(r:Row):Bool:=decide (r.w=some n)&&(decide (r.h=c)||decide (r.g=c))
noncomputable def Ep(n c:Int)(Rs:List (List Row)):Nat×Nat:=Rs.foldl (fun p rs=>(p.1+1,if rs.any (hit n c) then p.1+1 else p.2)) (0,0)
noncomputable def metS(Rs:List (List Row))(n c:Int):Nat:=(Ep n c Rs).2
theorem zdx(n c:Int)(Rs:List (List Row)):(Ep n c Rs).1=Rs.length:=by
 have h:∀ (Rs:List (List Row)) (p:Nat×Nat),(Rs.foldl (fun p rs=>(p.1+1,if rs.any (hit n c) then p.1+1 else p.2)) p).1=p.1+Rs.length:=fun Rs=>by
  induction Rs with
  | nil=>intro p;rfl
  | cons r Rs ih=>intro p;rw[List.foldl_cons,ih,z1h];simp only;omega
 have:=h Rs (0,0);unfold Ep;rw[this];simp
theorem zbu(Rs:List (List Row))(rs:List Row)(n c:Int):metS (Rs++[rs]) n c=if rs.any (hit n c) then Rs.length+1 else metS Rs n c:=by
 unfold metS;have e:Ep n c (Rs++[rs])=((Ep n c Rs).1+1,if rs.any (hit n c) then (Ep n c Rs).1+1 else (Ep n c Rs).2):=by
  unfold Ep;rw[List.foldl_append];rfl
 rw[e,zdx]
noncomputable def Ca(kvs:List (List Key×V))(f:Int->Int->Nat):Prop:=∀ n c:Int,valV kvs [Sum.inl n,Sum.inl c]=if f n c=0 then none else some (.int (f n c))
inductive Ru(H:Hp):List V->List (List Row)->Prop where
 | nil:Ru H [] []
 | cons {t:Addr} {ts rs:List V} {r:List Row} {R:List (List Row)} (h:H t=some (.tup ts)) (q:Yb H ts (r.map row4)) (n:Ru H rs R):Ru H (.ref t :: rs) (r :: R)
theorem Ru.mono{H H':Hp}(k:∀ t xs,H t=some (.tup xs)->H' t=some (.tup xs)):∀ {ts:List V} {R:List (List Row)},Ru H ts R->Ru H' ts R
 | _,_,.nil=>.nil
 | _,_,.cons h q r=>.cons (k _ _ h) (q.mono k) (Ru.mono k r)
theorem Ru.length{H:Hp}:∀ {ts:List V} {R:List (List Row)},Ru H ts R->ts.length=R.length
 | _,_,.nil=>rfl
 | _,_,.cons _ _ r=>by simp[Ru.length r]
theorem Ru.snoc{H:Hp}{t:Addr}{xs:List V}{x:List Row}(h:H t=some (.tup xs))(q:Yb H xs (x.map row4)):∀ {ts:List V} {R:List (List Row)},Ru H ts R->Ru H (ts++[.ref t]) (R++[x])
 | _,_,.nil=>.cons h q .nil
 | _,_,.cons h' q' r=>.cons h' q' (Ru.snoc h q r)
theorem Ru.getR{H:Hp}:∀ {ts:List V} {R:List (List Row)} {i:Nat} {r:List Row},Ru H ts R->R[i]?=some r->∃ t xs,ts[i]?=some (.ref t)/\H t=some (.tup xs)/\Yb H xs (r.map row4)
 | _,_,_,_,.nil,e=>by simp at e
 | _,_,0,_,.cons h q _,e=>by simp at e;subst e;exact⟨_,_,rfl,h,q⟩
 | _,_,i+1,x,.cons _ _ r,e=>by
   obtain⟨t,xs,h1,h2,h3⟩:=Ru.getR (i:=i) (r:=x) r (by simpa using e)
   exact⟨t,xs,by simpa using h1,h2,h3⟩
noncomputable def tot(Rs:List (List Row)):Nat:=(Rs.map List.length).sum
theorem zdy(Rs:List (List Row))(rs:List Row):tot (Rs++[rs])=tot Rs+rs.length:=by unfold tot;rw[z0y,List.sum_append];simp
structure V5(C:Addr)(H:Hp)(p lr ld:Addr)(Rs:List (List Row)):Prop where
 at_:∃ dx,H p=some (.ins C dx [("rounds",.ref lr),("meetings",.ref ld)])
 rd:∃ rs,H lr=some (.lst rs)/\Ru H rs Rs
 mt:∃ kvs,H ld=some (.dT kvs)/\Ca kvs (metS Rs)/\kvs.length<=2*tot Rs
theorem V5.same{C:Addr}{H H':Hp}{p lr ld:Addr}{Rs:List (List Row)}(h:V5 C H p lr ld Rs)(e:Same H H'):V5 C H' p lr ld Rs:=by
 obtain⟨⟨dx,h1⟩,⟨rs,h2,h3⟩,⟨kvs,h4,h5⟩⟩:=h;exact⟨⟨dx,e _ _ h1⟩,⟨rs,e _ _ h2,h3.mono fun t xs q=>e _ _ q⟩,⟨kvs,e _ _ h4,h5⟩⟩
theorem V5.keep{C:Addr}{H H':Hp}{p lr ld:Addr}{Rs:List (List Row)}(h:V5 C H p lr ld Rs)(ep:∀ o,H p=some o->H' p=some o)(er:∀ o,H lr=some o->H' lr=some o)(ed:∀ o,H ld=some o->H' ld=some o)(et:∀ t xs,H t=some (.tup xs)->H' t=some (.tup xs)):V5 C H' p lr ld Rs:=by
 obtain⟨⟨dx,h1⟩,⟨rs,h2,h3⟩,⟨kvs,h4,h5⟩⟩:=h;exact⟨⟨dx,ep _ h1⟩,⟨rs,er _ h2,h3.mono et⟩,⟨kvs,ed _ h4,h5⟩⟩
theorem Rh{x y:Addr}:List.lookup ("rounds":Str) ([("rounds",V.ref x),("meetings",V.ref y)]:List (Str×V))=some (.ref x):=by simp only[z1r,beq_self_eq_true]
theorem Qv{x y:Addr}:List.lookup ("meetings":Str) ([("rounds",V.ref x),("meetings",V.ref y)]:List (Str×V))=some (.ref y):=by
 have e:(("meetings":Str) == "rounds")=false:=by decide +kernel
 simp only[z1r,e,beq_self_eq_true]
theorem Ni{x y:Addr}{m:Str}(h:¬ m="rounds")(h':¬ m="meetings"):List.lookup m ([("rounds",V.ref x),("meetings",V.ref y)]:List (Str×V))=none:=by
 have e:(m == "rounds")=false:=z1g.mpr h;have e':(m == "meetings")=false:=z1g.mpr h';simp only[z1r,e,e',List.lookup_nil]
inductive Er(C:Addr)(vs:List V)(H:Hp)(Q:VK)(_:XK):Prop where
 | mk(p)(dx)(_:vs=[.ref p])(_:H p=some (.ins C dx []))(_:∀ lr ld H',V5 C H' p lr ld []->(∀ b o,H b=some o->b≠p->H' b=some o)->H lr=none->H ld=none->lr≠ld->Q .non H')
inductive Mp(C:Addr)(vs:List V)(H:Hp)(Q:VK)(_:XK):Prop where
 | mk(p)(lr)(ld)(Rs)(_:vs=[.ref p])(_:V5 C H p lr ld Rs)(_:Q (.int (Rs.length:Nat)) H)
inductive zao(C N:Addr)(vs:List V)(H:Hp)(Q:VK)(E:XK):Prop where
 | mk(p)(lr)(ld)(Rs)(i)(_:vs=[.ref p,.int i])(_:V5 C H p lr ld Rs)(_:Yk i)(_:(i<1\/(Rs.length:Int)<i->E (.ref N) none H))(_:∀ (k:Nat) r,i=(k:Int)+1->Rs[k]?=some r->∀ l ts,H l=none->Yb H ts (r.map row4)->Q (.ref l) (upd H l (.lst ts)))
inductive zgn(C:Addr)(vs:List V)(H:Hp)(Q:VK)(_:XK):Prop where
 | mk(p)(lr)(ld)(Rs)(n)(c)(_:vs=[.ref p,.int n,.int c])(_:V5 C H p lr ld Rs)(_:∀ H',Same H H'->Q (.int (metS Rs n c:Nat)) H')
theorem Ph{n c n' c':Int}:([Sum.inl n,Sum.inl c]:List Key)=[Sum.inl n',Sum.inl c']↔n=n'/\c=c':=by
 constructor
 ·intro h;injection h with h1 h2;injection h2 with h2 _;exact⟨Sum.inl.inj h1,Sum.inl.inj h2⟩
 ·rintro⟨rfl,rfl⟩;rfl
theorem Ca.put{kvs:List (List Key×V)}{f:Int->Int->Nat}(h:Ca kvs f)(n c:Int)(t:Nat)(ht:0<t):Ca (putK kvs [Sum.inl n,Sum.inl c] (.int t)) (fun n' c'=>if n'=n/\c'=c then t else f n' c'):=fun n' c'=>by
 rw[V2];show _=if (if n'=n/\c'=c then t else f n' c')=0 then none else some (V.int ((if n'=n/\c'=c then t else f n' c':Nat):Int))
 by_cases e:n'=n/\c'=c
 ·rw[if_pos e,if_pos (Ph.mpr e),if_neg (by omega)]
 ·rw[if_neg (fun z=>e (Ph.mp z)),if_neg e];exact h n' c'
noncomputable def Mq(Rs:List (List Row))(rs:List Row)(i:Nat)(n c:Int):Nat:=if (rs.take i).any (hit n c) then Rs.length+1 else metS Rs n c
theorem zbv(Rs:List (List Row))(rs:List Row):Mq Rs rs 0=metS Rs:=by funext n c;unfold Mq;simp
theorem zdz(Rs:List (List Row))(rs:List Row):Mq Rs rs rs.length=metS (Rs++[rs]):=by funext n c;unfold Mq;rw[z1b,zbu]
theorem Fj{Rs:List (List Row)}{rs:List Row}{i:Nat}{r:Row}(e:rs[i]?=some r)(n c:Int):Mq Rs rs (i+1) n c=if hit n c r then Rs.length+1 else Mq Rs rs i n c:=by
 unfold Mq;rw[z2a,e,List.any_append];cases h1:(rs.take i).any (hit n c)<;>cases h2:hit n c r<;>simp[h2]
theorem zbw{Rs:List (List Row)}{rs:List Row}{i:Nat}{r:Row}(e:rs[i]?=some r)(h:r.w=none):Mq Rs rs (i+1)=Mq Rs rs i:=by
 funext n c
 rw[Fj e];have:hit n c r=false:=by unfold hit;rw[h];simp
 rw[this];simp
theorem zbx{Rs:List (List Row)}{rs:List Row}{i:Nat}{r:Row}{w:Int}(e:rs[i]?=some r)(h:r.w=some w) :
  (fun n c=>if n=w/\c=r.g then Rs.length+1 else (fun n c=>if n=w/\c=r.h then Rs.length+1 else Mq Rs rs i n c) n c)=Mq Rs rs (i+1):=by
 funext n c
 rw[Fj e];unfold hit;rw[h];show (if n=w/\c=r.g then Rs.length+1 else if n=w/\c=r.h then Rs.length+1 else Mq Rs rs i n c)=_
 by_cases h1:n=w
 ·subst h1
  by_cases h2:r.g=c
  ·rw[if_pos ⟨rfl,h2.symm⟩,if_pos (by simp[h2])]
  ·rw[if_neg (fun z=>h2 z.2.symm)]
   by_cases h3:r.h=c
   ·rw[if_pos ⟨rfl,h3.symm⟩,if_pos (by simp[h3])]
   ·rw[if_neg (fun z=>h3 z.2.symm),if_neg (by simp[h2,h3])]
 ·rw[if_neg (fun z=>h1 z.1),if_neg (fun z=>h1 z.1),if_neg (by simp;intro z;exact absurd z.symm h1)]
theorem Cb{C:Addr}{H1 H':Hp}{x dx lr ld:Addr}(hx:H1 x=none)(hdx:H1 dx=none)(ne:dx≠x)(k:∀ b o,upd (upd H1 dx (.own x)) x (.ins C dx []) b=some o->b≠x->H' b=some o)
  (h1:upd (upd H1 dx (.own x)) x (.ins C dx []) lr=none) (h2:upd (upd H1 dx (.own x)) x (.ins C dx []) ld=none):Same H1 H'/\H1 lr=none/\H1 ld=none:=by
 have fr:∀ {l:Addr},upd (upd H1 dx (.own x)) x (.ins C dx []) l=none->H1 l=none:=fun {l} q=>by
  have n1:l≠x:=fun z=>by rw[z,Zc] at q;cases q
  have n2:l≠dx:=fun z=>by rw[z,Zh ne,Zc] at q;cases q
  rw[Zh n1,Zh n2] at q;exact q
 refine⟨fun b o e=>k b o ?_ (Zg e hx),fr h1,fr h2⟩
 rw[Zh (Zg e hx),Zh (Zg e hdx)];exact e
theorem zjh{lr ld:Addr}:putF "meetings" (V.ref ld) [(("rounds":Str),V.ref lr)]=[(("rounds":Str),V.ref lr),(("meetings":Str),V.ref ld)]:=by
 show (if ("rounds":Str)="meetings" then _ else _)=_
 rw[if_neg (by decide +kernel)];rfl
theorem Yc{H H':Hp}{l:Addr}{o:HO}(h:H l=none)(s:Same H H'):Same H (upd H' l o):=fun b u e=>by
 rw[Zh (Zg e h)];exact s b u e
theorem zd0{x:V}(h:oneV x):Rf x=true:=by rcases h with rfl|⟨i,rfl⟩<;>rfl
inductive RLs(H:Hp):List Addr->List (List Row)->Prop where
 | nil:RLs H [] []
 | cons {l:Addr} {ts:List V} {ls:List Addr} {r:List Row} {R:List (List Row)} (h:H l=some (.lst ts)) (q:Yb H ts (r.map row4)) (n:RLs H ls R):RLs H (l :: ls) (r :: R)
theorem Hz(c:Int)(m:Nat):(Qu c m).length=m:=by unfold Qu;rw[z0t,z19]
theorem Nj(c:Int)(m:Nat):(Lr c m).length=m:=by unfold Lr;rw[z0t,z19]
structure L1(C:Addr)(H0:Hp)(p lr ld kR:Addr)(ls:List Addr)(R S:List (List Row))(H:Hp):Prop where
 base:Same H0 H
 led:V5 C H p lr ld R
 krs:H kR=some (.lst (ls.map V.ref))
 rls:RLs H ls S
 sep:∀ l∈ls,l≠lr/\l≠kR
structure C1(H0:Hp)(lr ld kR:Addr):Prop where
 fr:H0 lr=none
 fd:H0 ld=none
 fk:H0 kR=none
 rk:lr≠kR
section
variable{C:Addr}{H0 H H':Hp}{p lr ld kR:Addr}{ls:List Addr}{R S:List (List Row)}
end
theorem Fl{t u:TT}{σ:L2.St}{H:Hp}{b c:Bool}(h1:∀ Q:Bool->Hp->Prop,Q b H->t σ H Q)(h2:∀ Q:Bool->Hp->Prop,Q c H->u σ H Q)(Q:Bool->Hp->Prop)(h:Q (b&&c) H):zgw t u σ H Q:=by
 refine h1 _ ?_;cases b with
 | true=>exact h2 _ h
 | false=>exact h
noncomputable def Sm(Rs:List (List Row))(n c rest:Int):Bool:=decide ((if (0:Int)>(Rs.length:Nat)-rest then 0 else ((Rs.length:Nat):Int)-rest)<(metS Rs n c:Nat))
inductive Cc(C:Addr)(vs:List V)(H:Hp)(Q:VK)(_:XK):Prop where
 | mk(p)(lr)(ld)(Rs)(n)(c)(rest)(_:vs=[.int n,.int c,.ref p,.int rest])(_:V5 C H p lr ld Rs)(_:∀ H',Same H H'->Q (.bl (Sm Rs n c rest)) H')
noncomputable def bw(b:Bool)(w:Str):List Str:=if b then [w] else []
noncomputable def whyS(Rs:List (List Row))(n g c h gu d:Int)(o:Bool)(rest:Int):List Str :=
 bw o "away"++(bw (decide (g<d)) "grade"++(bw (decide (c=h)||decide (c=gu)) "club"++bw (Sm Rs n h rest||Sm Rs n gu rest) "met"))
inductive Mr(K:PySem.W.Frag)(C:Addr)(vs:List V)(H:Hp)(Q:VK)(_:XK):Prop where
 | mk(t1 t2 p lr ld:Addr)(Rs:List (List Row))(n g c h gu d rest:Int)(o:Bool)(_:vs=[.ref t1,.ref t2,.bl o,.ref p,.int rest])(_:H t1=some (.tup [.int n,.int g,.int c]))(_:H t2=some (.tup [.int h,.int gu,.int d]))(_:V5 C H p lr ld Rs)(_:∀ l H',H' l=some (.lst ((whyS Rs n g c h gu d o rest).map V.str))->Same H H'->H l=none->Q (.ref l) H')
inductive zap(K:PySem.W.Frag)(vs:List V)(H:Hp)(Q:VK)(_:XK):Prop where
 | mk(b c:Addr)(xs:List Str)(_:vs=[.ref b,.ref c])(_:H b=some (.lst (xs.map V.str)))(_:SqL K H c (xs.map V.str))(_:xs.length<=1000)(_:Q (.bl true) H)
theorem zd1(Rs:List (List Row))(n g c h gu d:Int)(o:Bool)(rest:Int):(whyS Rs n g c h gu d o rest).length<=4:=by
 have hb:∀ b w,(bw b w).length<=1:=fun b w=>by cases b<;>simp[bw]
 unfold whyS;rw[z0w,z0w,z0w];have:=hb o "away";have:=hb (decide (g<d)) "grade";have:=hb (decide (c=h)||decide (c=gu)) "club";have:=hb (Sm Rs n h rest||Sm Rs n gu rest) "met"
 omega
noncomputable def Gr(c:TT)(σ:L2.St)(H:Hp)(b:Bool):Prop:=∀ Q:Bool->Hp->Prop,(∀ H1,Same H H1->Q b H1)->c σ H Q
theorem Cd{t u:TT}{σ:L2.St}{H:Hp}{b c:Bool}(h1:Gr t σ H b)(h2:∀ H1,Same H H1->Gr u σ H1 c):Gr (tOr t u) σ H (b||c):=fun Q h=>by
 refine h1 _ fun H1 s1=>?_
 cases b with
 | true=>exact h H1 s1
 | false=>exact h2 H1 s1 _ fun H2 s2=>h H2 (s1.trans s2)
theorem Rv{c:TT}{σ:L2.St}{H:Hp}{b:Bool}(h:∀ Q:Bool->Hp->Prop,Q b H->c σ H Q):Gr c σ H b:=fun Q q=>h Q (q H (Same.refl H))
theorem Sn{c:TT}{u:TS}{D:S5}{σ:L2.St}{H0 H:Hp}{b:Bool}{l:Addr}{i:Nat}{xs:List Str}{w:Str}(hc:Gr c σ H b)(h0:H0 l=none)(s:Same H0 H)(hl:H l=some (.lst (xs.map V.str)))(hx:xs.length<=100)(hv:σ[i]?=some (some (.ref l)))
  (h3:∀ H',Same H0 H'->H' l=some (.lst ((xs++bw b w).map V.str))->(∀ b o,H b=some o->b≠l->H' b=some o)->u D σ H'):Z2 (Br c (zjf (ze8 i) (tC (.str w))) zcy) u D σ H:=by
 refine hc _ fun H1 s1=>?_
 have hl1:=s1 _ _ hl;cases b with
 | true =>
   rw[if_pos rfl];refine⟨_,hv,l,_,rfl,hl1,_,hl1,T9 (by rw[z0t];omega),?_⟩
   refine h3 _ (Yc h0 (s.trans s1)) ?_ fun b o e n=>by rw[Zh n];exact s1 _ _ e
   rw[Zc,z0y];rfl
 | false =>
   rw[if_neg (by decide)]
   exact h3 _ (s.trans s1) (by rw[show bw false w=[] from rfl,z2j];exact hl1) fun b o e _=>s1 _ _ e
theorem Mt(b:Bool)(w:Str):(bw b w).length<=1:=by cases b<;>simp[bw]
theorem zfw{Rs:List (List Row)}{n c:Int}{x:Nat}:x<metS Rs n c↔∃ (j:Nat) (r:List Row),Rs[j]?=some r/\r.any (hit n c)=true/\x<j+1:=by
 have gen:∀ (Rs:List (List Row)) (p:Nat×Nat),p.2<=p.1->(x<(Rs.foldl (fun p rs=>(p.1+1,if rs.any (hit n c) then p.1+1 else p.2)) p).2↔(∃ (j:Nat) (r:List Row),Rs[j]?=some r/\r.any (hit n c)=true/\x<p.1+j+1)\/x<p.2):=fun Rs=>by
  induction Rs with
  | nil=>intro p hp;simp
  | cons r Rs ih =>
    intro p hp;rw[List.foldl_cons,ih _ (by show (if r.any (hit n c) then p.1+1 else p.2)<=p.1+1;split<;>omega)]
    show ((∃ (j:Nat) (r':List Row),Rs[j]?=some r'/\r'.any (hit n c)=true/\x<p.1+1+j+1)\/x<(if r.any (hit n c) then p.1+1 else p.2))↔_
    constructor
    ·rintro(⟨j,r',h1,h2,h3⟩|h)
     ·exact .inl ⟨j+1,r',by simpa using h1,h2,by omega⟩
     ·by_cases hr:r.any (hit n c)=true
      ·rw[if_pos hr] at h
       exact .inl ⟨0,r,rfl,hr,by omega⟩
      ·rw[if_neg hr] at h
       exact .inr h
    ·rintro(⟨j,r',h1,h2,h3⟩|h)
     ·cases j with
      | zero =>
        have e:r=r':=by simpa using h1
        subst e;exact .inr (by rw[if_pos h2];omega)
      | succ j=>exact .inl ⟨j,r',by simpa using h1,h2,by omega⟩
     ·right
      split<;>omega
 have:=gen Rs (0,0) (z03 _);unfold metS Ep;rw[this];simp
theorem zby{Rs:List (List Row)}{n c rest:Int}:Sm Rs n c rest=true↔∃ (j:Nat) (r:List Row),Rs[j]?=some r/\r.any (hit n c)=true/\(Rs.length:Int)-rest<=j:=by
 unfold Sm;rw[decide_eq_true_eq];have e:(if (0:Int)>(Rs.length:Nat)-rest then 0 else ((Rs.length:Nat):Int)-rest)<(metS Rs n c:Nat)↔(((Rs.length:Nat):Int)-rest).toNat<metS Rs n c:=by
  split<;>omega
 rw[e,zfw];constructor
 ·rintro⟨j,r,h1,h2,h3⟩;exact⟨j,r,h1,h2,by omega⟩
 ·rintro⟨j,r,h1,h2,h3⟩;exact⟨j,r,h1,h2,by omega⟩
theorem zd2(c:Int){i j:Nat}(hi:i<40)(hj:j<40)(h:zbt c i=zbt c j):i=j:=by
 unfold zbt at h
 have hs:stp c=1\/stp c=2\/stp c=5\/stp c=10\/stp c=100\/stp c=500\/stp c=998:=by
  unfold stp;have h0:0<=c%7:=by omega
  have h1:c%7<7:=by omega
  generalize c%7=r at h0 h1
  obtain⟨k,rfl⟩:∃ k:Nat,r=k:=⟨r.toNat,by omega⟩
  rw[z1a];have hk:k<7:=by omega
  match k,hk with
  | 0,_=>simp
  | 1,_=>simp
  | 2,_=>simp
  | 3,_=>simp
  | 4,_=>simp
  | 5,_=>simp
  | 6,_=>simp
 generalize c/7=x at h
 rcases hs with e|e|e|e|e|e|e<;>rw[e] at h<;>omega
end G

namespace L2
open PySem PySem.Spec PyProof.Rows
end L2
namespace G
open PySem PySem.Spec PyProof.Rows L2
noncomputable abbrev P3:=Int×Int×Int
noncomputable def pV(m:P3):List V:=[.int m.1,.int m.2.1,.int m.2.2]
theorem Nk{H:Hp}{ts:List V}{Ms:List P3}{i:Nat}{x:V}(h:Yb H ts (Ms.map pV))(e:ts[i]?=some x):∃ t m,x=.ref t/\Ms[i]?=some m/\H t=some (.tup (pV m)):=by
 obtain⟨t,r,h1,h2,h3⟩:=h.get e;rw[z0x] at h2
 cases q:Ms[i]? with
 | none=>rw[q] at h2;cases h2
 | some m=>rw[q] at h2;cases h2;exact⟨t,m,h1,rfl,h3⟩
theorem Yb.reverse{H:Hp}:∀ {ts:List V} {R:List (List V)},Yb H ts R->Yb H ts.reverse R.reverse
 | _,_,.nil=>.nil
 | _,_,.cons h q=>by rw[z2u,z2u];exact(Yb.reverse q).snoc h
noncomputable def So(Rs:List (List Row))(h gu d:Int)(os:List V)(rest:Int)(m:P3):Bool:=(whyS Rs m.1 m.2.1 m.2.2 h gu d (inV (.int m.1) os) rest).isEmpty
inductive Ju(K:PySem.W.Frag)(C:Addr)(vs:List V)(H:Hp)(Q:VK)(_:XK):Prop where
 | mk(lp lo tm p lr ld:Addr)(Rs:List (List Row))(ts:List V)(Ms:List P3)(os:List V)(h gu d rest:Int)(_:vs=[.ref lp,.ref tm,.ref lo,.ref p,.int rest])(_:H lp=some (.lst ts))(_:Yb H ts (Ms.map pV))(_:H lo=some (.lst os))(_:(∀ x∈os,oneV x))(_:H tm=some (.tup [.int h,.int gu,.int d]))(_:V5 C H p lr ld Rs)(_:Ms.length<=1000)(_:∀ l H',H' l=some (.lst ((Ms.filter (So Rs h gu d os rest)).map fun m=>V.int m.1))->Same H H'->H l=none->Q (.ref l) H')
theorem zbz{Rs:List (List Row)}{n c rest:Int}(hr:0<=rest):Sm Rs n c rest=true↔∃ rs∈Rs.drop ((Rs.length:Int)-rest).toNat,∃ r∈rs,hit n c r=true:=by
 rw[zby];constructor
 ·rintro⟨j,rs,h1,h2,h3⟩
  obtain⟨r,hr1,hr2⟩:=List.any_eq_true.mp h2;refine⟨rs,?_,r,hr1,hr2⟩;have hk:((Rs.length:Int)-rest).toNat<=j:=by omega
  refine z05 (i:=j-((Rs.length:Int)-rest).toNat) ?_;rw[List.getElem?_drop,Nat.add_sub_cancel' hk];exact h1
 ·rintro⟨rs,h1,r,h2,h3⟩
  obtain⟨i,hi,e⟩:=z13 h1;refine⟨((Rs.length:Int)-rest).toNat+i,rs,?_,List.any_eq_true.mpr ⟨r,h2,h3⟩,by omega⟩
  rw[<- List.getElem?_drop,z0u hi,e]
noncomputable def zgo(xs:List V):List Nat:=(List.range xs.length).filter fun i=>decide (xs[i]?=some .non)
noncomputable def W3(xs:List V)(n:Int):Option Nat:=(List.range xs.length).find? fun i=>decide (xs[i]?=some (.int n))
noncomputable def oN:Option Nat->V
 | none=>.non
 | some i=>.int i
inductive Fm(K:PySem.W.Frag)(vs:List V)(H:Hp)(Q:VK)(_:XK):Prop where
 | mk(b:Addr)(xs:List V)(n:Int)(_:vs=[.ref b,.int n])(_:H b=some (.lst xs))(_:(∀ x∈xs,oneV x))(_:xs.length<=100)(_:∀ H',Same H H'->Q (oN (W3 xs n)) H')
noncomputable def Yw:List (Nat×Option Int)->List V->List V
 | [],xs=>xs
 | (p,w) :: r,xs=>Yw r (xs.set p (oV w))
noncomputable def Uy(s:Nat×Option Int):List V:=[.int (s.1:Nat),oV s.2]
inductive Mu(K:PySem.W.Frag)(vs:List V)(H:Hp)(Q:VK)(_:XK):Prop where
 | mk(b c:Addr)(xs ts:List V)(st:List (Nat×Option Int))(_:vs=[.ref b,.ref c])(_:H b=some (.lst xs))(_:H c=some (.lst ts))(_:Yb H ts (st.map Uy))(_:(∀ s∈st,s.1<xs.length))(_:(∀ x∈xs,oneV x))(_:xs.length<=100)(_:st.length<=100)(_:∀ l H',H' l=some (.lst (Yw st xs))->Same H H'->H l=none->Q (.ref l) H')
theorem Wh:∀ (st:List (Nat×Option Int)) (xs:List V),(Yw st xs).length=xs.length
 | [],_=>rfl
 | (p,w) :: r,xs=>by rw[Yw,Wh r,z2k]
theorem Ce(xs:List V)(n:Int):(W3 xs n=none/\∀ i:Nat,xs[i]?≠some (V.int n))\/∃ i:Nat,W3 xs n=some i/\xs[i]?=some (V.int n):=by
 unfold W3;cases h:(List.range xs.length).find? fun i=>decide (xs[i]?=some (.int n)) with
 | none =>
   refine .inl ⟨rfl,fun i e=>?_⟩
   have hi:i<xs.length:=(z0v.mp e).1;have:=List.find?_eq_none.mp h i (z15.mpr hi);exact this (z01 e)
 | some i =>
   have:=List.find?_some h;exact .inr ⟨i,rfl,of_decide_eq_true this⟩
theorem zb0(xs:List V)(k:Nat):Ho xs (some (k:Int)) none=xs.drop k:=by
 unfold Ho;rw[HT.sIx_nat,HT.sIx_none];by_cases h:k<=xs.length
 ·rw[Nat.min_eq_left h,<- List.length_drop,z1b]
 ·rw[Nat.min_eq_right (by omega),List.drop_length,List.take_nil,List.drop_eq_nil_of_le (by omega)]
inductive ILs(H:Hp):List Addr->List (List Int)->Prop where
 | nil:ILs H [] []
 | cons {l:Addr} {ls:List Addr} {r:List Int} {R:List (List Int)} (h:H l=some (.lst (r.map V.int))) (n:ILs H ls R):ILs H (l :: ls) (r :: R)
theorem ILs.keep{H H':Hp}:∀ {ls:List Addr} {R:List (List Int)},(∀ l∈ls,∀ o,H l=some o->H' l=some o)->ILs H ls R->ILs H' ls R
 | _,_,_,.nil=>.nil
 | _,_,k,.cons h r=>.cons (k _ z1o _ h) (ILs.keep (fun l hl=>k l (z1e _ hl)) r)
theorem ILs.same{H H':Hp}(e:Same H H'){ls:List Addr}{R:List (List Int)}(h:ILs H ls R):ILs H' ls R:=h.keep fun l _ o q=>e _ _ q
theorem ILs.length{H:Hp}:∀ {ls:List Addr} {R:List (List Int)},ILs H ls R->ls.length=R.length
 | _,_,.nil=>rfl
 | _,_,.cons _ r=>by simp[ILs.length r]
theorem ILs.snoc{H:Hp}{l:Addr}{x:List Int}(h:H l=some (.lst (x.map V.int))):∀ {ls:List Addr} {R:List (List Int)},ILs H ls R->ILs H (ls++[l]) (R++[x])
 | _,_,.nil=>.cons h .nil
 | _,_,.cons h' r=>.cons h' (ILs.snoc h r)
theorem ILs.has{H:Hp}:∀ {ls:List Addr} {R:List (List Int)} {l:Addr},ILs H ls R->l∈ls->∃ xs,H l=some (.lst xs)
 | _,_,_,.nil,e=>by simp at e
 | _,_,_,.cons h r,e=>by
   rcases z00.mp e with rfl|e
   ·exact⟨_,h⟩
   ·exact ILs.has r e
theorem ILs.getR{H:Hp}:∀ {ls:List Addr} {R:List (List Int)} {i:Nat} {r:List Int},ILs H ls R->R[i]?=some r->∃ l,ls[i]?=some l/\H l=some (.lst (r.map V.int))
 | _,_,_,_,.nil,e=>by simp at e
 | _,_,0,_,.cons h _,e=>by simp at e;subst e;exact⟨_,rfl,h⟩
 | _,_,i+1,x,.cons _ r,e=>by
   obtain⟨t,h1,h2⟩:=ILs.getR (i:=i) (r:=x) r (by simpa using e)
   exact⟨t,by simpa using h1,h2⟩
structure Jv(rows:List (List Int))(nu:List Int):Prop where
 few:rows.length<=20
 crowd:nu.length<=30
 inj:nu.Nodup
 rng:∀ n∈nu,1<=n/\n<=999
 sub:∀ r∈rows,r.Nodup/\∀ n∈r,n∈nu
structure Y4(rows:List (List Int))(gs:List V):Prop where
 len:gs.length=rows.length
 one:∀ x∈gs,oneV x
 may:∀ (k:Nat) (n:Int),gs[k]?=some (.int n)->∃ r,rows[k]?=some r/\n∈r
 inj:∀ (j k:Nat) (n:Int),gs[j]?=some (.int n)->gs[k]?=some (.int n)->j=k
noncomputable def Pj(rows:List (List Int))(gs:List V)(p:Nat):Prop:=∃ S:Nat->Prop,S p/\∀ q,S q->q<rows.length/\∀ r,rows[q]?=some r->∀ n∈r,∃ q',q' < p/\gs[q']?=some (.int n)/\S q'
noncomputable def Tg(rows:List (List Int))(gs:List V):Prop:=∀ p,gs[p]?=some .non->Pj rows gs p
inductive zd3(K:PySem.W.Frag)(vs:List V)(H:Hp)(Q:VK)(_:XK):Prop where
 | mk(l:Addr)(ls:List Addr)(rows:List (List Int))(nu:List Int)(_:vs=[.ref l])(_:H l=some (.lst (ls.map V.ref)))(_:ILs H ls rows)(_:Jv rows nu)(_:∀ l' gs H',H' l'=some (.lst gs)->Y4 rows gs->Tg rows gs->Same H H'->H l'=none->Q (.ref l') H')
inductive Ls(K:PySem.W.Frag)(vs:List V)(H:Hp)(Q:VK)(_:XK):Prop where
 | mk(l lg:Addr)(ls:List Addr)(rows:List (List Int))(gs:List V)(_:vs=[.ref l,.ref lg])(_:H l=some (.lst (ls.map V.ref)))(_:ILs H ls rows)(_:rows.length<=100)(_:H lg=some (.lst gs))(_:Y4 rows gs)(_:∀ H',Same H H'->Q (.bl true) H')
theorem K9{n:Int}{r:List Int}:inV (.int n) (r.map V.int)=decide (n∈r):=by
 induction r with
 | nil=>rfl
 | cons x r ih =>
   unfold inV at ih ⊢
   rw[z04,z2t,ih];have e:eqV (.int x) (.int n)=decide (n=x):=by
    show (x == n)=_;by_cases h:n=x
    ·subst h;simp
    ·rw[z07 h];exact z1g.mpr (Ne.symm h)
   rw[e];by_cases h:n=x
   ·subst h;simp
   ·by_cases h2:n∈r<;>simp[h,h2]
theorem zb1(r:List Int):(r.map V.int).all Rf=true:=by
 rw[List.all_map];exact z2w.mpr fun _ _=>rfl
end G

namespace G
open PySem PySem.Spec PyProof.Rows L2
noncomputable def newS(st:List (Nat×Option Int))(k:Nat):List V:=(st.filter fun s=>decide (s.1=k)).map fun s=>oV s.2
theorem Fn:∀ (st:List (Nat×Option Int)) (xs:List V) (k:Nat),(st.map (·.1)).Nodup->k<xs.length->(Yw st xs)[k]?=some ((newS st k++[xs.getD k .non]).getD 0 .non)
 | [],xs,k,_,hk=>by
   rw[Yw,z0u hk];show _=some (xs.getD k .non);rw[z1l,z0u hk];rfl
 | (p,w) :: r,xs,k,nd,hk=>by
   rw[z04,z1i] at nd
   rw[Yw,Fn r _ k nd.2 (by rw[z2k];exact hk)]
   by_cases h:p=k
   ·subst h
    have e:newS r p=[]:=by
     unfold newS;rw[List.map_eq_nil_iff,List.filter_eq_nil_iff];intro s hs z;exact nd.1 (z02.mpr ⟨s,hs,of_decide_eq_true z⟩)
    have e2:newS ((p,w) :: r) p=oV w :: newS r p:=by
     unfold newS;rw[z2d,if_pos (z01 rfl),z04]
    rw[e2,e];show some ((xs.set p (oV w)).getD p .non)=some (oV w);rw[z1l,z1y hk];rfl
   ·have e2:newS ((p,w) :: r) k=newS r k:=by
     unfold newS;rw[z2d,if_neg (by rw[z07 h];decide)]
    rw[e2];have e3:(xs.set p (oV w)).getD k .non=xs.getD k .non:=by
     rw[z1l,z1l,z1x h]
    rw[e3]
section
variable{rows:List (List Int)}{gs:List V}
noncomputable def adjN(rows:List (List Int))(gs:List V)(q:Nat)(n:Int)(q':Nat):Prop:=(∃ r,rows[q]?=some r/\n∈r)/\gs[q']?=some (.int n)
noncomputable def Oh(rows:List (List Int))(gs:List V)(q:Nat)(n:Int):Prop:=(∃ r,rows[q]?=some r/\n∈r)/\∀ j:Nat,gs[j]?≠some (V.int n)
noncomputable def Tp(rows:List (List Int))(gs:List V)(q:Nat):Prop:=∃ n,Oh rows gs q n
inductive Walk(rows:List (List Int))(gs:List V)(p:Nat):Nat->Nat->Prop where
 | nil:Walk rows gs p p 0
 | snoc {q q' k:Nat} {n:Int} (h:Walk rows gs p q k) (a:adjN rows gs q n q'):Walk rows gs p q' (k+1)
theorem Walk.cons{p p' q k:Nat}{n:Int}(a:adjN rows gs p n p')(h:Walk rows gs p' q k):Walk rows gs p q (k+1):=by
 induction h with
 | nil=>exact .snoc .nil a
 | snoc _ a' ih=>exact .snoc ih a'
inductive Ch(rows:List (List Int))(gs:List V):Nat->List (Nat×Option Int)->Nat->Option Int->Prop where
 | one (q:Nat) (w:Option Int):Ch rows gs q [(q,w)] q w
 | step {q q' e:Nat} {n:Int} {st:List (Nat×Option Int)} {w:Option Int} (a:adjN rows gs q n q') (h:Ch rows gs q' st e w):Ch rows gs q ((q,some n) :: st) e w
theorem Ch.pos{q e:Nat}{st:List (Nat×Option Int)}{w:Option Int}(h:Ch rows gs q st e w):0<st.length:=by cases h<;>simp
theorem Ch.walk{q e:Nat}{st:List (Nat×Option Int)}{w:Option Int}(h:Ch rows gs q st e w):Walk rows gs q e (st.length-1):=by
 induction h with
 | one q w=>exact .nil
 | step a h ih =>
   have:=h.pos;have e:=Walk.cons a ih;rw[z1h,Nat.add_sub_cancel];rw[Nat.sub_add_cancel this] at e
   exact e
theorem Ch.drop{q e:Nat}{st:List (Nat×Option Int)}{w:Option Int}(h:Ch rows gs q st e w):∀ x∈st.map (·.1),∃ st',Ch rows gs x st' e w/\st'.length<=st.length:=by
 induction h with
 | one q w=>intro x hx;simp at hx;subst hx;exact⟨_,.one _ _,z03 _⟩
 | @step q q' e n st w a h ih =>
   intro x hx;rw[z04] at hx
   rcases z00.mp hx with z|z
   ·subst z;exact⟨_,.step a h,z03 _⟩
   ·obtain⟨st',h1,h2⟩:=ih x z
    exact⟨st',h1,by rw[z1h];omega⟩
theorem Ch.hd{q e:Nat}{st:List (Nat×Option Int)}{w:Option Int}(h:Ch rows gs q st e w):∃ x r,st=(q,x) :: r:=by cases h<;>exact⟨_,_,rfl⟩
theorem Ch.last{q e:Nat}{st:List (Nat×Option Int)}{w:Option Int}(h:Ch rows gs q st e w):e∈st.map (·.1):=by
 induction h with
 | one q w=>simp
 | step a h ih=>rw[z04];exact z1e _ ih
theorem Ch.nodup{q e:Nat}{st:List (Nat×Option Int)}{w:Option Int}(h:Ch rows gs q st e w)(hm:∀ k,Walk rows gs q e k->st.length<=k+1):(st.map (·.1)).Nodup:=by
 induction h with
 | one q w=>simp
 | @step q q' e n st w a h ih =>
   rw[z04,z1i];refine⟨fun hq=>?_,ih fun k hk=>?_⟩
   ·obtain⟨st',h1,h2⟩:=h.drop q hq
    have:=hm _ h1.walk;have:=h1.pos;rw[z1h] at *
    omega
   ·have:=hm _ (Walk.cons a hk)
    rw[z1h] at this
    omega
theorem Ch.mem{q e:Nat}{st:List (Nat×Option Int)}{w:Option Int}(h:Ch rows gs q st e w):∀ (k:Nat) (n:Int),(k,some n)∈st->(adjN rows gs k n k\/True)/\(((∃ r,rows[k]?=some r/\n∈r)/\∃ k',gs[k']?=some (V.int n)/\k'∈st.tail.map (·.1))\/(w=some n/\k=e)):=by
 induction h with
 | one q w =>
   intro k n hk;simp at hk
   exact⟨.inr trivial,.inr ⟨hk.2.symm,hk.1⟩⟩
 | @step q q' e n' st w a h ih =>
   intro k n hk;refine⟨.inr trivial,?_⟩;rcases z00.mp hk with z|z
   ·cases z
    refine .inl ⟨a.1,q',a.2,?_⟩;obtain⟨x,r,e⟩:=h.hd;rw[e];simp
   ·rcases(ih k n z).2 with ⟨h1,k',h2,h3⟩|h1
    ·refine .inl ⟨h1,k',h2,?_⟩
     show k'∈st.map (·.1)
     obtain⟨x,r,e⟩:=h.hd;rw[e] at h3 ⊢
     exact z1e _ h3
    ·exact .inr h1
theorem Ch.inj{q e:Nat}{st:List (Nat×Option Int)}{w:Option Int}(FP:Y4 rows gs)(h:Ch rows gs q st e w)(hw:∀ n,w=some n->∀ j:Nat,gs[j]?≠some (V.int n))(nd:(st.map (·.1)).Nodup):∀ (j k:Nat) (n:Int),(j,some n)∈st->(k,some n)∈st->j=k:=by
 induction h with
 | one q w=>intro j k n h1 h2;simp at h1 h2;rw[h1.1,h2.1]
 | @step q q' e n' st w a h ih =>
   intro j k n h1 h2;rw[z04,z1i] at nd
   have key:∀ k,(k,some n')∈st->False:=fun k hk=>by
    rcases(h.mem k n' hk).2 with ⟨_,k',h2,h3⟩|⟨h1,_⟩
    ·have e:k'=q':=FP.inj k' q' n' h2 a.2
     subst e;obtain⟨x,r,e⟩:=h.hd;have nd2:=nd.2;rw[e] at nd2 h3
     rw[z04,z1i] at nd2
     exact nd2.1 h3
    ·exact hw n' h1 q' a.2
   rcases z00.mp h1 with z1|z1<;>rcases z00.mp h2 with z2|z2
   ·cases z1;cases z2;rfl
   ·cases z1;exact(key k z2).elim
   ·cases z2;exact(key j z1).elim
   ·exact ih hw nd.2 j k n z1 z2
theorem zd4{st:List (Nat×Option Int)}{k:Nat}(nd:(st.map (·.1)).Nodup):(k∉st.map (·.1)/\newS st k=[])\/∃ w,(k,w)∈st/\newS st k=[oV w]:=by
 induction st with
 | nil=>exact .inl ⟨by simp,rfl⟩
 | cons s r ih =>
   obtain⟨p,w⟩:=s;rw[z04,z1i] at nd
   by_cases h:p=k
   ·subst h
    refine .inr ⟨w,z1o,?_⟩;rcases ih nd.2 with ⟨_,e⟩|⟨w',h1,_⟩
    ·have e2:newS ((p,w) :: r) p=oV w :: newS r p:=by
      unfold newS;rw[z2d,if_pos (z01 rfl),z04]
     rw[e2,e]
    ·exact absurd (z02.mpr ⟨_,h1,rfl⟩) nd.1
   ·have e2:newS ((p,w) :: r) k=newS r k:=by
     unfold newS;rw[z2d,if_neg (by rw[z07 h];decide)]
    rw[e2];rcases ih nd.2 with ⟨h1,e⟩|⟨w',h1,e⟩
    ·exact .inl ⟨fun z=>by rcases z00.mp z with q|q;exact h q.symm;exact h1 q,e⟩
    ·exact .inr ⟨w',z1e _ h1,e⟩
theorem W4{st:List (Nat×Option Int)}{xs:List V}{k:Nat}(nd:(st.map (·.1)).Nodup)(hk:k<xs.length):(k∉st.map (·.1)/\(Yw st xs)[k]?=xs[k]?)\/∃ w,(k,w)∈st/\(Yw st xs)[k]?=some (oV w):=by
 rw[Fn st xs k nd hk];rcases zd4 (k:=k) nd with ⟨h,e⟩|⟨w,h,e⟩
 ·refine .inl ⟨h,?_⟩
  rw[e];show some (xs.getD k .non)=_;rw[z1l,z0u hk];rfl
 ·exact .inr ⟨w,h,by rw[e];rfl⟩
theorem Ch.lt{q e:Nat}{st:List (Nat×Option Int)}{w:Option Int}(FP:Y4 rows gs)(h:Ch rows gs q st e w)(hq:q<rows.length):∀ s∈st,s.1<rows.length:=by
 induction h with
 | one q w=>intro s hs;simp at hs;subst hs;exact hq
 | @step q q' e n st w a h ih =>
   intro s hs;rcases z00.mp hs with z|z
   ·subst z;exact hq
   ·refine ih ?_ s z
    have:=(z0v.mp a.2).1;rw[FP.len] at this;exact this
theorem Ch.fill{q e:Nat}{st:List (Nat×Option Int)}{w:Option Int}(FP:Y4 rows gs)(h:Ch rows gs q st e w)(hq:q<rows.length)(hw:∀ n,w=some n->Oh rows gs e n)(nd:(st.map (·.1)).Nodup):Y4 rows (Yw st gs):=by
 have hlt:=h.lt FP hq;have hinj:=h.inj FP (fun n hn=>(hw n hn).2) nd
 have src:∀ (k:Nat) (n:Int),(k,some n)∈st->(∃ r,rows[k]?=some r/\n∈r)/\∀ j:Nat,gs[j]?=some (V.int n)->j∈st.map (·.1):=fun k n hk=>by
  rcases(h.mem k n hk).2 with ⟨h1,k',h2,h3⟩|⟨h1,rfl⟩
  ·refine⟨h1,fun j hj=>?_⟩
   rw[FP.inj j k' n hj h2];obtain⟨x,r,e⟩:=h.hd;rw[e] at h3 ⊢
   exact z1e _ h3
  ·exact⟨(hw n h1).1,fun j hj=>absurd hj ((hw n h1).2 j)⟩
 have cs:∀ k,k<gs.length->(k∉st.map (·.1)/\(Yw st gs)[k]?=gs[k]?)\/∃ w,(k,w)∈st/\(Yw st gs)[k]?=some (oV w):=fun k hk=>W4 nd hk
 have at_:∀ (k:Nat) (n:Int),(Yw st gs)[k]?=some (V.int n)->(k∉st.map (·.1)/\gs[k]?=some (V.int n))\/(k,some n)∈st:=fun k n hk=>by
  have hkl:k<gs.length:=by
   have:=(z0v.mp hk).1;rw[Wh] at this;exact this
  rcases cs k hkl with ⟨h1,e⟩|⟨w',h1,e⟩
  ·exact .inl ⟨h1,by rw[<- e];exact hk⟩
  ·rw[e] at hk
   cases w' with
   | none=>cases hk
   | some m=>cases hk;exact .inr h1
 refine⟨by rw[Wh];exact FP.len,fun x hx=>?_,fun k n hk=>?_,fun j k n hj hk=>?_⟩
 ·obtain⟨k,hk,rfl⟩:=z13 hx
  have hkl:k<gs.length:=by rw[Wh] at hk;exact hk
  have e0:=z0u hk;rcases cs k hkl with ⟨_,e⟩|⟨w',_,e⟩
  ·rw[e,z0u hkl] at e0
   rw[<- Option.some.inj e0];exact FP.one _ (z1s hkl)
  ·rw[e] at e0
   rw[<- Option.some.inj e0];exact zhx w'
 ·rcases at_ k n hk with ⟨_,h1⟩|h1
  ·exact FP.may k n h1
  ·exact(src k n h1).1
 ·rcases at_ j n hj with ⟨a1,a2⟩|a1<;>rcases at_ k n hk with ⟨b1,b2⟩|b1
  ·exact FP.inj j k n a2 b2
  ·exact absurd ((src k n b1).2 j a2) a1
  ·exact absurd ((src j n a1).2 k b2) b1
  ·exact hinj j k n a1 b1
theorem Ch.out{p0 q e:Nat}{n0:Int}{w:Option Int}{st:List (Nat×Option Int)}{S:Nat->Prop}(FP:Y4 rows gs)(hS:∀ q,S q->q<rows.length/\∀ r,rows[q]?=some r->∀ n∈r,∃ q',q' < p0/\gs[q']?=some (.int n)/\S q')(h:Ch rows gs q st e w):w=some n0->Oh rows gs e n0->¬ S q:=by
 induction h with
 | one q w =>
   intro hw hf hs;obtain⟨r,h1,h2⟩:=hf.1;obtain⟨q',_,h3,_⟩:=(hS _ hs).2 r h1 n0 h2;exact hf.2 q' h3
 | @step q q' e n st w a h ih =>
   intro hw hf hs;obtain⟨r,h1,h2⟩:=a.1;obtain⟨q'',_,h3,h4⟩:=(hS q hs).2 r h1 n h2;have:q''=q':=FP.inj q'' q' n h3 a.2;subst this;exact ih hw hf h4
theorem Pj.behind{p0 q e:Nat}{n0:Int}{st:List (Nat×Option Int)}(FP:Y4 rows gs)(S0:Pj rows gs p0)(h:Ch rows gs q st e (some n0))(hf:Oh rows gs e n0)(hq:q<rows.length)(nd:(st.map (·.1)).Nodup):Pj rows (Yw st gs) p0:=by
 obtain⟨S,hp,hS⟩:=S0;have outAll:∀ x∈st.map (·.1),¬ S x:=fun x hx=>by
  obtain⟨st',h1,_⟩:=h.drop x hx;exact h1.out FP hS rfl hf
 refine⟨S,hp,fun q1 h1=>⟨(hS q1 h1).1,fun r hr n hn=>?_⟩⟩
 obtain⟨q',h2,h3,h4⟩:=(hS q1 h1).2 r hr n hn;refine⟨q',h2,?_,h4⟩;have hkl:q' < gs.length:=(z0v.mp h3).1;rcases W4 nd hkl with ⟨_,e⟩|⟨w,h5,_⟩
 ·rw[e];exact h3
 ·exact absurd h4 (outAll q' (z02.mpr ⟨_,h5,rfl⟩))
structure Xs(rows:List (List Int))(gs:List V)(p:Nat)(st:List (Nat×Option Int))(e:Nat)(w:Option Int):Prop where
 ch:Ch rows gs p st e w
 free:∀ n,w=some n->Oh rows gs e n/\∀ q k,Walk rows gs p q k->Tp rows gs q->st.length<=k+1
 none:w=none->(∀ q k,Walk rows gs p q k->¬ Tp rows gs q)/\(∀ q k,Walk rows gs p q k->q<=e)/\∀ k,Walk rows gs p e k->st.length<=k+1
theorem Xs.nodup{p e:Nat}{st:List (Nat×Option Int)}{w:Option Int}(c:Xs rows gs p st e w):(st.map (·.1)).Nodup:=by
 refine c.ch.nodup fun k hk=>?_
 cases h:w with
 | none=>exact(c.none h).2.2 k hk
 | some n=>exact(c.free n h).2 e k hk ⟨n,(c.free n h).1⟩
theorem Xs.fill{p e:Nat}{st:List (Nat×Option Int)}{w:Option Int}(FP:Y4 rows gs)(c:Xs rows gs p st e w)(hp:p<rows.length):Y4 rows (Yw st gs):=c.ch.fill FP hp (fun n hn=>(c.free n hn).1) c.nodup
theorem zd5{p:Nat}(FP:Y4 rows gs)(hp:p<rows.length)(ha:∀ q n,gs[q]?=some (V.int n)->q<p)(hn:∀ q k,Walk rows gs p q k->¬ Tp rows gs q):Pj rows gs p:=by
 refine⟨fun q=>∃ k,Walk rows gs p q k,⟨0,.nil⟩,fun q ⟨k,hk⟩=>⟨?_,fun r hr n hnr=>?_⟩⟩
 ·cases hk with
  | nil=>exact hp
  | snoc _ a =>
    have:=(z0v.mp a.2).1;rw[FP.len] at this;exact this
 ·by_cases hx:∃ j:Nat,gs[j]?=some (V.int n)
  ·obtain⟨j,hj⟩:=hx
   exact⟨j,ha j n hj,hj,k+1,.snoc hk ⟨⟨r,hr,hnr⟩,hj⟩⟩
  ·exact absurd ⟨n,⟨r,hr,hnr⟩,fun j hj=>hx ⟨j,hj⟩⟩ (hn q k hk)
end
section
variable{rows:List (List Int)}{gs:List V}{p:Nat}
structure Bfs(rows:List (List Int))(gs:List V)(p:Nat)(line:List Nat)(dep:Nat->Nat):Prop where
 nodup:line.Nodup
 memp:p∈line
 d0:dep p=0
 walk:∀ q∈line,Walk rows gs p q (dep q)
 sorted:∀ (i j q q':Nat),i<=j->line[i]?=some q->line[j]?=some q'->dep q<=dep q'
noncomputable def Done(rows:List (List Int))(gs:List V)(line:List Nat)(dep:Nat->Nat)(dn:Nat):Prop:=∀ (i q:Nat),i<dn->line[i]?=some q->∀ n q',adjN rows gs q n q'->q'∈line/\dep q'<=dep q+1
theorem zb2(rows:List (List Int))(gs:List V)(p:Nat):Bfs rows gs p [p] (fun _=>0):=by
 refine⟨by simp,by simp,rfl,fun q hq=>?_,fun i j q q' _ _ _=>z03 _⟩
 simp at hq;subst hq;exact .nil
variable{line:List Nat}{dep:Nat->Nat}{dn:Nat}
theorem Bfs.reach(B:Bfs rows gs p line dep)(D:Done rows gs line dep dn){q k:Nat}(h:Walk rows gs p q k):(q∈line/\dep q<=k)\/∃ j q',dn<=j/\line[j]?=some q'/\dep q' < k:=by
 induction h with
 | nil=>exact .inl ⟨B.memp,by rw[B.d0];exact z03 _⟩
 | @snoc q q' k n h a ih =>
   rcases ih with ⟨h1,h2⟩|⟨j,x,h1,h2,h3⟩
   ·obtain⟨i,hi,e⟩:=z13 h1
    have e':line[i]?=some q:=by rw[z0u hi,e]
    by_cases hd:i<dn
    ·obtain⟨a1,a2⟩:=D i q hd e' n q' a
     exact .inl ⟨a1,by omega⟩
    ·exact .inr ⟨i,q,by omega,e',by omega⟩
   ·exact .inr ⟨j,x,h1,h2,by omega⟩
theorem Bfs.full(B:Bfs rows gs p line dep)(D:Done rows gs line dep line.length){q k:Nat}(h:Walk rows gs p q k):q∈line/\dep q<=k:=by
 rcases B.reach D h with z|⟨j,x,h1,h2,_⟩
 ·exact z
 ·have:=(z0v.mp h2).1;omega
theorem Bfs.early(B:Bfs rows gs p line dep)(D:Done rows gs line dep dn){here q k:Nat}(hh:line[dn]?=some here)(h:Walk rows gs p q k)(hk:k<dep here):∃ i,i<dn/\line[i]?=some q:=by
 rcases B.reach D h with ⟨h1,h2⟩|⟨j,x,h1,h2,h3⟩
 ·obtain⟨i,hi,e⟩:=z13 h1
  have e':line[i]?=some q:=by rw[z0u hi,e]
  refine⟨i,?_,e'⟩;by_cases hd:i<dn
  ·exact hd
  ·have:=B.sorted dn i here q (by omega) hh e'
   omega
 ·have:=B.sorted dn j here x h1 hh h2
  omega
theorem Bfs.fewest(B:Bfs rows gs p line dep)(D:Done rows gs line dep dn){here:Nat}(hh:line[dn]?=some here)(hno:∀ (i q:Nat),i<dn->line[i]?=some q->¬ Tp rows gs q){q k:Nat}(h:Walk rows gs p q k)(hf:Tp rows gs q):dep here+1<=k+1:=by
 by_cases hk:k<dep here
 ·obtain⟨i,hi,e⟩:=B.early D hh h hk
  exact absurd hf (hno i q hi e)
 ·omega
noncomputable def V6(dep:Nat->Nat)(q d:Nat):Nat->Nat:=fun x=>if x=q then d else dep x
theorem Bfs.app(B:Bfs rows gs p line dep){here q':Nat}{n:Int}(hh:line[dn]?=some here)(near:∀ x∈line,dep x<=dep here+1)(a:adjN rows gs here n q')(hn:q'∉line) :
  Bfs rows gs p (line++[q']) (V6 dep q' (dep here+1))/\(∀ x∈line,V6 dep q' (dep here+1) x=dep x)/\∀ x∈line++[q'],V6 dep q' (dep here+1) x<=dep here+1:=by
 have old:∀ x∈line,V6 dep q' (dep here+1) x=dep x:=fun x hx=>by
  unfold V6;rw[if_neg (fun (z:x=q')=>hn (by rw[<- z];exact hx))]
 have new:V6 dep q' (dep here+1) q'=dep here+1:=by unfold V6;rw[if_pos rfl]
 have hhm:=z05 hh;have all:∀ x∈line++[q'],V6 dep q' (dep here+1) x<=dep here+1:=fun x hx=>by
  rcases z06.mp hx with z|z
  ·rw[old x z];exact near x z
  ·rw[z0z.mp z,new];exact z03 _
 refine⟨⟨Ej B.nodup hn,z1m _ B.memp,by rw[old p B.memp];exact B.d0,fun q hq=>?_,fun i j x y hij hx hy=>?_⟩,old,all⟩
 ·rcases z06.mp hq with z|z
  ·rw[old q z];exact B.walk q z
  ·rw[z0z.mp z,new];exact .snoc (B.walk here hhm) a
 ·by_cases hj:j<line.length
  ·rw[z1w hj] at hy
   rw[z1w (by omega)] at hx
   rw[old x (z05 hx),old y (z05 hy)];exact B.sorted i j x y hij hx hy
  ·rw[z1u (by omega)] at hy
   have:y=q':=by
    cases e:j-line.length with
    | zero=>rw[e] at hy;simpa using hy.symm
    | succ m=>rw[e] at hy;simp at hy
   subst this;rw[new];exact all x (z05 hx)
theorem Done.app{line':List Nat}{dep':Nat->Nat}(D:Done rows gs line dep dn)(hd:dn<=line.length)(hl:∃ r,line'=line++r)(he:∀ x∈line,dep' x=dep x):Done rows gs line' dep' dn:=fun i q hi e n q' a=>by
 obtain⟨r,rfl⟩:=hl;rw[z1w (by omega)] at e
 obtain⟨h1,h2⟩:=D i q hi e n q' a;exact⟨z1m _ h1,by rw[he q' h1,he q (z05 e)];exact h2⟩
noncomputable def Sf(rows:List (List Int))(gs:List V)(p:Nat)(line:List Nat)(dep:Nat->Nat)(fr:Nat->Option (Nat×Int)):Prop:=fr p=none/\∀ q∈line,q≠p->∃ par n,fr q=some (par,n)/\par∈line/\adjN rows gs par n q/\dep q=dep par+1
theorem Sf.back{fr:Nat->Option (Nat×Int)}(d0:dep p=0)(F:Sf rows gs p line dep fr):∀ (d q e:Nat) (w:Option Int) (st:List (Nat×Option Int)),dep q=d->q∈line->Ch rows gs q st e w->∃ pre,Ch rows gs p (pre++st) e w/\pre.length=d:=fun d=>by
 induction d with
 | zero =>
   intro q e w st hd hq h;by_cases hp:q=p
   ·subst hp;exact⟨[],h,rfl⟩
   ·obtain⟨par,n,_,_,_,h4⟩:=F.2 q hq hp
    omega
 | succ d ih =>
   intro q e w st hd hq h;by_cases hp:q=p
   ·subst hp;rw[d0] at hd;cases hd
   ·obtain⟨par,n,h1,h2,h3,h4⟩:=F.2 q hq hp
    obtain⟨pre,h5,h6⟩:=ih par e w _ (by omega) h2 (.step h3 h)
    exact⟨pre++[(par,some n)],by rw[z2l];exact h5,by rw[z0w,h6];rfl⟩
theorem Af{here:Nat}{n:Int}{st:List (Nat×Option Int)}(B:Bfs rows gs p line dep)(D:Done rows gs line dep dn)(hh:line[dn]?=some here)(hno:∀ (i q:Nat),i<dn->line[i]?=some q->¬ Tp rows gs q)(hf:Oh rows gs here n)(c:Ch rows gs p st here (some n))(hl:st.length=dep here+1):Xs rows gs p st here (some n) :=
 ⟨c,fun m e=>by cases e;exact⟨hf,fun q k hk hq=>by rw[hl];exact B.fewest D hh hno hk hq⟩,(fun z=>nomatch z)⟩
theorem Ag{e:Nat}{st:List (Nat×Option Int)}(B:Bfs rows gs p line dep)(D:Done rows gs line dep line.length)(hno:∀ q∈line,¬ Tp rows gs q)(he:∀ q∈line,q<=e)(c:Ch rows gs p st e none)(hl:st.length=dep e+1):Xs rows gs p st e none :=
 ⟨c,(fun m z=>nomatch z),fun _=>⟨fun q k hk=>hno q (B.full D hk).1,fun q k hk=>he q (B.full D hk).1,fun k hk=>by rw[hl];have:=(B.full D hk).2;omega⟩⟩
end
end G

namespace L2
open PySem PySem.Spec PyProof.Rows
inductive zhy(x:V)(vs:List V)(H:Hp)(Q:VK):Prop where
 | mk(l:Addr)(xs:List V)(y:V)(j:Nat)(_:x=.ref l)(_:vs=[y])(_:H l=some (.lst xs))(_:Rf y=true)(_:xs.all Rf=true)(_:(∃ z,xs[j]?=some z/\eqV z y=true))(_:(∀ m z,m<j->xs[m]?=some z->eqV z y=false))(_:Q (.int (j:Nat)) H)
theorem zd6{X:Cx}:MtM X "list.index" zhy:=by
 intro pins s σ H x vs v us Q I rx rv h;obtain⟨l,xs,y,j,rfl,rfl,hH,fy,fs,⟨zj,hzj,hej⟩,hno,q⟩:=h;cases rx;obtain⟨u,rfl,ru⟩:=rv.one;obtain⟨z,its,n,r,hl,e⟩:=I.lstM hH;have hjx:j<xs.length:=(z0v.mp hzj).1;have hj:j<its.toArray.size:=by rw[z08];omega
 have hline:=Od;have ev:∀ (m:Nat) (hm:m<its.toArray.size) (w:V),xs[m]?=some w->eqU y (its.toArray[m]'hm)=eqV w y:=fun m hm w hw=>by
  obtain⟨uu,hu,ruu⟩:=r.get hw;have:its.toArray[m]'hm=uu:=by
   have h1:its[m]?=some (its.toArray[m]'hm):=by simp
   rw[h1] at hu;exact Option.some.inj hu
  rw[this];refine B6 ruu ?_;exact z2w.mp fs w (z05 hw)
 refine call_meets PySem.F.slot_list_index ⟨_,e,rfl⟩ PySem.F.entry_list_index (PySem.F.args_list_index_2 _ _) (SeqAt.list_indexAt l its.toArray n none #[] u (eqU y) j hj (by omega) (by rw[ev j hj zj hzj];exact hej) (fun m hm hmj=>?_)) ⟨e,fun w hw=>Rg ru fy r fs w (by simpa using hw),?_⟩
 ·have hmx:m<xs.length:=by rw[z08] at hm;omega
  have hw:xs[m]?=some (xs[m]'hmx):=z0u hmx;rw[ev m hm _ hw];exact hno m _ hmj hw
 ·exact⟨.int (j:Nat),H,I.tok _,⟨_,rfl⟩,q⟩
end L2
namespace G
open PySem PySem.Spec PyProof.Rows L2
theorem zji{H:Hp}{ts:List V}{st:List (Nat×Option Int)}{i:Nat}{s:Nat×Option Int}(h:Yb H ts (st.map Uy))(e:st[i]?=some s):∃ t,ts[i]?=some (.ref t)/\H t=some (.tup (Uy s)):=by
 have e':(st.map Uy)[i]?=some (Uy s):=by rw[z0x,e];rfl
 exact h.getR e'
theorem Ja{z:V}{n:Int}(ho:oneV z):eqV z (.int n)=true↔z=.int n:=by
 rcases ho with rfl|⟨i,rfl⟩
 ·constructor
  ·intro h;cases h
  ·intro h;cases h
 ·show (i == n)=true↔_
  constructor
  ·intro h;rw[beq_iff_eq.mp h]
  ·intro h;cases h;simp
theorem zd7{gs:List V}{n:Int}(ho:∀ x∈gs,oneV x):inV (.int n) gs=true↔∃ j:Nat,gs[j]?=some (V.int n):=by
 unfold inV;rw[List.any_eq_true];constructor
 ·rintro⟨z,hz,e⟩
  obtain⟨j,hj,rfl⟩:=z13 hz;exact⟨j,by rw[z0u hj,(Ja (ho _ hz)).mp e]⟩
 ·rintro⟨j,hj⟩
  have:=z05 hj;exact⟨_,this,(Ja (ho _ this)).mpr rfl⟩
theorem zfx(r:List Int):PyData.canLayAll0 (Wd (r.map Dt.int))=true/\PyData.depthAll (Wd (r.map Dt.int))<=1:=by
 induction r with
 | nil=>exact⟨rfl,by decide⟩
 | cons x r ih =>
   obtain⟨h1,h2⟩:=ih;refine⟨by rw[z04,Wd,PyData.canLayAll0,h1];rfl,?_⟩
   rw[z04,Wd,PyData.depthAll];have:PyData.depth (toPy (Dt.int x))<=1:=by simp[toPy,PyData.depth]
   omega
theorem zaq(r:List Int):shD (.lst (r.map Dt.int)):=by
 obtain⟨a1,a2⟩:=zfx r;unfold shD SeqAt.shaped;rw[toPy,PyData.canLay0,a1,Bool.true_and];refine z01 ?_;rw[PyData.depth];omega
theorem Es:shD (.lst []):=zaq []
theorem Et{α:Type}(f:α->Dt)(xs:List α):eqD (.lst (xs.map f)) (.lst [])=xs.isEmpty:=by
 cases xs with
 | nil=>simp[eqD,Pt]
 | cons x xs=>simp[eqD,Pt]
structure zkd(rows:List (List Int))(gs:List V)(i:Nat):Prop where
 len:gs.length=i
 one:∀ x∈gs,oneV x
 may:∀ (k:Nat) (n:Int),gs[k]?=some (.int n)->∃ r,rows[k]?=some r/\n∈r
 inj:∀ (j k:Nat) (n:Int),gs[j]?=some (.int n)->gs[k]?=some (.int n)->j=k
theorem Y4.drop{rows:List (List Int)}{gs:List V}(F:Y4 rows gs)(p:Nat):Y4 rows (gs.set p .non):=by
 have cs:∀ (k:Nat) (n:Int),(gs.set p .non)[k]?=some (.int n)->k≠p/\gs[k]?=some (.int n):=fun k n h=>by
  by_cases e:k=p
  ·subst e
   by_cases hk:k<gs.length
   ·rw[z1y hk] at h;cases h
   ·rw[List.getElem?_eq_none (by rw[z2k];omega)] at h;cases h
  ·rw[z1x (Ne.symm e)] at h;exact⟨e,h⟩
 refine⟨by rw[z2k];exact F.len,fun x hx=>?_,fun k n h=>F.may k n (cs k n h).2,fun j k n h1 h2=>F.inj j k n (cs j n h1).2 (cs k n h2).2⟩
 rcases List.mem_or_eq_of_mem_set hx with z|z
 ·exact F.one x z
 ·exact .inl z
theorem Y4.without{rows:List (List Int)}{gs:List V}{p:Nat}{x:V}(F:Y4 rows gs)(hx:gs[p]?=some x)(f:Int->Bool)(hf:∀ n,f n=false->x=.int n):Y4 (rows.map fun r=>r.filter f) (gs.set p .non):=by
 have D:=F.drop p;refine⟨by rw[z0t];exact D.len,D.one,fun k n h=>?_,D.inj⟩
 obtain⟨r,h1,h2⟩:=D.may k n h;refine⟨r.filter f,by rw[z0x,h1];rfl,z1t.mpr ⟨h2,?_⟩⟩
 cases e:f n with
 | true=>rfl
 | false =>
   have hx':=hf n e;subst hx';have hk:k≠p:=fun z=>by
    subst z;rw[z1y (z0v.mp hx).1] at h;cases h
   rw[z1x (Ne.symm hk)] at h
   exact absurd (F.inj k p n h hx) hk
theorem Cf{t:TT}{A B:TS}{D:S5}{σ:L2.St}{H:Hp}{b:Bool}(h1:Gr t σ H b)(h:∀ H1,Same H H1->if b=true then A D σ H1 else B D σ H1):Br t A B D σ H:=h1 _ fun H1 s1=>h H1 s1
noncomputable def R9(xs:List Nat):List V:=xs.map fun k=>V.int (k:Nat)
end G

namespace L2
open PySem PySem.Spec PyProof.Rows
end L2
namespace G
open PySem PySem.Spec PyProof.Rows L2
inductive Eu(K:PySem.W.Frag)(vs:List V)(H:Hp)(Q:VK)(_:XK):Prop where
 | mk(l lg:Addr)(ls:List Addr)(rows:List (List Int))(nu:List Int)(gs:List V)(p:Nat)(_:vs=[.ref l,.ref lg,.int p])(_:H l=some (.lst (ls.map V.ref)))(_:ILs H ls rows)(_:Jv rows nu)(_:H lg=some (.lst gs))(_:Y4 rows gs)(_:p<rows.length)(_:gs[p]?=some .non)(_:∀ lt ts st e w H',H' lt=some (.lst ts)->Yb H' ts (st.map Uy)->Xs rows gs p st e w->Same H H'->H lt=none->Q (.ref lt) H')
theorem Xs.len{rows:List (List Int)}{gs:List V}{p e:Nat}{st:List (Nat×Option Int)}{w:Option Int}(FP:Y4 rows gs)(hp:p<rows.length)(c:Xs rows gs p st e w):st.length<=rows.length:=by
 have hlt:=c.ch.lt FP hp;have:=c.nodup.length_le_of_subset (l₂:=List.range rows.length) fun x hx=>by
  obtain⟨s,hs,rfl⟩:=z02.mp hx;exact z15.mpr (hlt s hs)
 rw[z0t,z19] at this;exact this
end G

namespace L2
open PySem PySem.Spec PyProof.Rows
section
variable{X:Cx}{pins:List (Addr×Obj)}{σ:List (Option V)}{H H':Hp}{s:Shared}{h':Heap}
theorem Inv.turnedL{t':Nat}{fp:List Addr}(I:Inv X pins σ H s)(hf:∀ b∈fp,FpOk X pins H b)(k:∀ b o,b∉fp->s.heap.get? b=some o->h'.get? b=some o):Inv X pins σ H { s with heap:=h',toks:=t' }:=by
 have nit:∀ b u,H b=some u->b∉fp:=fun b u e z=>by rw[(hf b z).1] at e;cases e
 refine I.step (g':=s.gens) (d':=s.drawn) (ch:=fp) (fun b hb=>?_) (fun b o _ _ hc e _=>k b o hc e) (fun b o _ _ hc e _=>⟨o.slots,k b o hc e⟩) (fun _ _ _ _ n=>n)
  (fun b o hc e=>⟨o,k b o hc e⟩) (fun _ _ e=>e) (fun _ _ _ e=>e) (fun b ps e=>⟨#[],by rw[e];simp⟩) (fun m hm=>?_) (fun b u e=>?_) I.bare
 ·obtain⟨f0,f1,f2,f3,f4,f5⟩:=hf b hb
  exact⟨f3,f1,f4,f5⟩
 ·obtain⟨o,es,ep,ho,r⟩:=hm
  exact⟨o,es,ep,k _ o (fun z=>(hf _ z).2.1 rfl) ho,r⟩
 ·refine(I.hok b u e).stay (fun c v hc q=>k c v ?_ q) (fun _ q=>q) fun _ _ q=>q
  rcases hc with z|z
  ·rw[z];exact nit b u e
  ·exact nit c _ z
theorem Inv.turnLay{t':Nat}{fp:List Addr}{a:Addr}{o:HO}(I:Inv X pins σ H s)(hf:∀ b∈fp,FpOk X pins H b)(k:∀ b o,b∉fp->s.heap.get? b=some o->h'.get? b=some o)(hp:s.heap.objs.size<=a)(new:Xa X.prog X.w (upd H a o) h' a o):Inv X pins σ (upd H a o) { s with heap:=h',toks:=t' }:=by
 have nit:∀ b u,H b=some u->b∉fp:=fun b u e z=>by rw[(hf b z).1] at e;cases e
 have hn:H a=none:=I.hok.fresh hp;have ne:∀ b u,s.heap.get? b=some u->b≠a:=fun b u e=>z1k (z1c (Heap.lt_size e) hp)
 refine I.step (g':=s.gens) (d':=s.drawn) (ch:=fp) (fun b hb=>?_) (fun b o _ _ hc e _=>k b o hc e) (fun b o _ _ hc e _=>⟨o.slots,k b o hc e⟩) (fun b u _ e n=>by rw[Zh (ne b u e)];exact n)
  (fun b o hc e=>⟨o,k b o hc e⟩) (fun b _ e=>by rw[Zh (Zg e hn)];exact e) (fun b _ _ e=>by rw[Zh (Zg e hn)];exact e) (fun b ps e=>⟨#[],by rw[Zh (Zg e hn),e];simp⟩) (fun m hm=>?_) (fun b u e=>?_) I.bare
 ·obtain⟨f0,f1,f2,f3,f4,f5⟩:=hf b hb
  exact⟨f3,f1,f4,f5⟩
 ·obtain⟨o,es,ep,ho,r⟩:=hm
  exact⟨o,es,ep,k _ o (fun z=>(hf _ z).2.1 rfl) ho,r⟩
 ·by_cases hb:b=a
  ·subst hb
   rw[Zc] at e;cases e
   exact new
  ·rw[Zh hb] at e
   refine(I.hok b u e).stay (fun c v hc q=>k c v ?_ q) (fun c q=>by rw[Zh (Zg q hn)];exact q) fun c _ q=>by rw[Zh (Zg q hn)];exact q
   rcases hc with z|z
   ·rw[z];exact nit b u e
   ·exact nit c _ z
end
noncomputable def Ite(K:PySem.W.Frag)(a:Addr):It :=
 ⟨fun i H=>∃ xs x,SqL K H a xs/\xs[i]?=some x,fun i H x H'=>∃ p y,H p=none/\(∀ xs,SqL K H a xs->xs[i]?=some y)/\x=.ref p/\H'=upd H p (.tup [.int (i:Nat),y]),fun i H=>∃ xs,SqL K H a xs/\xs.length<=i⟩
theorem zb3{P:Program}{w:World}{K:PySem.W.Frag}{elts:List Expr}{k:Nat}{tp:Pos}(a e it:Addr)(hne:e≠it):Dv P w K (.Tuple elts k tp) (Ite K a) [e,it] e (fun i h=>(∃ old,IsEnum h e it (i:Nat) old)/\h.IsListIter it a i) where
 mem:=by simp
 obj:=fun i h st b hb=>by
  obtain⟨⟨old,h1⟩,h2⟩:=st;have e:b=e\/b=it:=by simpa using hb
  rcases e with rfl|rfl
  ·exact⟨_,h1,fun v z=>by cases z⟩
  ·obtain⟨o,e,c,d⟩:=h2
   exact⟨o,e,fun v z=>by rw[d] at z;cases z⟩
 keep:=fun i h h' st k=>⟨let ⟨old,h1⟩:=st.1;⟨old,k e (by simp) _ h1⟩,st.2.at fun o q=>k it (by simp) o q⟩
 item:=by
  intro X hP hw hK hc i pins s σ H E I hf st hg;subst hP hw hK;obtain⟨xs,x,hq,hx⟩:=hg;obtain⟨its,rv,p,hz⟩:=I.list hq;obtain⟨u,hu,ru⟩:=rv.get hx;obtain⟨⟨old,h1⟩,h2⟩:=st;refine wpAny_pyNext_enum_item h1 h2 p.isList (x:=u) (by simpa using hu) hne fun h' o1 o2 o3 o4 o5=>?_
  refine⟨_,rfl,wpAny_letOwnedTupleGo_enum o1 fun h'' e1 sb=>?_⟩
  have hes:e≠s.heap.objs.size:=fun z=>by
   exact z2i _ (z▸Heap.lt_size h1)
  have kk:∀ b o,b∉[e,it]->s.heap.get? b=some o->h''.get? b=some o:=fun b o hb q=>by
   have hb':b≠e/\b≠it:=by simpa using hb
   exact(sb.2 b hb'.1).trans (o5 b o hb'.1 hb'.2 q)
  have new:h''.get? s.heap.objs.size=some { cls:=Value.type "tuple",data:=Data.seq #[Value.int (i:Nat) s.toks,u] }:=(sb.2 _ (Ne.symm hes)).trans o3;have line:=Od;refine⟨.ref s.heap.objs.size,_,I.turnLay (t':=s.toks+1) (o:=.tup [.int (i:Nat),x]) hf kk (z03 _) ⟨?_,_,.cons ⟨s.toks,rfl⟩ (.cons ru .nil),⟨_,new,rfl,_,rfl⟩⟩,rfl,⟨_,x,I.hok.fresh (z03 _),fun ys hy=>by rw[I.list_inj hy hq];exact hx,rfl,rfl⟩,⟨⟨u,e1⟩,o2.at fun o q=>(sb.2 it (Ne.symm hne)).trans q⟩,fun b hb=>?_⟩
  ·show 2<=sizeLine
   rw[sizeLine_eq];decide
  ·have hb':b=e\/b=it:=by simpa using hb
   have hlt:b<s.heap.objs.size:=by
    rcases hb' with rfl|rfl
    ·exact Heap.lt_size h1
    ·obtain⟨o,q,_⟩:=h2
     exact Heap.lt_size q
   rw[Zh (z1k hlt)];exact(hf b hb).1
 done:=by
  intro X hP hw hK hc i pins s σ H E I hf st hg;subst hP hw hK;obtain⟨xs,hq,hx⟩:=hg;obtain⟨its,rv,p,hz⟩:=I.list hq;obtain⟨⟨old,h1⟩,h2⟩:=st;have hl:=rv.length;exact wpAny_pyNext_enum_end (I.ok.hd hc) h1 h2 p.isList (by simp;omega) fun h' eb=>⟨rfl,I.turnedL (t':=s.toks) hf fun b o hb q=>eb b o (fun z=>hb (by simp[z])) q⟩
 self:=fun _ _ _ _ _ st h=>by
  obtain⟨⟨old,h1⟩,h2⟩:=st;exact wpAny_pyIter_enum h1 h
inductive zhz(K:PySem.W.Frag)(R:It->Hp->Prop)(vs:List V)(H1:Hp):Prop where
 | mk(a)(_:vs=[.ref a])(_:(∃ xs,SqL K H1 a xs))(_:R (Ite K a) H1)
noncomputable def zjj(K:PySem.W.Frag)(ta:TA):TI:=fun σ H R=>ta σ H fun vs H1=>zhz K R vs H1
theorem zfy{X:Cx}{K:PySem.W.Frag}{elts:List Expr}{k:Nat}{tp:Pos}{a:Expr}{ta:TA}{p pos:Pos}(hK:X.K=K)(hg:Gl X "enumerate")(hm:X.mg "enumerate"=none)(ha:PA X [a] ta)(hs:starEach [a] X.env=[(false,eval a X.env)]:=by rfl):PI X (.Tuple elts k tp) (.Call (.Name "enumerate" p) [a] [] pos) (zjj K ta):=by
 subst hK;intro pins s σ H R I h;refine Call_ (Oc I hg hm boot_enumerate (PyProof.Rows.callWith_type1 (thn (ha pos pins s σ H _ I h) fun us s1 ⟨vs,H1,I1,r1,q1⟩=>?_) hs rfl))
 obtain⟨a,e,⟨xs,hq⟩,q⟩:=q1;subst e;obtain⟨u,rfl,ru⟩:=Qo r1;cases ru;obtain⟨its,rv,pl,hz⟩:=I1.list hq;refine call_enumerate_list pl.isList fun h' e1 e2 e3 e4=>?_
 refine wpAny_pyIter_enum e1 ?_;refine⟨_,[s1.heap.objs.size+1,s1.heap.objs.size],_,_,H1,rfl,I1.kept (t':=s1.toks) e4,zb3 a _ _ (Nat.succ_ne_self _),⟨⟨_,e1⟩,e2⟩,fun b hb=>?_,q⟩
 have e:b=s1.heap.objs.size+1\/b=s1.heap.objs.size:=by simpa using hb
 rcases e with rfl|rfl
 ·exact I1.fpOk (Nat.le_succ _) (I1.hok.fresh (Nat.le_succ _))
 ·exact I1.fpOk (z03 _) (I1.hok.fresh (z03 _))
theorem zd8{K:PySem.W.Frag}{a:Addr}{xs:List V}{g:TG}{tb:TS}{D:S5}{σ:St}{H:Hp}(Pv:Nat->St->Hp->Prop)(h0:Pv 0 σ H)(hl:∀ i σ H,i<=xs.length->Pv i σ H->SqL K H a xs)
  (hs:∀ i x p σ H,xs[i]?=some x->Pv i σ H->H p=none->g (.ref p) σ (upd H p (.tup [.int (i:Nat),x])) fun σ2 H2=>tb { D with nx:=Pv (i+1),ct:=Pv (i+1),bk:=D.nx } σ2 H2) (hd:∀ σ H,Pv xs.length σ H->D.nx σ H) :
  ∃ W:Nat->Nat->St->Hp->Prop,(∃ m,W 0 m σ H)/\∀ i m σ H,W i m σ H ->
    ((Ite K a).stop i H/\D.nx σ H)\/((Ite K a).go i H/\∃ N:St->Hp->Prop,(∀ σ' H',N σ' H'->∃ m',m' < m/\W (i+1) m' σ' H')/\∀ x H',(Ite K a).yld i H x H'->g x σ H' fun σ2 H2=>tb { D with nx:=N,ct:=N,bk:=D.nx } σ2 H2):=by
 refine⟨fun i m σ H=>m=xs.length-i/\i<=xs.length/\Pv i σ H,⟨xs.length,by simp,z1j _,h0⟩,?_⟩
 rintro i m σ H ⟨rfl,hi,p⟩;have q:=hl i σ H hi p;by_cases hlt:i<xs.length
 ·refine .inr ⟨⟨xs,xs[i],q,by simp[hlt]⟩,Pv (i+1),fun σ' H' p'=>⟨xs.length-(i+1),by omega,rfl,hlt,p'⟩,fun x H' y=>?_⟩
  obtain⟨t,y,h1,h2,rfl,rfl⟩:=y;exact hs i y t σ _ (h2 xs q) p h1
 ·have e:i=xs.length:=by omega
  subst e;exact .inl ⟨⟨xs,q,z03 _⟩,hd σ H p⟩
noncomputable def Itz(K:PySem.W.Frag)(a b:Addr):It :=
 ⟨fun i H=>∃ xs ys x y,SqL K H a xs/\SqL K H b ys/\xs[i]?=some x/\ys[i]?=some y,fun i H x H'=>∃ p y z,H p=none/\(∀ xs,SqL K H a xs->xs[i]?=some y)/\(∀ ys,SqL K H b ys->ys[i]?=some z)/\x=.ref p/\H'=upd H p (.tup [y,z]),
  fun i H=>∃ xs ys,SqL K H a xs/\SqL K H b ys/\(xs.length<=i\/ys.length<=i)⟩
theorem zd9{P:Program}{w:World}{K:PySem.W.Frag}{elts:List Expr}{k:Nat}{tp:Pos}(l1 l2 z TI TO i1 i2:Addr)(hz:ZipApart z TI TO i1 i2 l1 l2):Dv P w K (.Tuple elts k tp) (Itz K l1 l2) [z,TO,i1,i2,TI] z
  (fun i h=>IsZip h z TI TO Value.none/\IsPair h TI (Value.ref i1) (Value.ref i2)/\(∃ a b,IsPair h TO a b)/\h.IsListIter i1 l1 i/\h.IsListIter i2 l2 i) where
 mem:=by simp
 obj:=fun i h st b hb=>by
  obtain⟨h1,h2,⟨a,b',h3⟩,h4,h5⟩:=st;have e:b=z\/b=TO\/b=i1\/b=i2\/b=TI:=by simpa using hb
  rcases e with rfl|rfl|rfl|rfl|rfl
  ·exact⟨_,h1,fun v z=>by cases z⟩
  ·exact⟨_,h3,fun v z=>by cases z⟩
  ·obtain⟨o,e,c,d⟩:=h4
   exact⟨o,e,fun v z=>by rw[d] at z;cases z⟩
  ·obtain⟨o,e,c,d⟩:=h5
   exact⟨o,e,fun v z=>by rw[d] at z;cases z⟩
  ·exact⟨_,h2,fun v z=>by cases z⟩
 keep:=fun i h h' st k=>by
  obtain⟨h1,h2,⟨a,b',h3⟩,h4,h5⟩:=st;exact⟨k z (by simp) _ h1,k TI (by simp) _ h2,⟨a,b',k TO (by simp) _ h3⟩,h4.at fun o q=>k i1 (by simp) o q,h5.at fun o q=>k i2 (by simp) o q⟩
 item:=by
  intro X hP hw hK hc i pins s σ H E I hf st hg;subst hP hw hK;obtain⟨xs,ys,x,y,hq,hq2,hx,hy⟩:=hg;obtain⟨its,rv,p,_⟩:=I.list hq;obtain⟨its2,rv2,p2,_⟩:=I.list hq2;obtain⟨u,hu,ru⟩:=rv.get hx;obtain⟨u2,hu2,ru2⟩:=rv2.get hy;obtain⟨h1,h2,⟨a,b',h3⟩,h4,h5⟩:=id st;refine wpAny_pyNext_zip_item hz h1 h2 h3 h4 h5 p.isList p2.isList (x:=u) (y:=u2) (by simpa using hu) (by simpa using hu2) fun h' o1 o2 o3 o4 o5 o6 o7=>?_
  refine⟨_,rfl,wpAny_letOwnedTupleGo_zip o1 fun h'' e1 sb=>?_⟩
  have lt:∀ b o,s.heap.get? b=some o->b≠s.heap.objs.size:=fun b o q=>z1k (Heap.lt_size q)
  have kk:∀ b o,b∉[z,TO,i1,i2,TI]->s.heap.get? b=some o->h''.get? b=some o:=fun b o hb q=>by
   have hb':b≠z/\b≠TO/\b≠i1/\b≠i2/\b≠TI:=by simpa using hb
   exact(sb.2 b hb'.1).trans (o7 b o hb'.1 hb'.2.1 hb'.2.2.1 hb'.2.2.2.1 q)
  have new:h''.get? s.heap.objs.size=some { cls:=Value.type "tuple",data:=Data.seq #[u,u2] }:=(sb.2 _ (Ne.symm (lt _ _ h1))).trans o5;refine⟨.ref s.heap.objs.size,_,I.turnLay (t':=s.toks) (o:=.tup [x,y]) hf kk (z03 _) ⟨?_,_,.cons ru (.cons ru2 .nil),⟨_,new,rfl,_,rfl⟩⟩,rfl,⟨_,x,y,I.hok.fresh (z03 _),fun zs hy'=>by rw[I.list_inj hy' hq];exact hx,fun zs hy'=>by rw[I.list_inj hy' hq2];exact hy,rfl,rfl⟩,
   ⟨e1,(sb.2 _ hz.TIz).trans (o7 _ _ hz.TIz hz.TITO hz.TIi1 hz.TIi2 h2),⟨_,_,(sb.2 _ hz.TOz).trans o2⟩,o3.at fun o q=>(sb.2 _ hz.i1z).trans q,o4.at fun o q=>(sb.2 _ hz.i2z).trans q⟩,fun b hb=>?_⟩
  ·show 2<=sizeLine
   rw[sizeLine_eq];decide
  ·have hne:b≠s.heap.objs.size:=by
    have e:b=z\/b=TO\/b=i1\/b=i2\/b=TI:=by simpa using hb
    rcases e with rfl|rfl|rfl|rfl|rfl
    ·exact lt _ _ h1
    ·exact lt _ _ h3
    ·obtain⟨o,q,_⟩:=h4;exact lt _ _ q
    ·obtain⟨o,q,_⟩:=h5;exact lt _ _ q
    ·exact lt _ _ h2
   rw[Zh hne];exact(hf b hb).1
 done:=by
  intro X hP hw hK hc i pins s σ H E I hf st hg;subst hP hw hK;obtain⟨xs,ys,hq,hq2,hx⟩:=hg;obtain⟨its,rv,p,_⟩:=I.list hq;obtain⟨its2,rv2,p2,_⟩:=I.list hq2;obtain⟨h1,h2,⟨a,b',h3⟩,h4,h5⟩:=st;have hl:=rv.length;have hl2:=rv2.length;exact wpAny_pyNext_zip_end (I.ok.hd hc) hz h1 h2 h3 h4 h5 p.isList p2.isList (hx.imp (fun z=>by simp;omega) fun z=>by simp;omega) fun h' eb=>⟨rfl,I.turnedL (t':=s.toks) hf fun b o hb q=>by
   have hb':b≠z/\b≠TO/\b≠i1/\b≠i2/\b≠TI:=by simpa using hb
   exact eb b o hb'.1 hb'.2.1 hb'.2.2.1 hb'.2.2.2.1 q⟩
 self:=fun _ _ _ _ _ st h=>wpAny_pyIter_zip st.1 h
inductive zjk(K:PySem.W.Frag)(R:It->Hp->Prop)(vs:List V)(H1:Hp):Prop where
 | mk(a)(b)(_:vs=[.ref a,.ref b])(_:(∃ xs,SqL K H1 a xs))(_:(∃ ys,SqL K H1 b ys))(_:R (Itz K a b) H1)
noncomputable def zj5(K:PySem.W.Frag)(ta:TA):TI:=fun σ H R=>ta σ H fun vs H1=>zjk K R vs H1
theorem zh0{X:Cx}{K:PySem.W.Frag}{elts:List Expr}{k:Nat}{tp:Pos}{a b:Expr}{ta:TA}{p pos:Pos}(hK:X.K=K)(hg:Gl X "zip")(hm:X.mg "zip"=none)(ha:PA X [a,b] ta)(hs:starEach [a,b] X.env=[(false,eval a X.env),(false,eval b X.env)]:=by rfl)(hs2:starEach [b] X.env=[(false,eval b X.env)]:=by rfl):PI X (.Tuple elts k tp) (.Call (.Name "zip" p) [a,b] [] pos) (zj5 K ta):=by
 subst hK;intro pins s σ H R I h;refine Call_ (Oc I hg hm boot_zip (PyProof.Rows.callWith_type1 (thn (ha pos pins s σ H _ I h) fun us s1 ⟨vs,H1,I1,r1,q1⟩=>?_) (by rw[hs,hs2]) (by rw[hs2];rfl)))
 obtain⟨a,b,e,⟨xs,hq⟩,⟨ys,hq2⟩,q⟩:=q1;subst e;cases r1 with
 | cons r rr =>
   obtain⟨u,rfl,ru⟩:=Qo rr;cases r;cases ru;obtain⟨its,rv,pl,hz⟩:=I1.list hq;obtain⟨its2,rv2,pl2,hz2⟩:=I1.list hq2;have lt1:@LT.lt Nat _ a s1.heap.objs.size:=by obtain⟨_,e,_⟩:=pl.isList;exact Heap.lt_size e
   have lt2:@LT.lt Nat _ b s1.heap.objs.size:=by obtain⟨_,e,_⟩:=pl2.isList;exact Heap.lt_size e
   refine call_zip_2 pl.isList pl2.isList fun h' e1 e2 e3 e4 e5 e6 e7=>?_
   refine wpAny_pyIter_zip e1 ?_;refine⟨_,[s1.heap.objs.size+4,s1.heap.objs.size+3,s1.heap.objs.size,s1.heap.objs.size+1,s1.heap.objs.size+2],_,_,H1,rfl,I1.kept (t':=s1.toks) e7,zd9 a b _ _ _ _ _ ?_,⟨e1,e2,⟨_,_,e3⟩,e4,e5⟩,fun c hb=>?_,q⟩
   ·refine⟨?_,?_,?_,?_,?_,?_,?_,?_,?_,?_,?_,?_,?_,?_,?_,?_,?_,?_⟩<;>(show @Ne Nat _ _;omega)
   have e:c=s1.heap.objs.size+4\/c=s1.heap.objs.size+3\/c=s1.heap.objs.size\/c=s1.heap.objs.size+1\/c=s1.heap.objs.size+2:=by simpa using hb
   have hle:s1.heap.objs.size<=c:=by rcases e with rfl|rfl|rfl|rfl|rfl<;>omega
   exact I1.fpOk hle (I1.hok.fresh hle)
section
variable{X:Cx}{pins:List (Addr×Obj)}{σ:List (Option V)}{H H':Hp}{s:Shared}{h':Heap}
theorem Inv.freeze{a:Addr}{o:Obj}{kvs:List (Key×V)}(I:Inv X pins σ H s)(e:H a=some (.dK kvs))(ho:s.heap.get? a=some o):Inv X pins σ (upd H a (.frz o (.dK kvs))) s:=by
 have na:∀ b u,H b=some u->u≠.dK kvs->b≠a:=fun b u q n z=>by subst z;rw[q] at e;exact n (Option.some.inj e)
 refine I.un (h':=s.heap) (t':=s.toks) ⟨fun b o q _ _ _=>q,fun b o q _ _ _=>⟨o.slots,q⟩,fun b o q n _=>?_,fun b o q _=>⟨o,q⟩,fun b ys q=>?_,fun b o v q=>?_,fun b ps q=>⟨#[],?_⟩⟩ fun b u q=>?_
 ·rw[Zh (fun z=>by subst z;rw[n] at e;cases e)];exact n
 ·rw[Zh (na b _ q fun z=>nomatch z)];exact q
 ·rw[Zh (na b _ q fun z=>nomatch z)];exact q
 ·rw[Zh (na b _ q fun z=>nomatch z),q];simp
 ·have stay:∀ {b u},Xa X.prog X.w H s.heap b u->Xa X.prog X.w (upd H a (.frz o (.dK kvs))) s.heap b u:=fun {b u} k=>k.stay (fun _ _ _ q=>q) (fun c q=>by rw[Zh (na c _ q fun z=>nomatch z)];exact q) fun c _ q=>by rw[Zh (na c _ q fun z=>nomatch z)];exact q
  by_cases hb:b=a
  ·subst hb
   rw[Zc] at q;cases q
   exact⟨ho,stay (I.hok b _ e)⟩
  ·rw[Zh hb] at q
   exact stay (I.hok b u q)
end
noncomputable def Itk(a:Addr)(o:Obj)(kvs:List (Key×V)):It :=
 ⟨fun i H=>H a=some (.frz o (.dK kvs))/\i<kvs.length,fun i H x H'=>H'=H/\∃ p,kvs[i]?=some p/\x=kV p.1,fun i H=>H a=some (.frz o (.dK kvs))/\kvs.length<=i⟩
theorem zea{X:Cx}{pins:List (Addr×Obj)}{σ:List (Option V)}{H:Hp}{s:Shared}{a:Addr}{o:Obj}{kvs:List (Key×V)}(I:Inv X pins σ H s)(e:H a=some (.frz o (.dK kvs))):∃ vs,KV kvs vs/\∃ es ep,o.data=.dict es ep/\s.heap.DictAt (Yr X.prog X.w) a vs ep:=by
 obtain⟨h1,hz,hm,vs,kv,o',es,ep,h2,h3,h4,h5⟩:=(show Xa X.prog X.w H s.heap a (.frz o (.dK kvs)) from I.hok a _ e)
 rw[h1] at h2;cases h2
 exact⟨vs,kv,es,ep,h4,o,es,h1,h3,h4,h5⟩
theorem zb4{P:Program}{w:World}{K:PySem.W.Frag}{tg:Expr}(a it:Addr)(o:Obj)(kvs:List (Key×V))(es:Array DictEntry)(ep:Nat)(ho:o.data=.dict es ep):Dv P w K tg (Itk a o kvs) [it] it (fun i h=>h.IsKeyIter it a i kvs.length ep) where
 mem:=by simp
 obj:=fun i h st b hb=>by
  have e:b=it:=by simpa using hb
  subst e;obtain⟨o,e,c,d⟩:=st;exact⟨o,e,fun v z=>by rw[d] at z;cases z⟩
 keep:=fun i h h' st k=>by
  obtain⟨o,e,c,d⟩:=st;exact⟨o,k it (by simp) o e,c,d⟩
 item:=by
  intro X hP hw hK hc i pins s σ H E I hf st hg;subst hP hw hK;obtain⟨hq,hi⟩:=hg;obtain⟨vs,kv,es',ep',h1,h2⟩:=zea I hq;rw[ho] at h1;cases h1
  obtain⟨f0,f1,f2,f3,f4,f5⟩:=hf it (by simp)
  have hl:kvs.length=vs.length:=KV.length kv;have hv:i<vs.length:=by omega
  obtain⟨⟨k,v⟩,hkv⟩:∃ kv,vs[i]'hv=kv:=⟨_,rfl⟩
  rw[hl] at st
  refine wpAny_pyNext_dict_item st h2 (k:=k) (v:=v) (by rw[z0u hv,hkv]) fun key h' hk st' sb=>?_
  have I1:Inv X pins σ H { s with heap:=h' }:=I.turned (t':=s.toks) (fun b o hb e=>(sb.2 b hb).trans e) f0 f1 f3 f4 f5
  obtain⟨o2,e2,c2,d2⟩:=id st';have ek:=congrArg (·[i]?) (KV.keys kv)
  simp only[z0x,z0u hv,z0u hi,hkv,z12] at ek
  refine⟨key,rfl,zc1 (s:={ s with heap:=h' }) e2 c2 d2 (by decide) ⟨kV (kvs[i]'hi).1,H,I1,?_,⟨rfl,_,z0u hi,rfl⟩,by rw[hl];exact st',fun b hb=>(hf b hb).1⟩⟩
  have e3:(kvs[i]'hi).1=k:=Option.some.inj ek;rw[e3];rcases Y0 hk with ⟨j,t,rfl,rfl⟩|⟨z,t,rfl,rfl⟩
  ·exact⟨t,rfl⟩
  ·exact⟨t,rfl⟩
 done:=by
  intro X hP hw hK hc i pins s σ H E I hf st hg;subst hP hw hK;obtain⟨hq,hi⟩:=hg;obtain⟨vs,kv,es',ep',h1,h2⟩:=zea I hq;rw[ho] at h1;cases h1
  obtain⟨f0,f1,f2,f3,f4,f5⟩:=hf it (by simp)
  have hl:kvs.length=vs.length:=KV.length kv;rw[hl] at st
  exact wpAny_pyNext_dict_end (I.ok.hd hc) st h2 (List.getElem?_eq_none (by omega)) fun h' eb=>⟨rfl,I.turned (t':=s.toks) (fun b o hb e=>eb b o hb e) f0 f1 f3 f4 f5⟩
 self:=fun _ _ _ _ _ st h=>wpAny_pyIter_keyiter st h
inductive zh1(R:It->Hp->Prop)(x:V)(H1:Hp):Prop where
 | mk(a)(kvs)(_:x=.ref a)(_:H1 a=some (.dK kvs))(_:∀ o,R (Itk a o kvs) (upd H1 a (.frz o (.dK kvs))))
noncomputable def zjl(tl:TE):TI:=fun σ H R=>tl σ H fun x H1=>zh1 R x H1
theorem zfz{X:Cx}{tg:Expr}{l:Expr}{tl:TE}(hl:PE X l tl):PI X tg l (zjl tl):=by
 intro pins s σ H R I h;refine thn (hl pins s σ H _ I h) fun v s1 ⟨x,H1,I1,r1,q1⟩=>?_
 obtain⟨a,kvs,e,hq,q⟩:=q1;subst e;cases r1;obtain⟨hz,hm,vs,kv,o,es,ep,h2,h3,h4,h5⟩:=(show Xa X.prog X.w H1 s1.heap a (.dK kvs) from I1.hok a _ hq)
 have hl:kvs.length=vs.length:=KV.length kv;have I2:=I1.freeze hq h2;refine wpAny_pyIter_dict hm ⟨o,es,h2,h3,h4,h5⟩ ?_;refine⟨s1.heap.objs.size,[s1.heap.objs.size],_,_,_,rfl,I2.kept (t':=s1.toks) fun b o e=>Heap.get?_push_of_some _ e,zb4 a _ o kvs es ep h4,⟨_,Heap.get?_push_size _ rfl,rfl,by rw[hl];rfl⟩,fun b hb=>?_,q o⟩
 have e:b=s1.heap.objs.size:=by simpa using hb
 subst e;exact I2.fpOk (z03 _) (I2.hok.fresh (z03 _))
theorem zeb{a:Addr}{o:Obj}{kvs:List (Key×V)}{g:TG}{tb:TS}{D:S5}{σ:St}{H:Hp}(Pv:Nat->St->Hp->Prop)(h0:Pv 0 σ H)(hl:∀ i σ H,i<=kvs.length->Pv i σ H->H a=some (.frz o (.dK kvs)))
  (hs:∀ i k v σ H,kvs[i]?=some (k,v)->Pv i σ H->g (kV k) σ H fun σ2 H2=>tb { D with nx:=Pv (i+1),ct:=Pv (i+1),bk:=D.nx } σ2 H2) (hd:∀ σ H,Pv kvs.length σ H->D.nx σ H) :
  ∃ W:Nat->Nat->St->Hp->Prop,(∃ m,W 0 m σ H)/\∀ i m σ H,W i m σ H ->
    ((Itk a o kvs).stop i H/\D.nx σ H)\/((Itk a o kvs).go i H/\∃ N:St->Hp->Prop,(∀ σ' H',N σ' H'->∃ m',m' < m/\W (i+1) m' σ' H')/\∀ x H',(Itk a o kvs).yld i H x H'->g x σ H' fun σ2 H2=>tb { D with nx:=N,ct:=N,bk:=D.nx } σ2 H2):=by
 refine⟨fun i m σ H=>m=kvs.length-i/\i<=kvs.length/\Pv i σ H,⟨kvs.length,by simp,z1j _,h0⟩,?_⟩
 rintro i m σ H ⟨rfl,hi,p⟩;have q:=hl i σ H hi p;by_cases hlt:i<kvs.length
 ·refine .inr ⟨⟨q,hlt⟩,Pv (i+1),fun σ' H' p'=>⟨kvs.length-(i+1),by omega,rfl,hlt,p'⟩,fun x H' y=>?_⟩
  obtain⟨e,⟨k,v⟩,y,rfl⟩:=y;subst e;exact hs i k v σ _ y p
 ·have e:i=kvs.length:=by omega
  subst e;exact .inl ⟨⟨q,z03 _⟩,hd σ H p⟩
theorem zb5{X:Cx}(hc:X.calm=true):Ux X (.builtin "max") (fun xs H Q=>∃ (l:Addr) (kvs:List (Key×V)) (ns:List Int),xs=[.ref l]/\Rd H l (.dK kvs)/\kvs.map (·.1)=ns.map Sum.inl/\0<ns.length/\∀ M,M∈ns->(∀ a∈ns,a<=M)->Q (.int M) H):=by
 intro pins s σ H xs us Q I r h;obtain⟨l,kvs,ns,rfl,hl,hns,hpos,q⟩:=h;obtain⟨u,rfl,ru⟩:=Qo r;cases ru;obtain⟨hz,hm,vs,kv,o,es,ep,h2,h3,h4,h5⟩:=Qp I.hok hl;have hlen:vs.length=ns.length:=by
  have e1:=KV.length kv;have e2:=congrArg List.length hns;rw[z0t,z0t] at e2
  omega
 have hlt:l<s.heap.objs.size:=Heap.lt_size h2;have da:s.heap.DictAt (Yr X.prog X.w) l vs ep:=⟨o,es,h2,h3,h4,h5⟩;have val:∀ (i:Nat) (v:Value),(∃ k y,vs[i]?=some (k,y)/\(Yr X.prog X.w).is k v=true)->∃ t,v=.int (ns.getD i 0) t:=fun i v ⟨k,y,hk,hv⟩=>by
  have e1:=congrArg (·[i]?) (KV.keys kv)
  have e2:=congrArg (·[i]?) hns
  simp only[z0x,hk,z12] at e1 e2
  rw[e1] at e2
  have hi:i<ns.length:=by
   rw[<- hlen];exact(z0v.mp hk).1
  rw[z0u hi] at e2
  have e3:k=Sum.inl (ns[i]'hi):=Option.some.inj e2;have e4:ns.getD i 0=ns[i]'hi:=by rw[z1l,z0u hi];rfl
  rw[e4];rcases Y0 hv with ⟨j,t,rfl,rfl⟩|⟨z,t,rfl,rfl⟩
  ·cases e3;exact⟨t,rfl⟩
  ·cases e3
 refine call_max_walk (wpAny_pyIter_dict hm da ?_);refine⟨s.heap.objs.size,[s.heap.objs.size,l],[s.heap.objs.size],vs.length,_,_,_,rfl,Walks.dictKeys (knd:=Yr X.prog X.w) (A:=X.A.in1) (I.ok.hd hc) _ l (z1k hlt) vs ep,⟨⟨_,Heap.get?_push_size _ rfl,rfl,rfl⟩,da.push _⟩,fun b hb=>?_,by omega,CmpOf.ints_gt (fun i=>ns.getD i 0) (fun i v hv=>val i v hv),fun v h' tk hP hk=>?_⟩
 ·show b<(s.heap.push _).objs.size
  rw[Heap.size_push];rcases z00.mp hb with rfl|hb
  ·exact Nat.lt_succ_self _
  ·rcases z00.mp hb with rfl|hb
   ·exact z2v hlt
   ·cases hb
 ·obtain⟨h1,h2⟩:=argBest_gt (fun i=>ns.getD i 0) (vs.length-1)
  obtain⟨t,rfl⟩:=val _ v hP;rw[hlen] at h1 h2 ⊢
  generalize argBest (fun i j=>decide ((fun i=>ns.getD i 0) i>(fun i=>ns.getD i 0) j)) (ns.length-1)=b at h1 h2 ⊢
  have hb:b<ns.length:=by omega
  have eg:∀ (k:Nat) (hk:k<ns.length),ns.getD k 0=ns[k]'hk:=fun k hk=>by rw[z1l,z0u hk];rfl
  refine⟨.int (ns.getD b 0),H,I.kept fun c o e=>?_,⟨_,rfl⟩,q _ (by rw[eg b hb];exact z1s hb) fun x hx=>?_⟩
  ·refine hk c o (fun hm=>?_) (Heap.get?_push_of_some _ e)
   rw[z0z.mp hm] at e;exact z2i _ (Heap.lt_size e)
  ·obtain⟨k,hk',rfl⟩:=z13 hx
   have:=h2 k (by omega)
   show ns[k]<=_;rw[<- eg k hk'];exact this
theorem Oi{prog:Program}{w:World}{A:Around}{R:Result->Shared->Prop}{s:Shared}{elt target iter:Expr}{ifs:List Expr}{scope:Scope}{pos:Pos}{it acc:Value}{env:Env}(I:Nat->Shared->Prop)
  (turn:∀ (n:Nat) (s:Shared),I n s->wpAny (model prog w) A (pyNext it) (fun r s₁=>match r with
   | none=>R (.ok .next) s₁
   | some v=>wpAny (model prog w) A (letOwnedTupleGo target it v) (fun _ s₁'=>wpAny (model prog w) A (assign target env v) (fun _ s₂=>wpAny (model prog w) A (forIn ifs true fun c r=>if r=true then do let ok <- isTrue c env (eval c env);pure (ForInStep.yield ok) else pure (ForInStep.yield r)) (fun ok s₃=>if ok=true then wpAny (model prog w) A (eval elt env) (fun x s₄=>wpAny (model prog w) A (call (.builtin "list.append") [acc,x]) (fun _ s₅=>∃ m,m<n/\I m s₅) (notedBy (model prog w) A env fun e s'=>R (.error e) s') s₄) (notedBy (model prog w) A env fun e s'=>R (.error e) s') s₃ else ∃ m,m<n/\I m s₃) (notedBy (model prog w) A env fun e s'=>R (.error e) s') s₂) (notedBy (model prog w) A env fun e s'=>R (.error e) s') s₁') (notedBy (model prog w) A env fun e s'=>R (.error e) s') s₁) (notedBy (model prog w) A env fun e s'=>R (.error e) s') s)
  (n:Nat) (h:I n s):codeAny (model prog w) A (.compLoop (.ListComp elt [⟨target,iter,ifs,0⟩] scope pos) 0 it acc env) R s:=by
 refine codeAny_loop rfl I (fun n s hI=>?_) n h
 refine wpAny_noted ?_;rw[compTurn_list];refine wpAny_bind (wpAny_standAt (wpAny_bind (wpAny_mono (turn n s hI) (fun r s₁ h₁=>?_) fun _ _ z=>z)))
 cases r with
 | none=>exact wpAny_pure h₁
 | some v =>
   refine wpAny_bind (wpAny_mono h₁ (fun _ s₁' h₂=>wpAny_bind (wpAny_mono h₂ (fun _ s₂ h₃=>wpAny_bind (wpAny_mono h₃ (fun ok s₃ h₄=>?_) fun _ _ z=>z)) fun _ _ z=>z)) fun _ _ z=>z)
   cases ok with
   | false =>
     simp only[z2q,if_false] at h₄ ⊢
     exact wpAny_pure ⟨rfl,h₄⟩
   | true =>
     simp only[if_true] at h₄ ⊢
     refine wpAny_bind (wpAny_bind (wpAny_mono h₄ (fun x s₄ h₅=>wpAny_bind (wpAny_mono h₅ (fun _ s₅ h₆=>wpAny_pure (wpAny_pure ⟨rfl,h₆⟩)) fun _ _ z=>z)) fun _ _ z=>z))
noncomputable def cs0(xo:List Str)(js:List Nat)(σ:St):St:=(xo.map fun _=>none)++js.map fun j=>(σ[j]?).getD none
noncomputable def Pk(xo:List Str)(js:List Nat)(σ σ2:St):Prop:=∃ os:St,os.length=xo.length/\σ2=os++js.map fun j=>(σ[j]?).getD none
theorem Pk.weak{X:Cx}{pins:List (Addr×Obj)}{H:Hp}{s:Shared}{xo:List Str}{js:List Nat}{σ σ2:St}(o:Pk xo js σ σ2)(I:Inv X pins σ2 H s):Inv X pins (cs0 xo js σ) H s:=by
 obtain⟨os,hl,rfl⟩:=o;refine I.weak (by unfold cs0;simp[hl]) fun i v e=>?_
 unfold cs0 at e
 by_cases hi:i<xo.length
 ·rw[z1w (by rw[z0t];exact hi),z0x,z0u hi] at e
  cases e
 ·rw[z1u (by rw[z0t];omega),z0t] at e
  rw[z1u (by omega),hl]
  exact e
noncomputable def Ah(J:It)(xo:List Str)(js:List Nat)(g:TG)(tt:TT)(te:TE)(σ:St)(H:Hp)(Q:VK):Prop:=∃ W:Nat->Nat->List V->Hp->Prop,(∃ m,W 0 m [] H)/\∀ i m ys H,W i m ys H ->
 (J.stop i H/\ys.length<=sizeLine/\∀ p,H p=none->Q (.ref p) (upd H p (.lst ys))) \/
 (J.go i H/\ys.length<sizeLine/\∃ N:List V->Hp->Prop,(∀ ys' H',N ys' H'->∃ m',m' < m/\W (i+1) m' ys' H')/\∀ x H',J.yld i H x H'->g x (cs0 xo js σ) H' fun σ2 H1=>Pk xo js σ σ2/\tt σ2 H1 fun b H2=>if b=true then te σ2 H2 fun y H3=>N (ys++[y]) H3 else N ys H2)
noncomputable def zec(wi:TI)(xo:List Str)(js:List Nat)(g:TG)(tt:TT)(te:TE):TE:=fun σ H Q=>wi σ H fun J H1=>Ah J xo js g tt te σ H1 Q
section
variable{X:Cx}{elt iter tg:Expr}{xo:List Str}{pos:Pos}{ifs:List Expr}{scope:Scope}{cl:List (Str×Addr)}{ys:List Str}{js:List Nat}{g:TG}
structure P8(X:Cx)(xo:List Str)(scope:Scope)(cl:List (Str×Addr))(ys:List Str)(js:List Nat):Prop where
 clos:closureFor scope X.env=pure cl
 kind:scope.kind=.function
 names:∀ y∈scope.names,y.2=.local->scope.names.lookup y.1=some .local
 nocell:∀ y∈scope.names,y.2≠.cell
 at_:js.map (X.N[·]?)=ys.map some
 free:Hw (fun y=>X.env.kindOf y=some .cell/\(relabel scope X.env).names.lookup y=some .cell/\cl.lookup y=X.env.cells.lookup y) ys
 only:Hw (fun p=>X.env.cells.lookup p.1=some p.2) cl
 vis:∀ y∈scope.names,y.2=.free->y.1∈ys
theorem P8.same(c:P8 X xo scope cl ys js){y:Str}{a:Addr}(h:cl.lookup y=some a):X.env.cells.lookup y=some a:=c.only.get (PySem.mem_of_lookup h)
theorem zed{pins:List (Addr×Obj)}{σ:St}{H:Hp}{s:Shared}{fp:List Addr}{C:Addr}{pn:List (Addr×Obj)}{Nc:List Str}(c:P8 X xo scope cl ys js)(I:Inv X pins σ H s)(hf:∀ b∈fp,FpOk X pins H b)(hex:∀ b∈fp,b<s.heap.objs.size)(hC:s.heap.objs.size<=C) :
  (Yp X pn Nc scope cl s H fp C).Ok where
 mod:=I.ok.mod
 kind:=c.kind
 glob:=I.ok.glob
 blt:=I.ok.blt
 above:=hC
 inj:=fun y z a h1 h2=>I.ok.inj y z a (c.same h1) (c.same h2)
 has:=fun y h=>by
  obtain⟨k,m,q⟩:=Ng h;rcases q with rfl|rfl
  ·exact absurd rfl (c.nocell _ m)
  ·obtain⟨a1,a2,a3⟩:=c.free.get (c.vis _ m rfl)
   obtain⟨a,ha⟩:=I.ok.has y (.inl a1);exact⟨a,a3.trans ha⟩
 cab:=fun _ _ h=>by cases h
 hd:=I.ok.hd
 frames:=I.ok.frames
 stk:=.inl rfl
 exf:=fun b hb=>by
  obtain⟨f0,f1,f2,f3,f4,f5⟩:=hf b hb;exact⟨z1k (z1c (hex b hb) hC),fun y a h=>f4 y a (c.same h)⟩
 bs:=I.bs
 bsz:=z09 I.ok.bsz I.sz
 noex:=fun b o q hb=>by
  obtain⟨f0,f1,f2,f3,f4,f5⟩:=hf b hb;rcases f3 with z|z
  ·exact I.ok.noex b o q z
  ·exact absurd (z1c (Heap.lt_size (I.ok.bs b o q).1) z) (z2i _)
 exfs:=fun b hb m=>by
  obtain⟨f0,f1,f2,f3,f4,f5⟩:=hf b hb;exact(z00.mp (I.stkSub b m)).elim f1 f2
 funs:=I.stack
 frf:=I.stkFree
theorem zb6{pins:List (Addr×Obj)}{σ:St}{H:Hp}{s:Shared}{fp:List Addr}{C:Addr}{h1:Heap}{t1:Nat}{m1:Str->Option Value}(c:P8 X xo scope cl ys js)(I:Inv X pins σ H s)(hf:∀ b∈fp,FpOk X pins H b)(hex:∀ b∈fp,b<s.heap.objs.size)(hC:s.heap.objs.size<=C)
  (hns:h1.Ns C m1) (old:∀ b o,s.heap.get? b=some o->h1.get? b=some o) :
  Inv (Yp X (X.pn++pins) (xo++ys) scope cl s H fp C) [] (cs0 xo js σ) H { s with heap:=h1,toks:=t1 }:=by
 obtain⟨m,hn,hl⟩:=I.loc;have jl:js.length=ys.length:=by have:=congrArg List.length c.at_;simpa using this
 refine⟨zed c I hf hex hC,rfl,I.bare,Un.kept old,⟨m1,hns,fun i y v e1 e2 e3=>?_⟩,fun y a h=>?_,I.hok.fresh hC,fun y a h=>I.freeC y a (c.same h),fun p hp=>?_,I.hok.kept old,by simp[jl,Yp,cs0]⟩
 ·have e2:=e2.resolve_right (Wr _)
  unfold cs0 at e2
  by_cases hi:i<xo.length
  ·rw[z1w (by rw[z0t];exact hi),z0x,z0u hi] at e2
   cases e2
  ·rw[z1u (by rw[z0t];omega),z0t] at e2
   have e1:ys[i-xo.length]?=some y:=by
    have e1:(xo++ys)[i]?=some y:=e1;rw[z1u (by omega)] at e1;exact e1
   generalize i-xo.length=k at e1 e2
   rw[z0x] at e2
   cases hj:js[k]? with
   | none=>rw[hj] at e2;cases e2
   | some j =>
     rw[hj] at e2
     have ej:X.N[j]?=some y:=by
      have q:=congrArg (·[k]?) c.at_
      simp only[z0x,hj,e1,z12] at q
      exact Option.some.inj q
     have ev:σ[j]?=some (some v):=by
      simp only[z12,Option.some.injEq] at e2
      cases hσ:σ[j]? with
      | none=>rw[hσ] at e2;cases e2
      | some o=>rw[hσ] at e2;rw[show o=some v from e2]
     obtain⟨a1,a2,a3⟩:=c.free.get (z05 e1);obtain⟨u,r,l⟩:=hl j y v ej (.inl ev) (.inr (.inl a1));refine⟨u,r,.inr ⟨.inl a2,?_⟩⟩;rcases l with ⟨k1,_⟩|⟨_,b,e,z⟩
     ·rw[a1] at k1;cases k1
     ·obtain⟨o,ho,hd⟩:=z
      exact⟨b,a3.trans e,o,old _ _ ho,hd⟩
 ·obtain⟨v,o,ho,hd⟩:=I.cell y a (c.same h)
  exact⟨v,o,old _ _ ho,hd⟩
 ·obtain⟨e,n,ne,nf,d⟩:=I.pin p (by simpa [Yp] using hp)
  refine⟨old _ _ e,n,z1k (z1c (Heap.lt_size e) hC),fun m=>?_,d⟩
  exact(z00.mp (I.stkSub _ m)).elim ne nf
theorem Oj{pins:List (Addr×Obj)}{σ:St}{H:Hp}{s:Shared}{tt:TT}{te:TE}{it:Addr}{fp:List Addr}{tn:Nat->Heap->Prop}{J:It}{W:Nat->Nat->List V->Hp->Prop}{m0:Nat}{Q:VK}{E:Value->Shared->Prop}{RR:Value->Addr->Result->Shared->Prop}
  (hcm:X.calm=true) (c:P8 X xo scope cl ys js) (ht:∀ pn s₀ H₀ fp C,PTs (Yp X pn (xo++ys) scope cl s₀ H₀ fp C) ifs tt) (hgt:∀ pn s₀ H₀ fp C,PG (Yp X pn (xo++ys) scope cl s₀ H₀ fp C) tg g) (he:∀ pn s₀ H₀ fp C,PE (Yp X pn (xo++ys) scope cl s₀ H₀ fp C) elt te)
  (I:Inv X pins σ H s) (T:Dv X.prog X.w X.K tg J fp it tn) (st0:tn 0 s.heap) (hf:∀ b∈fp,FpOk X pins H b) (w0:W 0 m0 [] H)
  (turn:∀ i m ys H,W i m ys H->(J.stop i H/\ys.length<=sizeLine/\∀ p,H p=none->Q (.ref p) (upd H p (.lst ys))) \/
   (J.go i H/\ys.length<sizeLine/\∃ N:List V->Hp->Prop,(∀ ys' H',N ys' H'->∃ m',m' < m/\W (i+1) m' ys' H')/\∀ x H',J.yld i H x H'->g x (cs0 xo js σ) H' fun σ2 H1=>Pk xo js σ σ2/\tt σ2 H1 fun b H2=>if b=true then te σ2 H2 fun y H3=>N (ys++[y]) H3 else N ys H2))
  (hRR:∀ D C s' m,s'.heap.Ns C m->(∀ h',Heap.SameBut C s'.heap h'->∃ H',Inv X pins σ H' { s' with heap:=h' }/\Q (.ref D) H')->(∃ H',Inv X pins σ H' s'/\Q (.ref D) H'/\H' C=none)->s.heap.objs.size<=C->RR (.ref D) C (.ok .next) s') :
  wpAny (model X.prog X.w) X.A (newList []) (fun acc s₃=>wpAny (model X.prog X.w) X.A (newFunctionEnv scope X.env.globals cl [] X.env.qual none .none (some X.env)) (fun cenv s₄ =>
   codeAny (model X.prog X.w) X.A (.compStart (.ListComp elt [⟨tg,iter,ifs,0⟩] scope pos) 0 (.ref it) acc { cenv with scope:=relabel scope X.env }) (RR acc cenv.locals) s₄) E s₃) E s:=by
 refine wpAny_newObj_type (wpAny_newFunctionEnv c.nocell (by intro y hy;simp at hy) (fun h₁ hns₁ hsb₁=>?_) c.kind)
 dsimp only at hns₁ hsb₁ ⊢
 generalize hH2:s.heap.push { cls:=.type "list",dict:=none,data:=.seq ([]:List Value).toArray }=G at hns₁ hsb₁ ⊢
 generalize hD:s.heap.objs.size=D;have hC:G.objs.size=D+1:=by rw[<- hH2,Heap.size_push,hD]
 generalize hCe:G.objs.size=C at hns₁ hsb₁ ⊢
 have hCD:C=D+1:=hCe.symm.trans hC;have hDC:D≠C:=by omega
 have below:∀ b o,s.heap.get? b=some o->b<D:=fun b o e=>by rw[<- hD];exact Heap.lt_size e
 have ltC:∀ b:Addr,b<D->b≠C:=fun b h=>z1k (hCD▸z2v h)
 have ltD:∀ b:Addr,b<D->b≠D:=fun b h=>z1k h
 have old:∀ b o,s.heap.get? b=some o->h₁.get? b=some o:=fun b o e=>hsb₁.extBut b o (ltC b (below b o e)) (Heap.get?_push_of_some _ (hH2▸Heap.get?_push_of_some _ e))
 have hacc:h₁.PlainList D #[]:=⟨_,hsb₁.extBut _ _ hDC (Heap.get?_push_of_some _ (by rw[<- hH2,<- hD];exact Heap.get?_push_size _ rfl))⟩
 have hex:∀ b∈fp,b<s.heap.objs.size:=fun b hb=>by
  obtain⟨o,e,_⟩:=T.obj _ _ st0 b hb;exact Heap.lt_size e
 have lt0:∀ b∈fp,b<D:=fun b hb=>by rw[<- hD];exact hex b hb
 have freshD:s.heap.get? D=none:=Heap.get?_none_of_le (by omega)
 have freshC:s.heap.get? C=none:=Heap.get?_none_of_le (by omega)
 have frE:∀ {H':Hp},(∀ b∈fp,H' b=none)->∀ {o:Obj} {b:Addr},b∈fp->FpOk (Yp X (X.pn++pins) (xo++ys) scope cl s H fp C) [(D,o)] H' b:=fun {H'} hn {o b} hb=>by
  obtain⟨f0,f1,f2,f3,f4,f5⟩:=hf b hb;refine⟨hn b hb,?_,?_,.inl hb,fun y a h=>f4 y a (c.same h),fun p hp=>?_⟩
  ·exact ltC b (lt0 b hb)
  ·exact fun m=>(z00.mp (I.stkSub b m)).elim f1 f2
  ·rcases z06.mp hp with z|z
   ·exact f5 p z
   ·rw[z0z.mp z]
    exact Ne.symm (ltD b (lt0 b hb))
 have pinD:∀ {σ':St} {H':Hp} {s':Shared} {o:Obj},Inv (Yp X (X.pn++pins) (xo++ys) scope cl s H fp C) [] σ' H' s'->s'.heap.get? D=some o->(∀ v,o.data≠.cell v)->H' D=none->Inv (Yp X (X.pn++pins) (xo++ys) scope cl s H fp C) [(D,o)] σ' H' s':=fun {σ' H' s' o} Ic e nc n =>
  Ic.pins_of fun p hp=>by
   rw[z0z.mp hp];refine⟨e,n,hDC,fun m=>?_,nc⟩
   obtain⟨_,ob,hob,_⟩:=I.stack.mem m;exact absurd (below D ob hob) (z2i _)
 have loop:∀ s₃:Shared,s₃={ s with heap:=h₁,toks:=s.toks+([]:List (Str×Value)).length } ->
   codeAny (model X.prog X.w) X.A (.compLoop (.ListComp elt [⟨tg,iter,ifs,0⟩] scope pos) 0 (.ref it) (.ref D) (compEnvC scope cl C X.env)) (RR (.ref D) C) s₃:=by
  rintro s₃ rfl;have I0:=zb6 (t1:=s.toks+([]:List (Str×Value)).length) c I hf hex (by omega:s.heap.objs.size<=C) hns₁ old
  refine Oi (fun n s'=>∃ i H' zs its,Inv (Yp X (X.pn++pins) (xo++ys) scope cl s H fp C) [] (cs0 xo js σ) H' s'/\tn i s'.heap/\(∀ b∈fp,H' b=none)/\s'.heap.PlainList D (its:List Value).toArray/\Vals zs its/\H' D=none/\W i n zs H') ?_ m0
   ⟨0,H,[],[],I0,T.keep _ _ _ st0 fun b hb o e=>old b o e,fun b hb=>(hf b hb).1,hacc,.nil,I.hok.fresh (by omega),w0⟩
  rintro n s3 ⟨i,H3,zs,its,I3,st3,fr3,⟨n3,pl3⟩,rv3,fD3,w3⟩;have I3':=pinD I3 pl3 (by intro v z;cases z) fD3
  rcases turn i n zs H3 w3 with ⟨stop,hsz,fin⟩|⟨go,hsz,Nx,hNx,step⟩
  ·refine wpAny_mono (T.done (Yp X (X.pn++pins) (xo++ys) scope cl s H fp C) rfl rfl rfl hcm i _ s3 _ H3 (fun _ _=>False) I3' (fun b hb=>frE fr3 hb) st3 stop) (fun r s4 ⟨hr,I4⟩=>?_) fun _ _ z=>z.elim
   subst hr;have plD:s4.heap.get? D=some _:=(I4.pin (D,{ cls:=Value.type "list",data:=.seq its.toArray n3 }) (z1f _ z1o)).1;obtain⟨m4,hn4,_⟩:=I4.loc;have okU:∀ h',(∀ b o,b≠C->s4.heap.get? b=some o->h'.get? b=some o)->Inv X pins σ (upd H3 D (.lst zs)) { s4 with heap:=h' }:=fun h' k1=>by
    have u4:Un (frs X.stack) fp H H3 s.heap s4.heap:=I4.base;have neC:∀ b o,s.heap.get? b=some o->b≠C:=fun b o e=>ltC b (below b o e)
    have neD:∀ b o,s.heap.get? b=some o->b≠D:=fun b o e=>ltD b (below b o e)
    have trD:∀ b u,H3 b=some u->b≠D:=fun b u e z=>by rw[z,fD3] at e;cases e
    have trC:∀ b u,H3 b=some u->b≠C:=fun b u e z=>by rw[z,show H3 C=none from I4.free] at e;cases e
    have un:Un (frs X.stack) fp H (upd H3 D (.lst zs)) s.heap h':=by
     refine⟨fun b o e n hb hx=>k1 b o (neC b o e) (u4.keep b o e n hb hx),fun b o e n hb hx=>?_,fun b o e n hx=>?_,fun b o e hx=>?_,fun b xs e=>?_,fun b ob u e=>?_,fun b ps e=>?_⟩
     ·obtain⟨sl,z⟩:=u4.slot b o e n hb hx
      exact⟨sl,k1 b _ (neC b o e) z⟩
     ·rw[Zh (neD b o e)];exact u4.free b o e n hx
     ·obtain⟨o',z⟩:=u4.there b o e hx
      exact⟨o',k1 b o' (neC b o e) z⟩
     ·have z:=u4.tups b xs e
      rw[Zh (trD b _ z)];exact z
     ·have z:=u4.frzs b ob u e
      rw[Zh (trD b _ z)];exact z
     ·obtain⟨more,z⟩:=u4.tbls b ps e
      exact⟨more,by rw[Zh (trD b _ z)];exact z⟩
    refine I.call' (s':={ s4 with heap:=h' }) (ch:=fp) (show s4.os=s.os from I4.os) un (fun b u e=>?_) I4.bare fun b hb=>?_
    ·by_cases hb:b=D
     ·subst hb
      rw[Zc] at e;cases e
      exact⟨hsz,its,n3,rv3,k1 _ _ hDC plD⟩
     ·rw[Zh hb] at e
      refine(I4.hok b u e).stay (fun d v hd q=>?_) (fun d q=>by rw[Zh (trD d _ q)];exact q) fun d xs q=>by rw[Zh (trD d _ q)];exact q
      rcases hd with z|z
      ·exact k1 d v (by rw[z];exact trC b u e) q
      ·exact k1 d v (trC d _ z) q
    ·obtain⟨f0,f1,f2,f3,f4,f5⟩:=hf b hb
     exact⟨f3,f1,f4,f5⟩
   refine hRR D C s4 m4 hn4 (fun h' hs'=>⟨_,okU h' (fun b o hb e=>hs'.extBut b o hb e),fin D fD3⟩) ⟨_,okU s4.heap (fun _ _ _ e=>e),fin D fD3,?_⟩ (by omega)
   ·rw[Zh (Ne.symm hDC)];exact I4.free
  ·refine wpAny_mono (T.item (Yp X (X.pn++pins) (xo++ys) scope cl s H fp C) rfl rfl rfl hcm i _ s3 _ H3 (fun _ _=>False) I3' (fun b hb=>frE fr3 hb) st3 go) (fun r s4 ⟨u,hr,h4⟩=>?_) fun _ _ z=>z.elim
   subst hr;refine wpAny_mono h4 (fun _ s5 h5=>?_) fun _ _ z=>z.elim
   obtain⟨xv,H5,I5,r5,y5,st5,fr5⟩:=h5;have I5':=I5.pinned (fun b hb=>frE fr5 hb) (T.obj _ _ st5)
   refine wpAny_mono (hgt _ _ _ _ _ _ s5 _ H5 xv u _ I5' r5 (step xv H5 y5)) (fun _ s6 ⟨σ6,H6,I6,own6,q6⟩=>?_) fun _ _ z=>z.elim
   refine wpAny_mono (ht _ _ _ _ _ _ s6 _ H6 _ I6 q6) (fun ok s7 ⟨H7,I7,q7⟩=>?_) fun _ _ z=>z.elim
   have keepF:∀ {σ8:St} {H8:Hp} {s8:Shared},Inv (Yp X (X.pn++pins) (xo++ys) scope cl s H fp C) ([(D,{ cls:=Value.type "list",data:=.seq its.toArray n3 })]++Mh fp s5.heap) σ8 H8 s8->tn (i+1) s8.heap/\(∀ b∈fp,H8 b=none)/\s8.heap.PlainList D its.toArray/\H8 D=none:=fun {σ8 H8 s8} I8=>by
    refine⟨T.keep _ _ _ st5 fun b hb o e=>(I8.pin (b,o) (z1f _ (z1f _ (Rq hb e)))).1,fun b hb=>?_,⟨n3,(I8.pin (D,_) (z1f _ z1o)).1⟩,(I8.pin (D,_) (z1f _ z1o)).2.1⟩
    obtain⟨o,e,d⟩:=T.obj _ _ st5 b hb;exact(I8.pin (b,o) (z1f _ (z1f _ (Rq hb e)))).2.1
   have bare:∀ {σ8:St} {H8:Hp} {s8:Shared},Inv (Yp X (X.pn++pins) (xo++ys) scope cl s H fp C) ([(D,{ cls:=Value.type "list",data:=.seq its.toArray n3 })]++Mh fp s5.heap) σ8 H8 s8->Inv (Yp X (X.pn++pins) (xo++ys) scope cl s H fp C) [] σ8 H8 s8:=fun I8=>I8.pins_of fun _ z=>(nomatch z)
   cases ok with
   | false =>
     simp only[z2q,if_false] at q7 ⊢
     obtain⟨m',hm',w7⟩:=hNx _ _ q7;obtain⟨a1,a2,a3,a4⟩:=keepF I7;exact⟨m',hm',i+1,H7,zs,its,own6.weak (bare I7),a1,a2,a3,rv3,a4,w7⟩
   | true =>
     simp only[if_true] at q7 ⊢
     refine wpAny_mono (he _ _ _ _ _ _ s7 _ H7 _ I7 q7) (fun y s8 ⟨yv,H8,I8,r8,q8⟩=>?_) fun _ _ z=>z.elim
     obtain⟨m',hm',w8⟩:=hNx _ _ q8;obtain⟨a1,a2,a3,a4⟩:=keepF I8;have szI:its.toArray.size<=sizeLine:=by rw[z08,<- rv3.length];omega
     refine wpAny_list_append_plain (hsz:=szI) a3 fun h9 pl9 sb9=>?_
     have I8b:=own6.weak (bare I8);refine⟨m',hm',i+1,H8,zs++[yv],its++[y],?_,T.keep _ _ _ a1 fun b hb o e=>(sb9.2 b (ltD b (lt0 b hb))).trans e,a2,by rw[List.push_toArray] at pl9;exact pl9,rv3.append (.cons r8 .nil),a4,w8⟩
     refine I8b.turned (t':=s8.toks) (it:=D) (fun b o hb e=>(sb9.2 b hb).trans e) a4 hDC (.inr (show s.heap.objs.size<=D by omega)) (fun y' a h=>?_) fun p hp=>?_
     ·obtain⟨v,o,ho,_⟩:=I.cell y' a (c.same h)
      exact ltD a (below a o ho)
     ·obtain⟨e,_⟩:=I.pin p (by simpa [Yp] using hp)
      exact ltD _ (below _ _ e)
 exact codeAny_compStart_list (loop _ rfl) (T.self _ 0 _ _ _ (T.keep _ _ _ st0 fun b hb o e=>old b o e) (loop _ rfl))
variable{wi:TI}{tt:TT}{te:TE}
theorem Cg(hcm:X.calm=true)(c:P8 X xo scope cl ys js)(hi:PI X tg iter wi)(ht:∀ pn s₀ H₀ fp C,PTs (Yp X pn (xo++ys) scope cl s₀ H₀ fp C) ifs tt)(hgt:∀ pn s₀ H₀ fp C,PG (Yp X pn (xo++ys) scope cl s₀ H₀ fp C) tg g)(he:∀ pn s₀ H₀ fp C,PE (Yp X pn (xo++ys) scope cl s₀ H₀ fp C) elt te)
  (hs:∀ x,foldedSetIterable iter X.env x=pure x:=by intro _;rfl):PE X (.ListComp elt [⟨tg,iter,ifs,0⟩] scope pos) (zec wi xo js g tt te):=by
 intro pins s σ H Q I h;rw[eval_ListComp];refine wpAny_comprehension_free (use:=none) rfl hs c.clos c.kind c.names (thn (hi pins s σ H _ I h) fun v s1 h1=>thn h1 fun itv s2 h2=>?_)
 obtain⟨it,fp,tn,J,H2,e,I2,T,st2,f2,W,⟨m0,w0⟩,turn⟩:=h2;subst e;exact Oj (RR:=fun acc C=>compPost (model X.prog X.w) X.A X.xe none (EP X pins σ Q) acc C) hcm c ht hgt he I2 T st2 f2 w0 turn fun D C s' m hn hS _ _=>⟨m,hn,fun h' hs'=>let ⟨H',I',q⟩:=hS h' hs';⟨.ref D,H',I',rfl,q⟩⟩
end
end L2

namespace G
open PySem PySem.Spec PyProof.Rows L2
theorem Fo:∀ (a b:List (Nat×Option Int)) (xs:List V),Yw (a++b) xs=Yw b (Yw a xs)
 | [],_,_=>rfl
 | (p,w) :: r,b,xs=>by rw[List.cons_append,Yw,Yw,Fo r b]
structure Jb(kvs:List (Key×V))(gs:List V):Prop where
 has:∀ (n:Int) (j:Nat),gs[j]?=some (.int n)->valV kvs (Sum.inl n:Key)=some (.int (j:Nat))
 not:∀ n:Int,(∀ j:Nat,gs[j]?≠some (.int n))->valV kvs (Sum.inl n:Key)=none
theorem Jb.iff{kvs:List (Key×V)}{gs:List V}(t:Jb kvs gs)(n:Int):(∃ j:Nat,gs[j]?=some (.int n)/\valV kvs (Sum.inl n:Key)=some (.int (j:Nat)))\/((∀ j:Nat,gs[j]?≠some (.int n))/\valV kvs (Sum.inl n:Key)=none):=by
 by_cases h:∃ j:Nat,gs[j]?=some (.int n)
 ·obtain⟨j,hj⟩:=h
  exact .inl ⟨j,hj,t.has n j hj⟩
 ·have h':∀ j:Nat,gs[j]?≠some (.int n):=fun j hj=>h ⟨j,hj⟩
  exact .inr ⟨h',t.not n h'⟩
inductive zar(K:PySem.W.Frag)(vs:List V)(H:Hp)(Q:VK)(_:XK):Prop where
 | mk(b:Addr)(gs:List V)(_:vs=[.ref b])(_:H b=some (.lst gs))(_:(∀ x∈gs,oneV x))(_:(∀ (j k:Nat) (n:Int),gs[j]?=some (.int n)->gs[k]?=some (.int n)->j=k))(_:gs.length<=100)(_:∀ d kvs H',H' d=some (.dK kvs)->Jb kvs gs->Same H H'->H d=none->Q (.ref d) H')
structure X3(H:Hp)(into:List (Key×V))(line:List Nat)(fr:Nat->Option (Nat×Int)):Prop where
 keys:into.map (·.1)=line.map fun q:Nat=>(Sum.inl (q:Int):Key)
 none:∀ q∈line,fr q=Option.none->valV into (Sum.inl (q:Int):Key)=some .non
 some:∀ q∈line,∀ par n,fr q=Option.some (par,n)->∃ t,valV into (Sum.inl (q:Int):Key)=Option.some (.ref t)/\H t=Option.some (.tup [.int (par:Nat),.int n])
theorem X3.same{H H':Hp}{into:List (Key×V)}{line:List Nat}{fr:Nat->Option (Nat×Int)}(e:Same H H')(h:X3 H into line fr):X3 H' into line fr :=
 ⟨h.keys,h.none,fun q hq par n hf=>let ⟨t,a,b⟩:=h.some q hq par n hf;⟨t,a,e _ _ b⟩⟩
theorem X3.len{H:Hp}{into:List (Key×V)}{line:List Nat}{fr:Nat->Option (Nat×Int)}(h:X3 H into line fr):into.length=line.length:=by
 have:=congrArg List.length h.keys;rw[z0t,z0t] at this;exact this
theorem zee{into:List (Key×V)}{k:Key}:(valV into k).isSome=true↔k∈into.map Prod.fst:=by
 unfold valV;rw[Option.isSome_map,List.find?_isSome];constructor
 ·rintro⟨p,hp,e⟩
  exact z02.mpr ⟨p,hp,of_decide_eq_true e⟩
 ·intro h
  obtain⟨p,hp,rfl⟩:=z02.mp h;exact⟨p,hp,z01 rfl⟩
theorem X3.has{H:Hp}{into:List (Key×V)}{line:List Nat}{fr:Nat->Option (Nat×Int)}(h:X3 H into line fr)(q:Nat):(valV into (Sum.inl (q:Int):Key)).isSome=true↔q∈line:=by
 rw[zee,h.keys];constructor
 ·intro z
  obtain⟨q',h1,h2⟩:=z02.mp z;have:(q':Int)=q:=Sum.inl.inj h2;have:q'=q:=by omega
  rw[<- this];exact h1
 ·intro hq
  exact z02.mpr ⟨q,hq,rfl⟩
inductive zef(K:PySem.W.Frag)(vs:List V)(H:Hp)(Q:VK)(_:XK):Prop where
 | mk(l d:Addr)(ls:List Addr)(rows:List (List Int))(kvs:List (Key×V))(gs:List V)(p:Nat)(_:vs=[.ref l,.ref d,.int p])(_:H l=some (.lst (ls.map V.ref)))(_:ILs H ls rows)(_:rows.length<=100)(_:H d=some (.dK kvs))(_:Jb kvs gs)(_:Y4 rows gs)(_:p<rows.length)(_:∀ t into line dep fr H',H' t=some (.dK into)->X3 H' into line fr->Bfs rows gs p line dep->Done rows gs line dep line.length->Sf rows gs p line dep fr->(∀ q∈line,q<rows.length)->Same H H'->H t=none->Q (.ref t) H')
inductive Fp(K:PySem.W.Frag)(vs:List V)(H:Hp)(Q:VK)(_:XK):Prop where
 | mk(l d:Addr)(r:List Int)(kvs:List (Key×V))(_:vs=[.ref l,.ref d])(_:H l=some (.lst (r.map V.int)))(_:H d=some (.dK kvs))(_:∀ w:Option Int,(∀ n,w=some n->n∈r/\valV kvs (Sum.inl n:Key)=none)->(w=none->∀ n∈r,(valV kvs (Sum.inl n:Key)).isSome=true)->Q (oV w) H)
inductive Ci(K:PySem.W.Frag)(vs:List V)(H:Hp)(Q:VK)(_:XK):Prop where
 | mk(t:Addr)(q p:Nat)(w:Option Int)(rows:List (List Int))(gs:List V)(into:List (Key×V))(line:List Nat)(dep:Nat->Nat)(fr:Nat->Option (Nat×Int))(_:vs=[.ref t,.int q,oV w])(_:Rd H t (.dK into))(_:X3 H into line fr)(_:Sf rows gs p line dep fr)(_:dep p=0)(_:p∈line)(_:q∈line)(_:dep q<=100)(_:∀ lt ts st H',H' lt=some (.lst ts)->Yb H' ts (st.map Uy)->Ch rows gs p st q w->st.length=dep q+1->Same H H'->H lt=none->Q (.ref lt) H')
section
variable{rows:List (List Int)}{gs:List V}{p:Nat}{line:List Nat}{dep:Nat->Nat}{fr:Nat->Option (Nat×Int)}{H H':Hp}{into:List (Key×V)}
noncomputable def Lu(fr:Nat->Option (Nat×Int))(q:Nat)(x:Nat×Int):Nat->Option (Nat×Int):=fun y=>if y=q then some x else fr y
theorem Ol{q:Nat}{x:Nat×Int}:Lu fr q x q=some x:=by unfold Lu;rw[if_pos rfl]
theorem Nl{q y:Nat}{x:Nat×Int}(h:y≠q):Lu fr q x y=fr y:=by unfold Lu;rw[if_neg h]
theorem Sf.app{here q':Nat}{n:Int}(F:Sf rows gs p line dep fr)(hn:q'∉line)(hp:p∈line)(hh:here∈line)(a:adjN rows gs here n q'):Sf rows gs p (line++[q']) (V6 dep q' (dep here+1)) (Lu fr q' (here,n)):=by
 have ne:∀ x∈line,x≠q':=fun x hx z=>hn (by rw[<- z];exact hx)
 have old:∀ x∈line,V6 dep q' (dep here+1) x=dep x:=fun x hx=>by unfold V6;rw[if_neg (ne x hx)]
 have new:V6 dep q' (dep here+1) q'=dep here+1:=by unfold V6;rw[if_pos rfl]
 refine⟨by rw[Nl (ne p hp)];exact F.1,fun q hq hqp=>?_⟩
 rcases z06.mp hq with z|z
 ·obtain⟨par,m,h1,h2,h3,h4⟩:=F.2 q z hqp
  exact⟨par,m,by rw[Nl (ne q z)];exact h1,z1m _ h2,h3,by rw[old q z,old par h2];exact h4⟩
 ·rw[z0z.mp z]
  exact⟨here,n,Ol,z1m _ hh,a,by rw[new,old here hh]⟩
theorem X3.mono(e:∀ t xs,H t=Option.some (.tup xs)->H' t=Option.some (.tup xs))(h:X3 H into line fr):X3 H' into line fr :=
 ⟨h.keys,h.none,fun q hq par n hf=>let ⟨t,a,b⟩:=h.some q hq par n hf;⟨t,a,e _ _ b⟩⟩
theorem X3.app{here q':Nat}{n:Int}{t:Addr}(I:X3 H into line fr)(hn:q'∉line)(ht:H t=Option.some (.tup [.int (here:Nat),.int n])):X3 H (putK into (Sum.inl (q':Int)) (.ref t)) (line++[q']) (Lu fr q' (here,n)):=by
 have ne:∀ x∈line,x≠q':=fun x hx z=>hn (by rw[<- z];exact hx)
 have hv:valV into (Sum.inl (q':Int):Key)=Option.none:=by
  cases e:valV into (Sum.inl (q':Int):Key) with
  | none=>rfl
  | some y=>exact absurd ((I.has q').mp (by rw[e];rfl)) hn
 have val:∀ x∈line,valV (putK into (Sum.inl (q':Int)) (.ref t)) (Sum.inl (x:Int):Key)=valV into (Sum.inl (x:Int):Key):=fun x hx=>by
  rw[V2,if_neg (fun z=>ne x hx (by have:=Sum.inl.inj z;omega))]
 have valn:valV (putK into (Sum.inl (q':Int)) (.ref t)) (Sum.inl (q':Int):Key)=Option.some (.ref t):=by rw[V2,if_pos rfl]
 refine⟨?_,fun q hq hf=>?_,fun q hq par m hf=>?_⟩
 ·rw[zde _ hv,z0y,z0y,I.keys];rfl
 ·rcases z06.mp hq with z|z
  ·rw[Nl (ne q z)] at hf
   rw[val q z];exact I.none q z hf
  ·rw[z0z.mp z,Ol] at hf;cases hf
 ·rcases z06.mp hq with z|z
  ·rw[Nl (ne q z)] at hf
   rw[val q z];exact I.some q z par m hf
  ·rw[z0z.mp z,Ol] at hf
   cases hf;rw[z0z.mp z];exact⟨t,valn,ht⟩
theorem Ai(H:Hp)(p:Nat):X3 H [((Sum.inl (p:Int):Key),V.non)] [p] (fun _=>none) :=
 ⟨rfl,fun q hq _=>by rw[z0z.mp hq];exact Xl rfl,fun q _ par n hf=>nomatch hf⟩
theorem Aj:Sf rows gs p [p] (fun _=>0) (fun _=>none):=⟨rfl,fun q hq hne=>absurd (z0z.mp hq) hne⟩
end
section
variable{rows:List (List Int)}{gs:List V}
theorem Ch.somes{q e:Nat}{st:List (Nat×Option Int)}{w:Option Int}(h:Ch rows gs q st e w):w≠none->∀ s∈st,s.2≠none:=by
 induction h with
 | one q w=>intro hw s hs;simp at hs;subst hs;exact hw
 | step a h ih =>
   intro hw s hs;rcases z00.mp hs with rfl|z
   ·exact fun z=>nomatch z
   ·exact ih hw s z
theorem Ch.near{q e:Nat}{st:List (Nat×Option Int)}{w:Option Int}(h:Ch rows gs q st e w):∀ s∈st,s.1=q\/∃ m,gs[s.1]?=some (V.int m):=by
 induction h with
 | one q w=>intro s hs;simp at hs;subst hs;exact .inl rfl
 | @step q q' e n st w a h ih =>
   intro s hs;rcases z00.mp hs with rfl|z
   ·exact .inl rfl
   ·rcases ih s z with z|z
    ·exact .inr ⟨n,by rw[z];exact a.2⟩
    ·exact .inr z
theorem Ch.single{q e:Nat}{st:List (Nat×Option Int)}{w:Option Int}(h:Ch rows gs q st e w)(hl:st.length<=1):st=[(q,w)]/\e=q:=by
 cases h with
 | one=>exact⟨rfl,rfl⟩
 | step a h=>have:=h.pos;rw[z1h] at hl;omega
structure Tq(rows:List (List Int))(gs:List V)(i:Nat):Prop where
 fill:Y4 rows gs
 ahead:∀ q n,gs[q]?=some (V.int n)->q<i
 stuck:∀ p,p<i->gs[p]?=some .non->Pj rows gs p
theorem Tq.non{i k:Nat}(F:Tq rows gs i)(hk:i<=k)(hr:k<rows.length):gs[k]?=some .non:=by
 have hl:k<gs.length:=by rw[F.fill.len];exact hr
 have e:=z0u hl;rcases F.fill.one _ (z1s hl) with z|⟨n,z⟩
 ·rw[e,z]
 ·rw[z] at e
  have:=F.ahead k n e;omega
theorem Tq.step{i e:Nat}{st:List (Nat×Option Int)}{w:Option Int}(F:Tq rows gs i)(hi:i<rows.length)(c:Xs rows gs i st e w):Tq rows (Yw st gs) (i+1):=by
 have hnon:=F.non (z03 i) hi;cases w with
 | none =>
   obtain⟨h1,h2,h3⟩:=c.none rfl;have hei:e=i:=by
    have hge:=h2 i 0 .nil;rcases(show e=i\/∃ m,gs[e]?=some (V.int m) by
     obtain⟨s,hs,rfl⟩:=z02.mp c.ch.last;exact c.ch.near s hs) with z|⟨m,z⟩
    ·exact z
    ·have:=F.ahead e m z;omega
   have hst:st=[(i,none)]:=(c.ch.single (by have:=h3 0 (hei▸.nil);omega)).1
   have hl:i<gs.length:=by rw[F.fill.len];exact hi
   have same:Yw st gs=gs:=by
    rw[hst];show gs.set i .non=gs;refine List.ext_getElem? fun k=>?_
    by_cases hk:i=k
    ·subst hk;rw[z1y hl,hnon]
    ·rw[z1x hk]
   rw[same];refine⟨F.fill,fun q n hq=>z2v (F.ahead q n hq),fun p hp hpn=>?_⟩
   by_cases hpi:p=i
   ·subst hpi;exact zd5 F.fill hi F.ahead h1
   ·exact F.stuck p (by omega) hpn
 | some n0 =>
   obtain⟨hf,_⟩:=c.free n0 rfl;have nd:=c.nodup;have FP':=c.fill F.fill hi;have at_:∀ k,k<gs.length->(k∉st.map (·.1)/\(Yw st gs)[k]?=gs[k]?)\/∃ w,(k,w)∈st/\(Yw st gs)[k]?=some (oV w):=fun k hk=>W4 nd hk
   have lt:∀ {k:Nat} {v:V},(Yw st gs)[k]?=some v->k<gs.length:=fun {k v} hk=>by
    have:=(z0v.mp hk).1;rw[Wh] at this;exact this
   refine⟨FP',fun q n hq=>?_,fun p hp hpn=>?_⟩
   ·rcases at_ q (lt hq) with ⟨_,h2⟩|⟨w',h1,_⟩
    ·rw[h2] at hq
     exact z2v (F.ahead q n hq)
    ·rcases c.ch.near _ h1 with z|⟨m,z⟩
     ·have:q=i:=z
      omega
     ·exact z2v (F.ahead q m z)
   ·rcases at_ p (lt hpn) with ⟨h1,h2⟩|⟨w',h1,h2⟩
    ·rw[h2] at hpn
     have hpi:p≠i:=fun z=>by
      obtain⟨x,r,e⟩:=c.ch.hd;exact h1 (by rw[z,e];simp)
     exact(F.stuck p (by omega) hpn).behind F.fill c.ch hf hi nd
    ·have:=c.ch.somes (by simp) _ h1
     rw[h2] at hpn
     cases w' with
     | none=>exact absurd rfl this
     | some m=>cases hpn
theorem Ga(rows:List (List Int)):Tq rows (rows.map fun _=>V.non) 0:=by
 have h0:∀ (k:Nat) (n:Int),(rows.map fun _=>V.non)[k]?≠some (V.int n):=fun k n h=>by
  rw[z0x] at h
  cases e:rows[k]? with
  | none=>rw[e] at h;cases h
  | some r=>rw[e] at h;cases h
 exact⟨⟨by rw[z0t],fun x hx=>by obtain⟨_,_,rfl⟩:=z02.mp hx;exact .inl rfl,fun k n h=>absurd h (h0 k n),fun j k n h=>absurd h (h0 j n)⟩,fun q n h=>absurd h (h0 q n),fun p hp=>absurd hp (Nat.not_lt_zero _)⟩
theorem Tq.last(F:Tq rows gs rows.length):Tg rows gs:=fun p hp=>F.stuck p (by have:=(z0v.mp hp).1;rw[F.fill.len] at this;exact this) hp
end
end G

namespace L2
open PySem PySem.Spec PyProof.Rows
section
variable{prog:Program}{w:World}{A:Around}{R:Result->Shared->Prop}{I:Addr}{fp wr:List Addr}{n:Nat}{P:Nat->Value->Prop}{St:Nat->Heap->Prop}
end
end L2

namespace G
open PySem PySem.Spec PyProof.Rows L2
section
variable{rows:List (List Int)}{gs:List V}
theorem Ch.pred{q e:Nat}{st:List (Nat×Option Int)}{w:Option Int}(h:Ch rows gs q st e w):∀ q'∈st.map (·.1),q'=q\/∃ q0 n,(q0,some n)∈st/\gs[q']?=some (V.int n):=by
 induction h with
 | one q w=>intro q' hq;simp at hq;exact .inl hq
 | @step q q1 e n st w a h ih =>
   intro q' hq;rw[z04] at hq
   rcases z00.mp hq with z|z
   ·exact .inl z
   ·rcases ih q' z with z|⟨q0,m,h1,h2⟩
    ·exact .inr ⟨q,n,z1o,by rw[z];exact a.2⟩
    ·exact .inr ⟨q0,m,z1e _ h1,h2⟩
theorem Ch.reach{q e:Nat}{st:List (Nat×Option Int)}{w:Option Int}(h:Ch rows gs q st e w):∀ q'∈st.map (·.1),∃ k,Walk rows gs q q' k:=by
 induction h with
 | one q w=>intro q' hq;simp at hq;rw[hq];exact⟨0,.nil⟩
 | @step q q1 e n st w a h ih =>
   intro q' hq;rw[z04] at hq
   rcases z00.mp hq with z|z
   ·rw[z];exact⟨0,.nil⟩
   ·obtain⟨k,hk⟩:=ih q' z
    exact⟨k+1,.cons a hk⟩
theorem Ch.noneLast{q e:Nat}{st:List (Nat×Option Int)}{w:Option Int}(h:Ch rows gs q st e w):∀ k,(k,none)∈st->k=e/\w=none:=by
 induction h with
 | one q w=>intro k hk;simp at hk;exact⟨hk.1,hk.2.symm⟩
 | @step q q1 e n st w a h ih =>
   intro k hk;rcases z00.mp hk with z|z
   ·cases z
   ·exact ih k z
theorem Ch.along{R:Nat->Prop}(hs:∀ q n q',adjN rows gs q n q'->R q->R q'){q e:Nat}{st:List (Nat×Option Int)}{w:Option Int}(h:Ch rows gs q st e w):R q->R e:=by
 induction h with
 | one q w=>exact fun z=>z
 | step a h ih=>exact fun z=>ih (hs _ _ _ a z)
theorem Ch.lastMem{q e:Nat}{st:List (Nat×Option Int)}{w:Option Int}(h:Ch rows gs q st e w):(e,w)∈st:=by
 induction h with
 | one q w=>simp
 | step a h ih=>exact z1e _ ih
theorem zeg{st:List (Nat×Option Int)}(nd:(st.map (·.1)).Nodup){k:Nat}{w w':Option Int}(h:(k,w)∈st)(h':(k,w')∈st):w=w':=by
 induction st with
 | nil=>cases h
 | cons s r ih =>
   rw[z04,z1i] at nd
   rcases z00.mp h with z|z<;>rcases z00.mp h' with z'|z'
   ·rw[<- z] at z';exact(Prod.mk.inj z').2.symm
   ·exact absurd (z02.mpr ⟨_,z',by rw[<- z]⟩) nd.1
   ·exact absurd (z02.mpr ⟨_,z,by rw[<- z']⟩) nd.1
   ·exact ih nd.2 z z'
theorem zf0{st:List (Nat×Option Int)}{xs:List V}(nd:(st.map (·.1)).Nodup){k:Nat}{w:Option Int}(h:(k,w)∈st)(hk:k<xs.length):(Yw st xs)[k]?=some (oV w):=by
 rcases W4 nd hk with ⟨h1,_⟩|⟨w',h1,h2⟩
 ·exact absurd (z02.mpr ⟨_,h,rfl⟩) h1
 ·rw[h2,zeg nd h1 h]
theorem Ch.moved{p e:Nat}{st:List (Nat×Option Int)}{w:Option Int}(FP:Y4 rows gs)(h:Ch rows gs p st e w)(hp:p<rows.length)(hn:gs[p]?=some .non)(nd:(st.map (·.1)).Nodup){q':Nat}{n:Int}(hq:gs[q']?=some (V.int n)) :
  (q'∉st.map (·.1)/\(Yw st gs)[q']?=some (V.int n))\/∃ q0,(q0,some n)∈st/\(Yw st gs)[q0]?=some (V.int n):=by
 have hl:q' < gs.length:=(z0v.mp hq).1;by_cases hm:q'∈st.map (·.1)
 ·rcases h.pred q' hm with z|⟨q0,m,h1,h2⟩
  ·rw[z,hn] at hq;cases hq
  ·rw[hq] at h2;cases h2
   refine .inr ⟨q0,h1,?_⟩;have:=h.lt FP hp _ h1;exact zf0 nd h1 (by rw[FP.len];exact this)
 ·rcases W4 nd hl with ⟨_,h2⟩|⟨w',h1,_⟩
  ·exact .inl ⟨hm,by rw[h2];exact hq⟩
  ·exact absurd (z02.mpr ⟨_,h1,rfl⟩) hm
end
section
variable{rows:List (List Int)}{gs:List V}{p e:Nat}{x:Int}{st:List (Nat×Option Int)}{w:Option Int}
noncomputable def without(rows:List (List Int))(x:Int):List (List Int):=rows.map fun r=>r.filter fun n=>decide (n≠x)
theorem Sr{q:Nat}{r':List Int}(h:(without rows x)[q]?=some r'):∃ r,rows[q]?=some r/\∀ n∈r',n∈r/\n≠x:=by
 unfold without at h
 rw[z0x] at h
 cases e:rows[q]? with
 | none=>rw[e] at h;cases h
 | some r =>
   rw[e] at h;cases h
   exact⟨r,rfl,fun n hn=>⟨(z1t.mp hn).1,of_decide_eq_true (z1t.mp hn).2⟩⟩
theorem Tr(FP:Y4 rows gs)(hx:gs[p]?=some (.int x)):Y4 (without rows x) (gs.set p .non):=FP.without hx _ fun n hn=>by
 have:=of_decide_eq_false hn;rw[Classical.not_not.mp this]
theorem zeh(hx:gs[p]?=some (.int x)):(gs.set p V.non)[p]?=some .non:=by rw[z1y (z0v.mp hx).1]
theorem zas{q:Nat}{n:Int}(hx:gs[p]?=some (.int x))(h:(gs.set p V.non)[q]?=some (.int n)):gs[q]?=some (.int n)/\q≠p:=by
 by_cases e:p=q
 ·subst e;rw[zeh hx] at h;cases h
 ·rw[z1x e] at h;exact⟨h,Ne.symm e⟩
theorem Nm{q:Nat}{n:Int}(hx:gs[p]?=some (.int x))(h:gs[q]?=some (.int n))(hn:n≠x):(gs.set p V.non)[q]?=some (.int n):=by
 rw[z1x (fun z=>by subst z;rw[hx] at h;cases h;exact hn rfl)];exact h
theorem Cj(FP:Y4 rows gs)(SP:Tg rows gs)(hx:gs[p]?=some (.int x))(C:Xs (without rows x) (gs.set p .non) p st e w):Tg (without rows x) (Yw st (gs.set p .non)):=by
 have FP0:=Tr FP hx;have hRl:(without rows x).length=rows.length:=by unfold without;rw[z0t]
 have hp:p<rows.length:=by have:=(z0v.mp hx).1;rw[FP.len] at this;exact this
 have hp0:p<(without rows x).length:=by rw[hRl];exact hp
 have nd:=C.nodup;have hpm:p∈st.map (·.1):=by obtain⟨y,r,e'⟩:=C.ch.hd;rw[e'];simp
 have moved:=fun {q':Nat} {n:Int} (hq:(gs.set p V.non)[q']?=some (V.int n))=>C.ch.moved FP0 hp0 (zeh hx) nd hq
 have closedT:w=none->∀ q,(∃ k,Walk (without rows x) (gs.set p .non) p q k)->q<(without rows x).length/\∀ r,(without rows x)[q]?=some r->∀ n∈r,∃ q2,q2<e/\(Yw st (gs.set p .non))[q2]?=some (.int n)/\∃ k,Walk (without rows x) (gs.set p .non) p q2 k:=by
  rintro hw q ⟨k,hk⟩;obtain⟨c1,c2,c3⟩:=C.none hw;refine⟨?_,fun r hr n hn=>?_⟩
  ·cases hk with
   | nil=>exact hp0
   | snoc _ a =>
     have:=(z0v.mp a.2).1;rw[FP0.len] at this;exact this
  ·by_cases hf:∃ j:Nat,(gs.set p V.non)[j]?=some (V.int n)
   ·obtain⟨q1,hq1⟩:=hf
    have w1:Walk (without rows x) (gs.set p .non) p q1 (k+1):=.snoc hk ⟨⟨r,hr,hn⟩,hq1⟩;rcases moved hq1 with ⟨m1,m2⟩|⟨q0,m1,m2⟩
    ·refine⟨q1,?_,m2,_,w1⟩
     have:=c2 q1 _ w1;have hne:q1≠e:=fun z=>m1 (by rw[z];exact C.ch.last)
     omega
    ·obtain⟨k0,hk0⟩:=C.ch.reach q0 (z02.mpr ⟨_,m1,rfl⟩)
     refine⟨q0,?_,m2,k0,hk0⟩;have:=c2 q0 _ hk0;have hne:q0≠e:=fun z=>by
      have hl:=C.ch.lastMem;rw[z] at m1
      rw[hw] at hl
      have:=zeg nd m1 hl;cases this
     omega
   ·exact absurd ⟨n,⟨r,hr,hn⟩,fun j hj=>hf ⟨j,hj⟩⟩ (c1 q k hk)
 intro p0 hpn;have hl0:p0<(gs.set p V.non).length:=by have:=(z0v.mp hpn).1;rw[Wh] at this;exact this
 rcases W4 nd hl0 with ⟨a1,a2⟩|⟨w',a1,a2⟩
 ·rw[a2] at hpn
  have hpp:p≠p0:=fun z=>a1 (by rw[<- z];exact hpm)
  rw[z1x hpp] at hpn
  obtain⟨S0,hS,cl⟩:=SP p0 hpn;have inS:∀ q k,Walk rows gs p0 q k->S0 q:=fun q k hk=>by
   induction hk with
   | nil=>exact hS
   | @snoc q q' k n h a ih =>
     obtain⟨r,h1,h2⟩:=a.1;obtain⟨q'',_,h3,h4⟩:=(cl q ih).2 r h1 n h2;rw[<- FP.inj q'' q' n h3 a.2];exact h4
  have closed0:∀ q,(∃ k,Walk rows gs p0 q k)->q<rows.length/\∀ r,rows[q]?=some r->∀ n∈r,∃ q',q' < p0/\gs[q']?=some (.int n)/\∃ k,Walk rows gs p0 q' k:=by
   rintro q ⟨k,hk⟩;refine⟨(cl q (inS q k hk)).1,fun r hr n hn=>?_⟩
   obtain⟨q',h1,h2,_⟩:=(cl q (inS q k hk)).2 r hr n hn;exact⟨q',h1,h2,k+1,.snoc hk ⟨⟨r,hr,hn⟩,h2⟩⟩
  have lt0:∀ q,(∃ k,Walk rows gs p0 q k)->q=p0\/q<p0:=by
   rintro q ⟨k,hk⟩;cases hk with
   | nil=>exact .inl rfl
   | @snoc q1 _ k n h a =>
     obtain⟨r,h1,h2⟩:=a.1;obtain⟨q',h3,h4,_⟩:=(closed0 q1 ⟨k,h⟩).2 r h1 n h2;rw[<- FP.inj q' q n h4 a.2];exact .inr h3
  have along:∀ {q:Nat} {st':List (Nat×Option Int)} {w':Option Int},Ch (without rows x) (gs.set p .non) q st' e w'->(∃ k,Walk rows gs p0 q k)->∃ k,Walk rows gs p0 e k:=fun {q st' w'} hc =>
   hc.along (R:=fun q=>∃ k,Walk rows gs p0 q k) fun q n q' a ⟨k,hk⟩=>by
    obtain⟨r',h1,h2⟩:=a.1;obtain⟨r,h3,h4⟩:=Sr h1;exact⟨k+1,.snoc hk ⟨⟨r,h3,(h4 n h2).1⟩,(zas hx a.2).1⟩⟩
  by_cases hpath:∃ q∈st.map (·.1),∃ k,Walk rows gs p0 q k
  ·obtain⟨q1,hq1,hk1⟩:=hpath
   obtain⟨st',c1,_⟩:=C.ch.drop q1 hq1;have hRe:=along c1 hk1;cases hw:w with
   | some n0 =>
     obtain⟨⟨r',f1,f2⟩,f3⟩:=(C.free n0 hw).1;obtain⟨r,g1,g2⟩:=Sr f1;obtain⟨q',_,h2,_⟩:=(closed0 e hRe).2 r g1 n0 (g2 n0 f2).1;exact absurd (Nm hx h2 (g2 n0 f2).2) (f3 q')
   | none =>
     have clT:=closedT hw;obtain⟨_,cmax,_⟩:=C.none hw;have hep:e<p0:=by
      have hfe:∃ m,gs[e]?=some (V.int m):=by
       obtain⟨s,hs,hse⟩:=z02.mp C.ch.last;rcases C.ch.near s hs with z|⟨m,z⟩
       ·rw[<- hse,z];exact⟨x,hx⟩
       ·rw[hse] at z;exact⟨m,(zas hx z).1⟩
      obtain⟨m,hm⟩:=hfe;rcases lt0 e hRe with z|z
      ·rw[z,hpn] at hm;cases hm
      ·exact z
     refine⟨fun q=>(∃ k,Walk rows gs p0 q k)\/∃ k,Walk (without rows x) (gs.set p .non) p q k,.inl ⟨0,.nil⟩,fun q hq=>?_⟩
     rcases hq with hq|hq
     ·refine⟨by rw[hRl];exact(closed0 q hq).1,fun r' hr' n hn=>?_⟩
      obtain⟨r,g1,g2⟩:=Sr hr';obtain⟨q',h1,h2,h3⟩:=(closed0 q hq).2 r g1 n (g2 n hn).1;rcases moved (Nm hx h2 (g2 n hn).2) with ⟨_,m2⟩|⟨q0,m1,m2⟩
      ·exact⟨q',h1,m2,.inl h3⟩
      ·obtain⟨k0,hk0⟩:=C.ch.reach q0 (z02.mpr ⟨_,m1,rfl⟩)
       have:=cmax q0 k0 hk0;exact⟨q0,by omega,m2,.inr ⟨k0,hk0⟩⟩
     ·obtain⟨t1,t2⟩:=clT q hq
      refine⟨t1,fun r hr n hn=>?_⟩
      obtain⟨q2,h1,h2,h3⟩:=t2 r hr n hn;exact⟨q2,by omega,h2,.inr h3⟩
  ·refine⟨fun q=>∃ k,Walk rows gs p0 q k,⟨0,.nil⟩,fun q hq=>⟨by rw[hRl];exact(closed0 q hq).1,fun r' hr' n hn=>?_⟩⟩
   obtain⟨r,g1,g2⟩:=Sr hr';obtain⟨q',h1,h2,h3⟩:=(closed0 q hq).2 r g1 n (g2 n hn).1;rcases moved (Nm hx h2 (g2 n hn).2) with ⟨_,m2⟩|⟨q0,m1,m2⟩
   ·exact⟨q',h1,m2,h3⟩
   ·rcases W4 nd (show q' < (gs.set p V.non).length from(z0v.mp (Nm hx h2 (g2 n hn).2)).1) with ⟨_,b2⟩|⟨w2,b1,_⟩
    ·exact⟨q',h1,by rw[b2];exact Nm hx h2 (g2 n hn).2,h3⟩
    ·exact absurd ⟨q',z02.mpr ⟨_,b1,rfl⟩,h3⟩ hpath
 ·rw[a2] at hpn
  cases w' with
  | some n=>cases hpn
  | none =>
    obtain⟨b1,b2⟩:=C.ch.noneLast p0 a1;subst b1;exact⟨_,⟨0+(C.ch.reach p0 (z02.mpr ⟨_,a1,rfl⟩)).choose,by rw[Nat.zero_add];exact(C.ch.reach p0 (z02.mpr ⟨_,a1,rfl⟩)).choose_spec⟩,closedT b2⟩
end
end G

namespace L2
open PySem PySem.Spec PyProof.Rows
section
variable{prog:Program}{w:World}{A:Around}{E:Value->Shared->Prop}{s:Shared}{T:String}{r d:Addr}{n:Nat}{P:Nat->Value->Prop}{OK:Heap->Prop}
open PySem.W in
end
end L2

namespace G
open PySem PySem.Spec PyProof.Rows L2
section
variable{α:Type}[DecidableEq α]{f:α->Key}
end
section
variable{rows:List (List Int)}{gs:List V}
structure zj6(rows:List (List Int))(gs:List V)(ps:List Nat)(rs:List Int):Prop where
 up:ps.Pairwise (· < ·)
 lt:∀ p∈ps,p<rows.length
 rup:rs.Pairwise (· < ·)
 all:∀ n,n∈rs↔∃ p∈ps,∃ r,rows[p]?=some r/\n∈r
 cnt:ps.length=rs.length+(zgo gs).length
 nil:zgo gs=[]->ps=[]
 gap:∀ p,gs[p]?=some .non->p∈ps
 has:∀ n∈rs,∃ p∈ps,gs[p]?=some (.int n)
noncomputable def zjm(x:Option V):Option Int:=match x with|some (.int n)=>some n|_=>none
end
section
variable{rows:List (List Int)}{gs:List V}{p:Nat}{line:List Nat}{dep:Nat->Nat}{fr:Nat->Option (Nat×Int)}
noncomputable def byV(x:Option (Nat×Int)):V:=match x with|none=>.non|some y=>.int (y.1:Nat)
structure zke(by_:List (Key×V))(line:List Nat)(fr:Nat->Option (Nat×Int)):Prop where
 keys:by_.map (·.1)=line.map fun q:Nat=>(Sum.inl (q:Int):Key)
 val:∀ q∈line,valV by_ (Sum.inl (q:Int):Key)=some (byV (fr q))
structure zkf(rows:List (List Int))(gs:List V)(dep:Nat->Nat)(q:Nat)(x:Int)(tl:List (Nat×Option Int))(e:Nat)(n:Int):Prop where
 ch:Ch rows gs q ((q,some x) :: tl) e (some n)
 nd:(((q,some x) :: tl).map (·.1)).Nodup
 far:∀ s∈tl,dep q<dep s.1
end
section
variable{rows:List (List Int)}{gs:List V}
noncomputable def zh2(rows:List (List Int))(gs:List V)(p:Nat):Prop:=∀ q k,Walk rows gs p q k->¬ Tp rows gs q
structure zjn(rows:List (List Int))(f k:Nat)(gs:List V):Prop where
 fill:Y4 rows gs
 seen:∀ j,j<k->(∃ n,gs[(f+j)%rows.length]?=some (.int n))\/zh2 rows gs ((f+j)%rows.length)
 later:∀ p,(∀ j,j<k->(f+j)%rows.length≠p)->p<rows.length->gs[p]?=some .non
end
section
variable{rows:List (List Int)}{gs:List V}{M:List Int}
end
end G

namespace PySem
theorem Fq{α β:Type}(f:α->β):∀ (l:List α) (j:Nat),(l.map f).eraseIdx j=(l.eraseIdx j).map f
 | [],_=>rfl
 | _ :: _,0=>rfl
 | x :: l,j+1=>by
   show f x :: (l.map f).eraseIdx j=f x :: (l.eraseIdx j).map f;rw[Fq f l j]
section
variable{prog:Program}{w:World}{K:Type}[DecidableEq K]{knd:HeapKind prog w K}{A:Around}{E:Value->Shared->Prop}{s:Shared}
theorem Om{d a:Addr}{xs:List (K×Addr×Value)}{k:K}{j:Nat}{p:Addr×Value}{Q:Option DictEntry->Shared->Prop}(hu:knd.room A)(hkey:knd.is s.heap k a)(hm:s.heap.DictOfH knd d xs)(hj:xs[j]?=some (k,p))(hsz:xs.length<=sizeLine)
  (hQ:∀ h',h'.DictOfH knd d (xs.eraseIdx j)->Heap.SameBut d s.heap h'->Q (some (entryOfKey knd (k,p))) { s with heap:=h',toks:=s.toks+knd.draws k }) :
  wpAny (model prog w) A (Builtin.Dict.takeOut d (.ref a)) Q E s:=by
 obtain⟨o,es,ep,ho,hc,hd,he,his,hn⟩:=hm;unfold Builtin.Dict.takeOut
 try with_reducible refine wpAny_holding ?_
 refine wpAny_bind (knd.pyHash hu hkey (wpAny_bind (wpAny_dictFind_heap (s:={ s with toks:=s.toks+knd.draws k }) hu hkey ho hd he his hn ?_ ?_)))
 ·intro hno
  exact absurd hj (hno j p)
 ·intro j' p' hj'
  have ej:=idxH_unique hn hj' hj;subst ej;refine wpAny_bind (wpAny_dictEntries (s:={ s with toks:=s.toks+knd.draws k }) ho hd ?_)
  rw[entry_at he j',hj];refine wpAny_bind (wpAny_updateDictKeys (hz:=by have e:=size_of_entries he;omega) (s:={ s with toks:=s.toks+knd.draws k }) ho hd (wpAny_pure (hQ _ ⟨_,_,ep+1,Heap.get?_update_self _ ho (Obj.isFreed_of_dict (Obj.data_mapDictKeys hd _)),
   hc.mapDictKeys _,Obj.data_mapDictKeys hd _,?_,?_,?_⟩ (Heap.SameBut.update ..))))
  ·obtain⟨l⟩:=es
   simp only at he
   simp[he,Fq]
  ·intro x hx
   exact knd.keeps (his x (List.mem_of_mem_eraseIdx hx)) ho hd (Heap.SameBut.update ..)
  ·have:=hn.sublist (List.Sublist.map (·.1) (List.eraseIdx_sublist xs j'))
   exact this
theorem Ki(d a:Addr)(k:K) :
  MeetsIn prog w (Builtin.«dict.pop» ⟨[.ref d,.ref a],[]⟩) (fun A R s=>knd.room A.in1/\knd.is s.heap k a/\∃ xs j p,s.heap.DictOfH knd d xs/\xs.length<=sizeLine/\xs[j]?=some (k,p) /\
   ∀ h' t',h'.DictOfH knd d (xs.eraseIdx j)->Heap.SameBut d s.heap h'->R (.ok (.ret p.2)) { s with heap:=h',toks:=t' }) :=
 .of_wp fun A R s ⟨hu,hkey,xs,j,p,hm,hsz,hj,h⟩=>by
  obtain⟨o,es,ep,ho,hc,hd,he,his,hn⟩:=id hm;unfold Builtin.«dict.pop»;refine wpAny_bind ?_;unfold Builtin.Dict.keyAndDefault;refine wpAny_bind (wpAny_notOrdered_dict hm.typeIs ?_);show wpAny _ _ (pure (d,Value.ref a,none)) _ _ s;refine wpAny_pure ?_;have hp:(keyPart (Value.ref a)).isSome=false:=rfl;simp only[hp,z2q,if_false];refine wpAny_bind (wpAny_dictEntries ho hd (wpAny_bind (wpAny_pure ?_)));have hne:es.isEmpty=false:=by
   have h1:=size_of_entries he;have h2:=(z0v.mp hj).1;rw[Array.isEmpty_eq_false_iff_exists_mem];exact⟨es[0]'(by omega),Array.getElem_mem _⟩
  simp only[hne,z2q,if_false];refine wpAny_bind (Om hu hkey hm hj hsz fun h' hm' hs'=>?_)
  simp only[Option.isNone_some,z2q,if_false];exact wpAny_bind (wpAny_letGo (wpAny_pure ⟨p.2,rfl,h h' _ hm' hs'⟩))
end
end PySem
namespace L2
open PySem PySem.Spec PyProof.Rows
theorem KT.drop{H:Hp}{k:List Key}{v:V}:∀ {kvs:List (List Key×V)} {xs:List (List Key×Addr×Value)},KT H kvs xs->(xs.map (·.1)).Nodup->valV kvs k=some v->∃ j p,xs[j]?=some (k,p)/\RelV v p.2/\KT H (Wc kvs k) (xs.eraseIdx j)
 | [],[],_,_,hv=>by cases hv
 | p :: kvs,q :: xs,r,nd,hv=>by
   cases r with
   | cons h t =>
     rw[z04,z1i] at nd
     obtain⟨h1,h2,h3⟩:=h;by_cases e:p.1=k
     ·rw[Xl e] at hv
      cases hv;refine⟨0,q.2,by rw[<- e,h1];rfl,h3,?_⟩
      show KT H (Wc (p :: kvs) k) xs;have hd:Wc (p :: kvs) k=kvs:=by
       unfold Wc;rw[z2e (by simp[e])]
       rw[List.filter_eq_self];intro kv hkv;refine z01 fun z=>nd.1 ?_
       have:∀ {l:List (List Key×V)} {m:List (List Key×Addr×Value)},KT H l m->kv∈l->kv.1∈m.map (·.1):=by
        intro l m q
        induction q with
        | nil=>intro hx;cases hx
        | @cons p' q' ps qs hq t ih =>
          intro hx;rcases z00.mp hx with z|z
          ·rw[z,hq.1];exact z1o
          ·exact z1e _ (ih z)
       have h9:=this t hkv;rw[z,<- e,h1] at h9
       exact h9
      rw[hd];exact t
     ·rw[Xd e] at hv
      obtain⟨j,pp,h4,h5,h6⟩:=KT.drop t nd.2 hv;refine⟨j+1,pp,h4,h5,?_⟩;have hd:Wc (p :: kvs) k=p :: Wc kvs k:=by
       unfold Wc;rw[z2f (by simp[e])]
      rw[hd];exact .cons ⟨h1,h2,h3⟩ h6
inductive zf1(ty:TE)(σ:L2.St)(Q:VK)(x:V)(H1:Hp):Prop where
 | mk(a)(_:x=.ref a)(_:IsD H1 a)(_:ty σ H1 fun y H2=>∃ (kvs:List (List Key×V)) (k:List Key) (b:Addr) (v:V),H2 a=some (.dT kvs)/\y=.ref b/\H2 b=some (.tup (k.map kV))/\valV kvs k=some v/\Q v (upd H2 a (.dT (Wc kvs k))))
noncomputable def zh3(td ty:TE):TE:=fun σ H Q=>td σ H fun x H1=>zf1 ty σ Q x H1
theorem zei{X:Cx}{o e:Expr}{apos cpos:Pos}{td ty:TE}(hu:X.A.units+1<cLine)(ho:PE X o td)(he:PE X e ty)(m:M1 X o "pop" apos e cpos):PE X (.Call (.Attribute o "pop" apos) [e] [] cpos) (zh3 td ty):=by
 intro pins s σ H Q I h;refine wpAny_Call_method m.base m.few m.line PySem.F.plainAttrs_dict PySem.F.slot_dict_pop PySem.F.type_dict_pop (thn (ho pins s σ H _ I h) fun u s1 ⟨x,H1,I1,rx,a,ex,d,q1⟩=>?_)
 subst ex;obtain rfl:u=Value.ref a:=rx;obtain⟨t1,t2,_⟩:=B4 I1 d;refine⟨t1,t2,?_⟩;rw[m.trees];refine Calls.callWith_builtin rfl (Calls.evalArgs_plain (Calls.spliced_cons (thn (he pins s1 σ H1 _ I1 q1) fun iv s2 ⟨y,H2,I2,ry,kvs,k,b,v,ea,ey,eb,l,q2⟩=>Calls.spliced_nil ?_)))
 subst ey;cases (show iv=Value.ref b from ry)
 obtain⟨z,hd,xs,rel,dd⟩:=zgi I2.hok ea;have hz:xs.length<=sizeLine:=by rw[<- Paired.length rel];exact z
 obtain⟨j,p,hj,rv,rel'⟩:=KT.drop rel (by obtain⟨_,_,_,_,_,_,_,_,hn⟩:=dd;exact hn) l
 refine call_meetsIn PySem.F.slot_dict_pop dd.typeIs PySem.F.entry_dict_pop (PySem.F.args_dict_pop_2 _ _) (Ki (knd:=tupleKind (Yr X.prog X.w)) a b k) ⟨tupleKind_room_in1 hu,Oe I2.hok eb,xs,j,p,dd,hz,hj,fun h' t' dd' hs=>⟨v,_,?_,rv,q2⟩⟩
 obtain⟨q,es,ep,hq,h2,h3,h4,_,h5⟩:=dd';refine Nb I2 (by rw[ea];exact True.intro) hs ⟨q,hq⟩ ⟨z09 (D1 kvs k) z,hd,_,rel'.keeps fun c ys ec=>?_,q,es,ep,hq,h2,h3,h4,h5⟩
 rw[Zh (Yt ec ea (fun z=>nomatch z))]
 exact ec
end L2

namespace G
open PySem PySem.Spec PyProof.Rows L2
structure CA where
 season:Addr
 sheet:Addr
 roster:Addr
 ledger:Addr
 out:Addr
 known:Addr
 many:Addr
 unk:Addr
 manyM:Addr
 same:Addr
 noMatch:Addr
 noRound:Addr
 over:Addr
 seaOver:Addr
 away:Addr
 drawn:Addr
 notDrawn:Addr
 nothing:Addr
 manyD:Addr
theorem Td:1000000<sizeLine:=by rw[sizeLine_eq];decide
noncomputable abbrev RL:=List (Int×Int×Int)
inductive Vv(H:Hp):RL->List (Key×V)->Prop where
 | nil:Vv H [] []
 | cons {n g c:Int} {t:Addr} {R:RL} {kvs:List (Key×V)} (h:H t=some (.tup [.int g,.int c])) (r:Vv H R kvs):Vv H ((n,g,c) :: R) ((.inl n,.ref t) :: kvs)
theorem Vv.mono{H H':Hp}(k:∀ t xs,H t=some (.tup xs)->H' t=some (.tup xs)):∀ {R:RL} {kvs:List (Key×V)},Vv H R kvs->Vv H' R kvs
 | _,_,.nil=>.nil
 | _,_,.cons h r=>.cons (k _ _ h) (Vv.mono k r)
theorem Vv.length{H:Hp}:∀ {R:RL} {kvs:List (Key×V)},Vv H R kvs->kvs.length=R.length
 | _,_,.nil=>rfl
 | _,_,.cons _ r=>by simp[Vv.length r]
theorem Vv.keys{H:Hp}:∀ {R:RL} {kvs:List (Key×V)},Vv H R kvs->(kvs.map fun kv=>kV kv.1)=R.map fun x=>V.int x.1
 | _,_,.nil=>rfl
 | _,_,.cons _ r=>by rw[z04,z04,Vv.keys r];rfl
theorem Vv.snoc{H:Hp}{n g c:Int}{t:Addr}(h:H t=some (.tup [.int g,.int c])):∀ {R:RL} {kvs:List (Key×V)},Vv H R kvs->Vv H (R++[(n,g,c)]) (kvs++[(.inl n,.ref t)])
 | _,_,.nil=>.cons h .nil
 | _,_,.cons h' r=>.cons h' (Vv.snoc h r)
theorem Vv.val_none{H:Hp}{n:Int}:∀ {R:RL} {kvs:List (Key×V)},Vv H R kvs->n∉R.map (·.1)->valV kvs (Sum.inl n:Key)=none
 | _,_,.nil,_=>rfl
 | _,_,.cons (n:=m) _ r,h=>by
   rw[z04,z00,not_or] at h
   rw[Xd (fun e=>h.1 (Sum.inl.inj e).symm)]
   exact Vv.val_none r h.2
theorem Vv.val_some{H:Hp}{n g c:Int}:∀ {R:RL} {kvs:List (Key×V)},Vv H R kvs->(R.map (·.1)).Nodup->(n,g,c)∈R->∃ t,valV kvs (Sum.inl n:Key)=some (.ref t)/\H t=some (.tup [.int g,.int c])
 | _,_,.nil,_,h=>by simp at h
 | _,_,.cons (n:=m) (g:=g') (c:=c') (t:=t) ht r,nd,h=>by
   rw[z04,z1i] at nd
   by_cases e:m=n
   ·subst e
    rcases z00.mp h with q|q
    ·cases q
     exact⟨t,Xl rfl,ht⟩
    ·exact absurd (z02.mpr ⟨_,q,rfl⟩) nd.1
   ·rcases z00.mp h with q|q
    ·cases q;exact absurd rfl e
    ·obtain⟨t',h1,h2⟩:=Vv.val_some r nd.2 q
     exact⟨t',by rw[Xd (fun z=>e (Sum.inl.inj z))];exact h1,h2⟩
theorem Vv.isSome{H:Hp}{n:Int}{R:RL}{kvs:List (Key×V)}(e:Vv H R kvs)(nd:(R.map (·.1)).Nodup):(valV kvs (Sum.inl n:Key)).isSome=decide (n∈R.map (·.1)):=by
 by_cases h:n∈R.map (·.1)
 ·obtain⟨⟨m,g,c⟩,q,rfl⟩:=z02.mp h
  obtain⟨t,h1,_⟩:=e.val_some nd q;rw[h1,z01 h];rfl
 ·rw[e.val_none h,z07 h];rfl
theorem Vv.unsnoc{H:Hp}{n g c:Int}:∀ {R:RL} {kvs:List (Key×V)},Vv H (R++[(n,g,c)]) kvs->n∉R.map (·.1)->Vv H R (Wc kvs (Sum.inl n))
 | [],_,.cons h .nil,_=>by
   unfold Wc;rw[z2e (by simp)];exact .nil
 | (m,g',c') :: R,_,.cons h r,hn=>by
   rw[z04,z00,not_or] at hn
   unfold Wc;rw[z2f (by
    refine z01 fun z=>hn.1 ?_
    exact(Sum.inl.inj z).symm)]
   exact .cons h (Vv.unsnoc r hn.2)
structure Xm(C:Addr)(H:Hp)(p d:Addr)(R:RL):Prop where
 ex:∃ dx kvs,H p=some (.ins C dx [("entries",.ref d)])/\H d=some (.dK kvs)/\Vv H R kvs
 nd:(R.map (·.1)).Nodup
theorem Vw{d:Addr}:List.lookup ("entries":Str) ([("entries",V.ref d)]:List (Str×V))=some (.ref d):=by simp only[z1r,beq_self_eq_true]
theorem Xm.no{d:Addr}{m:Str}(h:¬ m="entries"):List.lookup m ([("entries",V.ref d)]:List (Str×V))=none:=by
 have e:(m == "entries")=false:=z1g.mpr h;simp only[z1r,e,List.lookup_nil]
theorem Xm.keep{C:Addr}{H H':Hp}{p d:Addr}{R:RL}(h:Xm C H p d R)(kp:∀ o,H p=some o->H' p=some o)(kd:∀ o,H d=some o->H' d=some o)(kt:∀ t xs,H t=some (.tup xs)->H' t=some (.tup xs)):Xm C H' p d R:=by
 obtain⟨⟨dx,kvs,h1,h2,h3⟩,nd⟩:=h;exact⟨⟨dx,kvs,kp _ h1,kd _ h2,h3.mono kt⟩,nd⟩
theorem Xm.same{C:Addr}{H H':Hp}{p d:Addr}{R:RL}(h:Xm C H p d R)(e:Same H H'):Xm C H' p d R:=h.keep (fun _ q=>e _ _ q) (fun _ q=>e _ _ q) fun _ _ q=>e _ _ q
noncomputable def badI(n g c:Int):Prop:=n<1\/999<n\/g<1\/9<g\/c<1\/99<c
instance {n g c:Int}:Decidable (badI n g c):=by unfold badI;infer_instance
noncomputable def Ak(n g c:Int):Prop:=Yk n/\Yk g/\Yk c
inductive Nn(x:Addr)(vs:List V)(H:Hp)(Q:VK)(E:XK):Prop where
 | mk(v)(lo)(m)(_:vs=[.int v,.int lo,.int m])(_:Yk v)(_:Yk lo)(_:Yk m)(_:(if v<lo\/m<v then E (.ref x) none H else Q .non H))
inductive zat(ca:CA)(vs:List V)(H:Hp)(Q:VK)(_:XK):Prop where
 | mk(p)(dx)(_:vs=[.ref p])(_:H p=some (.ins ca.roster dx []))(_:∀ d,H d=none->Q .non (upd (upd H d (.dK [])) p (.ins ca.roster dx [("entries",.ref d)])))
inductive Oo(ca:CA)(vs:List V)(H:Hp)(Q:VK)(E:XK):Prop where
 | mk(p)(d)(R)(n)(g)(c)(_:vs=[.ref p,.int n,.int g,.int c])(_:Xm ca.roster H p d R)(_:Ak n g c)(_:if badI n g c then E (.ref ca.out) none H else if n∈R.map (·.1) then E (.ref ca.known) none H else if 30<=R.length then E (.ref ca.many) none H else Q .non H)
inductive Ts(ca:CA)(vs:List V)(H:Hp)(Q:VK)(E:XK):Prop where
 | mk(p)(d)(R)(n)(_:vs=[.ref p,.int n])(_:Xm ca.roster H p d R)(_:Yk n)(_:if n∈R.map (·.1) then Q .non H else E (.ref ca.unk) none H)
inductive zej(ca:CA)(vs:List V)(H:Hp)(Q:VK)(E:XK):Prop where
 | mk(p)(d)(R)(n)(g)(c)(_:vs=[.ref p,.int n,.int g,.int c])(_:Xm ca.roster H p d R)(_:Ak n g c)(_:R.length<=1000)(_:if badI n g c then E (.ref ca.out) none H else if n∈R.map (·.1) then E (.ref ca.known) none H else if 30<=R.length then E (.ref ca.many) none H else ∀ H',Xm ca.roster H' p d (R++[(n,g,c)])->(∀ b o,H b=some o->b≠d->H' b=some o)->Q .non H')
inductive Ck(ca:CA)(vs:List V)(H:Hp)(Q:VK)(_:XK):Prop where
 | mk(p)(d)(R)(n)(g)(c)(_:vs=[.ref p,.int n])(_:Xm ca.roster H p d (R++[(n,g,c)]))(_:∀ H',Xm ca.roster H' p d R->(∀ b o,H b=some o->b≠d->H' b=some o)->Q .non H')
inductive Jw(ca:CA)(vs:List V)(H:Hp)(Q:VK)(_:XK):Prop where
 | mk(p)(d)(R)(_:vs=[.ref p])(_:Xm ca.roster H p d R)(_:∀ l,H l=none->Q (.ref l) (upd H l (.lst (R.map fun x=>V.int x.1))))
inductive Cm(ca:CA)(vs:List V)(H:Hp)(Q:VK)(E:XK):Prop where
 | mk(p)(d)(R)(n)(_:vs=[.ref p,.int n])(_:Xm ca.roster H p d R)(_:Yk n)(_:(n∉R.map (·.1)->E (.ref ca.unk) none H))(_:∀ g c t,(n,g,c)∈R->H t=some (.tup [.int g,.int c])->Q (.ref t) H)
inductive Jx(ca:CA)(vs:List V)(H:Hp)(Q:VK)(E:XK):Prop where
 | mk(p)(d)(R)(n)(_:vs=[.ref p,.int n])(_:Xm ca.roster H p d R)(_:Yk n)(_:(n∉R.map (·.1)->∀ H',Same H H'->E (.ref ca.unk) none H'))(_:∀ g c t H',(n,g,c)∈R->H' t=some (.tup (pV (n,g,c)))->Same H H'->H t=none->Q (.ref t) H')
structure Zx where
 ms:List (Int×Int×Int)
 may:List (List Int)
 gv:List V
 gaps:List (Int×List (Nat×Option Int))
inductive Wz(ok:Addr->Prop)(H:Hp):List V->List (Int×List (Nat×Option Int))->Prop where
 | nil:Wz ok H [] []
 | cons {t l:Addr} {n:Int} {us:List V} {st:List (Nat×Option Int)} {ts:List V} {G:List (Int×List (Nat×Option Int))} (h:H t=some (.tup [.int n,.ref l])) (hl:H l=some (.lst us)) (tl:Yb H us (st.map Uy)) (o:ok l) (r:Wz ok H ts G):Wz ok H (.ref t :: ts) ((n,st) :: G)
theorem Wz.keep{ok:Addr->Prop}{H H':Hp}(k:∀ x o,ok x->H x=some o->H' x=some o)(kt:∀ t xs,H t=some (.tup xs)->H' t=some (.tup xs)):∀ {ts:List V} {G:List (Int×List (Nat×Option Int))},Wz ok H ts G->Wz ok H' ts G
 | _,_,.nil=>.nil
 | _,_,.cons h hl tl o r=>.cons (kt _ _ h) (k _ _ o hl) (tl.mono kt) o (Wz.keep k kt r)
theorem Wz.imp{ok ok':Addr->Prop}{H:Hp}(k:∀ x,(∃ o,H x=some o)->ok x->ok' x):∀ {ts:List V} {G:List (Int×List (Nat×Option Int))},Wz ok H ts G->Wz ok' H ts G
 | _,_,.nil=>.nil
 | _,_,.cons h hl tl o r=>.cons h hl tl (k _ ⟨_,hl⟩ o) (Wz.imp k r)
theorem Wz.length{ok:Addr->Prop}{H:Hp}:∀ {ts:List V} {G:List (Int×List (Nat×Option Int))},Wz ok H ts G->ts.length=G.length
 | _,_,.nil=>rfl
 | _,_,.cons _ _ _ _ r=>by simp[Wz.length r]
theorem Wz.snoc{ok:Addr->Prop}{H:Hp}{t l:Addr}{n:Int}{us:List V}{st:List (Nat×Option Int)}(h:H t=some (.tup [.int n,.ref l]))(hl:H l=some (.lst us))(tl:Yb H us (st.map Uy))(o:ok l):∀ {ts:List V} {G:List (Int×List (Nat×Option Int))},Wz ok H ts G->Wz ok H (ts++[.ref t]) (G++[(n,st)])
 | _,_,.nil=>.cons h hl tl o .nil
 | _,_,.cons h' hl' tl' o' r=>.cons h' hl' tl' o' (Wz.snoc h hl tl o r)
theorem Wz.get{ok:Addr->Prop}{H:Hp}:∀ {ts:List V} {G:List (Int×List (Nat×Option Int))} {i:Nat} {x:V},Wz ok H ts G->ts[i]?=some x->∃ t l n us st,x=.ref t/\G[i]?=some (n,st)/\H t=some (.tup [.int n,.ref l])/\H l=some (.lst us)/\Yb H us (st.map Uy)/\ok l
 | _,_,_,_,.nil,e=>by simp at e
 | _,_,0,_,.cons h hl tl o _,e=>by simp at e;subst e;exact⟨_,_,_,_,_,rfl,rfl,h,hl,tl,o⟩
 | _,_,i+1,x,.cons _ _ _ _ r,e=>by
   obtain⟨t,l,n,us,st,h1,h2,h3⟩:=Wz.get (i:=i) (x:=x) r (by simpa using e)
   exact⟨t,l,n,us,st,h1,by simpa using h2,h3⟩
noncomputable def shF(l1 l2 l3 l4:Addr):List (Str×V):=[("listed",.ref l1),("lists",.ref l2),("given",.ref l3),("gaps",.ref l4)]
structure ShAt(C:Addr)(ok:Addr->Prop)(H:Hp)(q:Addr)(s:Zx):Prop where
 ex:∃ dx l1 l2 l3 l4 ts ls gts,H q=some (.ins C dx (shF l1 l2 l3 l4))/\H l1=some (.lst ts)/\Yb H ts (s.ms.map pV)/\H l2=some (.lst (ls.map V.ref))/\ILs H ls s.may/\H l3=some (.lst s.gv)/\H l4=some (.lst gts)/\Wz ok H gts s.gaps/\(ok q/\ok l1/\ok l2/\ok l3/\ok l4/\∀ x∈ls,ok x)
theorem ShAt.keep{C:Addr}{ok:Addr->Prop}{H H':Hp}{q:Addr}{s:Zx}(h:ShAt C ok H q s)(k:∀ x o,ok x->H x=some o->H' x=some o)(kt:∀ t xs,H t=some (.tup xs)->H' t=some (.tup xs)):ShAt C ok H' q s:=by
 obtain⟨dx,l1,l2,l3,l4,ts,ls,gts,a1,a2,a3,a4,a5,a6,a7,a8,o1,o2,o3,o4,o5,o6⟩:=h;exact⟨dx,l1,l2,l3,l4,ts,ls,gts,k _ _ o1 a1,k _ _ o2 a2,a3.mono kt,k _ _ o3 a4,a5.keep fun x hx o q=>k _ _ (o6 x hx) q,k _ _ o4 a6,k _ _ o5 a7,a8.keep k kt,o1,o2,o3,o4,o5,o6⟩
theorem ShAt.imp{C:Addr}{ok ok':Addr->Prop}{H:Hp}{q:Addr}{s:Zx}(h:ShAt C ok H q s)(k:∀ x,(∃ o,H x=some o)->ok x->ok' x):ShAt C ok' H q s:=by
 obtain⟨dx,l1,l2,l3,l4,ts,ls,gts,a1,a2,a3,a4,a5,a6,a7,a8,o1,o2,o3,o4,o5,o6⟩:=h;exact⟨dx,l1,l2,l3,l4,ts,ls,gts,a1,a2,a3,a4,a5,a6,a7,a8.imp k,k _ ⟨_,a1⟩ o1,k _ ⟨_,a2⟩ o2,k _ ⟨_,a4⟩ o3,k _ ⟨_,a6⟩ o4,k _ ⟨_,a7⟩ o5,fun x hx=>k _ (let ⟨_,z⟩:=a5.has hx;⟨_,z⟩) (o6 x hx)⟩
theorem ShAt.same{C:Addr}{ok:Addr->Prop}{H H':Hp}{q:Addr}{s:Zx}(h:ShAt C ok H q s)(e:Same H H'):ShAt C ok H' q s:=h.keep (fun _ _ _ q=>e _ _ q) fun _ _ q=>e _ _ q
noncomputable def ShO(C:Addr)(ok:Addr->Prop)(H:Hp)(v:V)(s:Option Zx):Prop:=match s with|none=>v=.non|some s=>∃ q,v=.ref q/\ShAt C ok H q s
theorem ShO.keep{C:Addr}{ok:Addr->Prop}{H H':Hp}{v:V}{s:Option Zx}(h:ShO C ok H v s)(k:∀ x o,ok x->H x=some o->H' x=some o)(kt:∀ t xs,H t=some (.tup xs)->H' t=some (.tup xs)):ShO C ok H' v s:=by
 cases s with
 | none=>exact h
 | some s=>obtain⟨q,e,h⟩:=h;exact⟨q,e,h.keep k kt⟩
theorem ShO.imp{C:Addr}{ok ok':Addr->Prop}{H:Hp}{v:V}{s:Option Zx}(h:ShO C ok H v s)(k:∀ x,(∃ o,H x=some o)->ok x->ok' x):ShO C ok' H v s:=by
 cases s with
 | none=>exact h
 | some s=>obtain⟨q,e,h⟩:=h;exact⟨q,e,h.imp k⟩
inductive ShL(C:Addr)(ok:Addr->Prop)(H:Hp):List V->List Zx->Prop where
 | nil:ShL C ok H [] []
 | cons {q:Addr} {s:Zx} {vs:List V} {ss:List Zx} (h:ShAt C ok H q s) (r:ShL C ok H vs ss):ShL C ok H (.ref q :: vs) (s :: ss)
theorem ShL.keep{C:Addr}{ok:Addr->Prop}{H H':Hp}(k:∀ x o,ok x->H x=some o->H' x=some o)(kt:∀ t xs,H t=some (.tup xs)->H' t=some (.tup xs)):∀ {vs:List V} {ss:List Zx},ShL C ok H vs ss->ShL C ok H' vs ss
 | _,_,.nil=>.nil
 | _,_,.cons h r=>.cons (h.keep k kt) (ShL.keep k kt r)
theorem ShL.imp{C:Addr}{ok ok':Addr->Prop}{H:Hp}(k:∀ x,(∃ o,H x=some o)->ok x->ok' x):∀ {vs:List V} {ss:List Zx},ShL C ok H vs ss->ShL C ok' H vs ss
 | _,_,.nil=>.nil
 | _,_,.cons h r=>.cons (h.imp k) (ShL.imp k r)
theorem ShL.length{C:Addr}{ok:Addr->Prop}{H:Hp}:∀ {vs:List V} {ss:List Zx},ShL C ok H vs ss->vs.length=ss.length
 | _,_,.nil=>rfl
 | _,_,.cons _ r=>by simp[ShL.length r]
theorem ShL.snoc{C:Addr}{ok:Addr->Prop}{H:Hp}{q:Addr}{s:Zx}(h:ShAt C ok H q s):∀ {vs:List V} {ss:List Zx},ShL C ok H vs ss->ShL C ok H (vs++[.ref q]) (ss++[s])
 | _,_,.nil=>.cons h .nil
 | _,_,.cons h' r=>.cons h' (ShL.snoc h r)
theorem ShL.getR{C:Addr}{ok:Addr->Prop}{H:Hp}:∀ {vs:List V} {ss:List Zx} {i:Nat} {s:Zx},ShL C ok H vs ss->ss[i]?=some s->∃ q,vs[i]?=some (.ref q)/\ShAt C ok H q s
 | _,_,_,_,.nil,e=>by simp at e
 | _,_,0,_,.cons h _,e=>by simp at e;subst e;exact⟨_,rfl,h⟩
 | _,_,i+1,x,.cons _ r,e=>by
   obtain⟨t,h1,h2⟩:=ShL.getR (i:=i) (s:=x) r (by simpa using e)
   exact⟨t,by simpa using h1,h2⟩
noncomputable abbrev Tt:=Str×Int×Int
noncomputable def P9(d:Tt):List V:=[.str d.1,.int d.2.1,.int d.2.2]
inductive Th(C:Addr)(ok:Addr->Prop)(H:Hp):List V->List (Tt×Option Zx)->Prop where
 | nil:Th C ok H [] []
 | cons {t u:Addr} {v:V} {d:Tt} {s:Option Zx} {vs:List V} {ss:List (Tt×Option Zx)} (h:H t=some (.tup [.ref u,v])) (hu:H u=some (.tup (P9 d))) (hs:ShO C ok H v s) (r:Th C ok H vs ss):Th C ok H (.ref t :: vs) ((d,s) :: ss)
theorem Th.keep{C:Addr}{ok:Addr->Prop}{H H':Hp}(k:∀ x o,ok x->H x=some o->H' x=some o)(kt:∀ t xs,H t=some (.tup xs)->H' t=some (.tup xs)):∀ {vs:List V} {ss:List (Tt×Option Zx)},Th C ok H vs ss->Th C ok H' vs ss
 | _,_,.nil=>.nil
 | _,_,.cons h hu hs r=>.cons (kt _ _ h) (kt _ _ hu) (hs.keep k kt) (Th.keep k kt r)
theorem Th.length{C:Addr}{ok:Addr->Prop}{H:Hp}:∀ {vs:List V} {ss:List (Tt×Option Zx)},Th C ok H vs ss->vs.length=ss.length
 | _,_,.nil=>rfl
 | _,_,.cons _ _ _ r=>by simp[Th.length r]
theorem Th.snoc{C:Addr}{ok:Addr->Prop}{H:Hp}{t u:Addr}{v:V}{d:Tt}{s:Option Zx}(h:H t=some (.tup [.ref u,v]))(hu:H u=some (.tup (P9 d)))(hs:ShO C ok H v s):∀ {vs:List V} {ss:List (Tt×Option Zx)},Th C ok H vs ss->Th C ok H (vs++[.ref t]) (ss++[(d,s)])
 | _,_,.nil=>.cons h hu hs .nil
 | _,_,.cons h' hu' hs' r=>.cons h' hu' hs' (Th.snoc h hu hs r)
theorem Th.unsnoc{C:Addr}{ok:Addr->Prop}{H:Hp}{d:Tt}{s:Option Zx}:∀ {vs:List V} {ss:List (Tt×Option Zx)},Th C ok H vs (ss++[(d,s)])->∃ vs' t u v,vs=vs'++[.ref t]/\H t=some (.tup [.ref u,v])/\H u=some (.tup (P9 d))/\ShO C ok H v s/\Th C ok H vs' ss
 | _,[],.cons h hu hs .nil=>⟨[],_,_,_,rfl,h,hu,hs,.nil⟩
 | _,_ :: _,.cons h hu hs r=>by
   obtain⟨vs',t,u,v,e,a1,a2,a3,a4⟩:=Th.unsnoc r;exact⟨_ :: vs',t,u,v,by rw[e];rfl,a1,a2,a3,.cons h hu hs a4⟩
structure Sea where
 len:Nat
 rest:Nat
 ppl:RL
 led:List (List Row)
 out:List (Int×Int)
 old:List Zx
 cur:Option Zx
 std:List (Tt×Option Zx)
structure SAd where
 p:Addr
 pr:Addr
 dr:Addr
 pl:Addr
 lr:Addr
 ld:Addr
 da:Addr
 ls:Addr
 lt:Addr
noncomputable def SAd.fp(A:SAd):List Addr:=[A.p,A.dr,A.lr,A.ld,A.da,A.ls,A.lt]
noncomputable def seaF(A:SAd)(len rest:Nat)(v:V):List (Str×V):=[("length",.int len),("rest",.int rest),("roster",.ref A.pr),("ledger",.ref A.pl),("absent",.ref A.da),("sheets",.ref A.ls),("sheet",v),("standing",.ref A.lt)]
noncomputable def Qw(kvs:List (List Key×V))(out:List (Int×Int)):Prop:=(∀ at_ n:Int,(valV kvs [Sum.inl at_,Sum.inl n]).isSome=decide ((at_,n)∈out))/\kvs.length<=out.length
structure Z0(ca:CA)(H:Hp)(A:SAd)(S:Sea):Prop where
 obj:∃ dx v,H A.p=some (.ins ca.season dx (seaF A S.len S.rest v))/\ShO ca.sheet (·∉A.fp) H v S.cur
 ros:Xm ca.roster H A.pr A.dr S.ppl
 led:V5 ca.ledger H A.pl A.lr A.ld S.led
 out:∃ kvs,H A.da=some (.dT kvs)/\Qw kvs S.out
 old:∃ vs,H A.ls=some (.lst vs)/\ShL ca.sheet (·∉A.fp) H vs S.old
 std:∃ vs,H A.lt=some (.lst vs)/\Th ca.sheet (·∉A.fp) H vs S.std
 nd:A.fp.Nodup
 np:A.pr∉A.fp/\A.pl∉A.fp
noncomputable def FrS(A:SAd)(H H':Hp):Prop:=∀ b o,H b=some o->b∉A.fp->H' b=some o
end G

namespace L2
open PySem PySem.Spec PyProof.Rows
theorem Cn{X:Cx}{K:PySem.W.Frag}(hK:X.K=K):OpR X (binaryOp .Add) (zgk K):=hK▸zfp
end L2
namespace G
open PySem PySem.Spec PyProof.Rows L2
theorem it2{p:Prop}[Decidable p]{A B A' B':Prop}(h:if p then A else B)(h1:p->A->A')(h2:¬ p->B->B'):if p then A' else B':=by
 by_cases z:p
 ·rw[if_pos z] at h ⊢;exact h1 z h
 ·rw[if_neg z] at h ⊢;exact h2 z h
theorem zb7{κ:Type}[DecidableEq κ]{kvs:List (κ×V)}{k:κ}{v:V}(h:valV kvs k=none):putK kvs k v=kvs++[(k,v)]:=by
 unfold putK;rw[if_neg];intro z;rw[Rc,h] at z
 cases z
inductive Jy(C:Addr)(vs:List V)(H:Hp)(Q:VK)(_:XK):Prop where
 | mk(p lr ld:Addr)(Rs:List (List Row))(b:Addr)(ts:List V)(rs:List Row)(_:vs=[.ref p,.ref b])(_:V5 C H p lr ld Rs)(_:H b=some (.lst ts))(_:b≠lr)(_:Yb H ts (rs.map row4))(_:2*(tot Rs+rs.length)<=100000)(_:Rs.length<=1000)(_:∀ H',V5 C H' p lr ld (Rs++[rs])->(∀ b o,H b=some o->b≠lr->b≠ld->H' b=some o)->Q .non H')
noncomputable def zau(ok:Addr->Prop)(H:Hp):Prop:=∀ x,H x=none->ok x
inductive Np(ca:CA)(vs:List V)(H:Hp)(Q:VK)(_:XK):Prop where
 | mk(q)(dx)(l1)(l2)(l3)(l4)(_:vs=[.ref q,.ref l1,.ref l2,.ref l3,.ref l4])(_:H q=some (.ins ca.sheet dx []))(_:∀ H',H'=upd H q (.ins ca.sheet dx (shF l1 l2 l3 l4))->Q .non H')
theorem Sa{l1 l2 l3 l4:Addr}:List.lookup ("listed":Str) (shF l1 l2 l3 l4)=some (.ref l1):=by unfold shF;simp only[z1r,beq_self_eq_true]
theorem zek{l1 l2 l3 l4:Addr}:List.lookup ("lists":Str) (shF l1 l2 l3 l4)=some (.ref l2):=by
 have e:(("lists":Str) == "listed")=false:=by decide +kernel
 unfold shF;simp only[z1r,e,beq_self_eq_true]
theorem Qx{l1 l2 l3 l4:Addr}:List.lookup ("given":Str) (shF l1 l2 l3 l4)=some (.ref l3):=by
 have e:(("given":Str) == "listed")=false:=by decide +kernel
 have e2:(("given":Str) == "lists")=false:=by decide +kernel
 unfold shF;simp only[z1r,e,e2,beq_self_eq_true]
theorem Ew{l1 l2 l3 l4:Addr}:List.lookup ("gaps":Str) (shF l1 l2 l3 l4)=some (.ref l4):=by
 have e:(("gaps":Str) == "listed")=false:=by decide +kernel
 have e2:(("gaps":Str) == "lists")=false:=by decide +kernel
 have e3:(("gaps":Str) == "given")=false:=by decide +kernel
 unfold shF;simp only[z1r,e,e2,e3,beq_self_eq_true]
theorem U0{l1 l2 l3 l4:Addr}{m:Str}(h1:¬ m="listed")(h2:¬ m="lists")(h3:¬ m="given")(h4:¬ m="gaps"):List.lookup m (shF l1 l2 l3 l4)=none:=by
 have e1:(m == "listed")=false:=z1g.mpr h1;have e2:(m == "lists")=false:=z1g.mpr h2;have e3:(m == "given")=false:=z1g.mpr h3;have e4:(m == "gaps")=false:=z1g.mpr h4;unfold shF;simp only[z1r,e1,e2,e3,e4,List.lookup_nil]
theorem zj7{x y:V}:putF "lists" y [(("listed":Str),x)]=([("listed",x),("lists",y)]:List (Str×V)):=by
 have n1:¬ (("listed":Str)="lists"):=by decide +kernel
 simp only[putF,if_neg n1]
theorem zj8{x y z:V}:putF "given" z [(("listed":Str),x),("lists",y)]=([("listed",x),("lists",y),("given",z)]:List (Str×V)):=by
 have n1:¬ (("listed":Str)="given"):=by decide +kernel
 have n2:¬ (("lists":Str)="given"):=by decide +kernel
 simp only[putF,if_neg n1,if_neg n2]
theorem zj9{x y z w:V}:putF "gaps" w [(("listed":Str),x),("lists",y),("given",z)]=([("listed",x),("lists",y),("given",z),("gaps",w)]:List (Str×V)):=by
 have n1:¬ (("listed":Str)="gaps"):=by decide +kernel
 have n2:¬ (("lists":Str)="gaps"):=by decide +kernel
 have n3:¬ (("given":Str)="gaps"):=by decide +kernel
 simp only[putF,if_neg n1,if_neg n2,if_neg n3]
theorem Oq{C:Addr}{H1:Hp}{q dx l1 l2 l3 l4:Addr}(hq:H1 q=none)(hdx:H1 dx=none)(ne:dx≠q):Same H1 (upd (upd (upd H1 dx (.own q)) q (.ins C dx [])) q (.ins C dx (shF l1 l2 l3 l4)))/\upd (upd (upd H1 dx (.own q)) q (.ins C dx [])) q (.ins C dx (shF l1 l2 l3 l4)) q=some (.ins C dx (shF l1 l2 l3 l4)):=by
 refine⟨fun b o e=>?_,Zc⟩
 rw[Zh (Zg e hq),Zh (Zg e hq),Zh (Zg e hdx)];exact e
inductive Co(ca:CA)(vs:List V)(H:Hp)(Q:VK)(_:XK):Prop where
 | mk(ok:Addr->Prop)(q l2:Addr)(ls:List Addr)(rows:List (List Int))(s:Zx)(_:vs=[.ref q,.ref l2])(_:ShAt ca.sheet ok H q s)(_:H l2=some (.lst (ls.map V.ref)))(_:ILs H ls rows)(_:ok l2)(_:(∀ x∈ls,ok x))(_:zau ok H)(_:∀ q' H',ShAt ca.sheet ok H' q' { s with may:=rows }->Same H H'->H q'=none->Q (.ref q') H')
inductive Cp(ca:CA)(vs:List V)(H:Hp)(Q:VK)(_:XK):Prop where
 | mk(ok:Addr->Prop)(q l2:Addr)(ls:List Addr)(rows:List (List Int))(nu:List Int)(s:Zx)(n:Int)(p:Nat)(_:vs=[.ref q,.int n,.ref l2])(_:ShAt ca.sheet ok H q s)(_:H l2=some (.lst (ls.map V.ref)))(_:ILs H ls rows)(_:ok l2)(_:(∀ x∈ls,ok x))(_:zau ok H)(_:Jv rows nu)(_:(∀ x∈s.gv,oneV x))(_:s.gv[p]?=some (.int n))(_:(∀ j:Nat,s.gv[j]?=some (.int n)->j=p))(_:Y4 rows (s.gv.set p .non))(_:s.gaps.length<=1000)(_:∀ q' st e w H',ShAt ca.sheet ok H' q' ⟨s.ms,rows,Yw st (s.gv.set p .non),s.gaps++[(n,st)]⟩->Xs rows (s.gv.set p .non) p st e w->Same H H'->H q'=none->Q (.ref q') H')
inductive zav(ca:CA)(vs:List V)(H:Hp)(Q:VK)(_:XK):Prop where
 | mk(ok:Addr->Prop)(l1 l2:Addr)(ts:List V)(ls:List Addr)(ms:List (Int×Int×Int))(rows:List (List Int))(nu:List Int)(_:vs=[.ref l1,.ref l2])(_:H l1=some (.lst ts))(_:Yb H ts (ms.map pV))(_:H l2=some (.lst (ls.map V.ref)))(_:ILs H ls rows)(_:ok l1)(_:ok l2)(_:(∀ x∈ls,ok x))(_:zau ok H)(_:Jv rows nu)(_:∀ q gv H',ShAt ca.sheet ok H' q ⟨ms,rows,gv,[]⟩->Y4 rows gv->Tg rows gv->Same H H'->H q=none->Q (.ref q) H')
inductive Lv(ca:CA)(vs:List V)(H:Hp)(Q:VK)(_:XK):Prop where
 | mk(ok:Addr->Prop)(q:Addr)(s:Zx)(_:vs=[.ref q])(_:ShAt ca.sheet ok H q s)(_:∀ l ts H',H' l=some (.lst ts)->Yb H' ts (s.ms.map pV)->Same H H'->H l=none->Q (.ref l) H')
inductive Jz(ca:CA)(vs:List V)(H:Hp)(Q:VK)(_:XK):Prop where
 | mk(ok:Addr->Prop)(q:Addr)(s:Zx)(_:vs=[.ref q])(_:ShAt ca.sheet ok H q s)(_:∀ l H',H' l=some (.lst s.gv)->Same H H'->H l=none->Q (.ref l) H')
inductive Mv(ca:CA)(vs:List V)(H:Hp)(Q:VK)(_:XK):Prop where
 | mk(ok:Addr->Prop)(q:Addr)(s:Zx)(n:Int)(_:vs=[.ref q,.int n])(_:ShAt ca.sheet ok H q s)(_:(∀ x∈s.gv,oneV x))(_:s.gv.length<=100)(_:∀ H',Same H H'->Q (oN (W3 s.gv n)) H')
inductive zaw(ca:CA)(vs:List V)(H:Hp)(Q:VK)(E:XK):Prop where
 | mk(ok:Addr->Prop)(q:Addr)(s:Zx)(i:Int)(_:vs=[.ref q,.int i])(_:ShAt ca.sheet ok H q s)(_:Yk i)(_:s.may.length=s.ms.length)(_:(i<0\/(s.ms.length:Int)<=i->E (.ref ca.noMatch) none H))(_:∀ (k:Nat) r,i=(k:Int)->s.may[k]?=some r->∀ l H',H' l=some (.lst (r.map V.int))->Same H H'->H l=none->Q (.ref l) H')
inductive Mw(ca:CA)(vs:List V)(H:Hp)(Q:VK)(E:XK):Prop where
 | mk(ok:Addr->Prop)(q:Addr)(s:Zx)(i:Int)(_:vs=[.ref q,.int i])(_:ShAt ca.sheet ok H q s)(_:Yk i)(_:(if i<0\/(s.ms.length:Int)<=i then E (.ref ca.noMatch) none H else Q .non H))
inductive Lw(ca:CA)(vs:List V)(H:Hp)(Q:VK)(E:XK):Prop where
 | mk(ok:Addr->Prop)(q:Addr)(s:Zx)(i:Int)(_:vs=[.ref q,.int i])(_:ShAt ca.sheet ok H q s)(_:Yk i)(_:(i<0\/(s.ms.length:Int)<=i->E (.ref ca.noMatch) none H))(_:∀ (k:Nat) m t,i=(k:Int)->s.ms[k]?=some m->H t=some (.tup (pV m))->Q (.ref t) H)
noncomputable def J0(m:Int×Int×Int)(x:V):Row:=⟨m.1,m.2.1,m.2.2,zjm (some x)⟩
noncomputable def Z3(s:Zx):List Row:=List.zipWith J0 s.ms s.gv
inductive Cq(ca:CA)(vs:List V)(H:Hp)(Q:VK)(_:XK):Prop where
 | mk(ok:Addr->Prop)(q:Addr)(s:Zx)(_:vs=[.ref q])(_:ShAt ca.sheet ok H q s)(_:(∀ x∈s.gv,oneV x))(_:s.gv.length=s.ms.length)(_:s.ms.length<=1000)(_:∀ l ts H',H' l=some (.lst ts)->Yb H' ts ((Z3 s).map row4)->Same H H'->H l=none->Q (.ref l) H')
inductive J1(ca:CA)(vs:List V)(H:Hp)(Q:VK)(_:XK):Prop where
 | mk(ok:Addr->Prop)(q:Addr)(s:Zx)(_:vs=[.ref q])(_:ShAt ca.sheet ok H q s)(_:s.gaps.length<=1000)(_:∀ l ts H',H' l=some (.lst ts)->Wz (fun x=>H x=none/\x≠l) H' ts s.gaps->Same H H'->H l=none->Q (.ref l) H')
theorem J2{K:PySem.W.Frag}{a:Addr}{xs:List V}{xo:List Str}{js:List Nat}{g:TG}{tt:TT}{te:TE}{σ:L2.St}{H:Hp}{Q:VK}(Pv:Nat->List V->Hp->Prop)(h0:Pv 0 [] H)(hl:∀ i ys H,i<=xs.length->Pv i ys H->SqL K H a xs)(hz:xs.length<=sizeLine)(hy:∀ i ys H,Pv i ys H->ys.length<=i)
  (hs:∀ i x ys H,xs[i]?=some x->Pv i ys H->g x (cs0 xo js σ) H fun σ2 H1=>Pk xo js σ σ2/\tt σ2 H1 fun b H2=>if b=true then te σ2 H2 fun y H3=>Pv (i+1) (ys++[y]) H3 else Pv (i+1) ys H2)
  (hd:∀ ys H,Pv xs.length ys H->∀ p,H p=none->Q (.ref p) (upd H p (.lst ys))):Ah (Itl K a) xo js g tt te σ H Q:=by
 refine⟨fun i m ys H=>m=xs.length-i/\i<=xs.length/\Pv i ys H,⟨xs.length,by simp,z1j _,h0⟩,?_⟩
 rintro i m ys H ⟨rfl,hi,p⟩;have q:=hl i ys H hi p;have ly:=hy i ys H p;by_cases hlt:i<xs.length
 ·refine .inr ⟨⟨xs,xs[i],q,by simp[hlt]⟩,by omega,Pv (i+1),fun ys' H' p'=>⟨xs.length-(i+1),by omega,rfl,hlt,p'⟩,fun x H' y=>?_⟩
  obtain⟨e,y⟩:=y;subst e;exact hs i x ys _ (y xs q) p
 ·have e:i=xs.length:=by omega
  subst e;exact .inl ⟨⟨xs,q,z03 _⟩,by omega,hd ys H p⟩
theorem zb8{K:PySem.W.Frag}{a b:Addr}{xs zs:List V}{xo:List Str}{js:List Nat}{g:TG}{tt:TT}{te:TE}{σ:L2.St}{H:Hp}{Q:VK}(Pv:Nat->List V->Hp->Prop)(h0:Pv 0 [] H)(he:xs.length=zs.length)(hl:∀ i ys H,i<=xs.length->Pv i ys H->SqL K H a xs/\SqL K H b zs)(hz:xs.length<=sizeLine)(hy:∀ i ys H,Pv i ys H->ys.length<=i)
  (hs:∀ i x z t ys H,xs[i]?=some x->zs[i]?=some z->Pv i ys H->H t=none->g (.ref t) (cs0 xo js σ) (upd H t (.tup [x,z])) fun σ2 H1=>Pk xo js σ σ2/\tt σ2 H1 fun b H2=>if b=true then te σ2 H2 fun y H3=>Pv (i+1) (ys++[y]) H3 else Pv (i+1) ys H2)
  (hd:∀ ys H,Pv xs.length ys H->∀ p,H p=none->Q (.ref p) (upd H p (.lst ys))):Ah (Itz K a b) xo js g tt te σ H Q:=by
 refine⟨fun i m ys H=>m=xs.length-i/\i<=xs.length/\Pv i ys H,⟨xs.length,by simp,z1j _,h0⟩,?_⟩
 rintro i m ys H ⟨rfl,hi,p⟩;obtain⟨q1,q2⟩:=hl i ys H hi p;have ly:=hy i ys H p;by_cases hlt:i<xs.length
 ·refine .inr ⟨⟨xs,zs,xs[i],zs[i]'(by omega),q1,q2,by simp[hlt],by rw[z0u (by omega)]⟩,by omega,Pv (i+1),fun ys' H' p'=>⟨xs.length-(i+1),by omega,rfl,hlt,p'⟩,fun x H' y=>?_⟩
  obtain⟨t,y,z,h1,h2,h3,rfl,rfl⟩:=y;exact hs i y z t ys _ (h2 xs q1) (h3 zs q2) p h1
 ·have e:i=xs.length:=by omega
  subst e;exact .inl ⟨⟨xs,zs,q1,q2,.inl (z03 _)⟩,by omega,hd ys H p⟩
theorem zh4(m:Int×Int×Int){x:V}(h:oneV x):row4 (J0 m x)=[V.int m.1,V.int m.2.1,V.int m.2.2,x]:=by
 rcases h with rfl|⟨i,rfl⟩<;>rfl
theorem zb9{s:Zx}{i:Nat}{m:Int×Int×Int}{x:V}(hm:s.ms[i]?=some m)(hx:s.gv[i]?=some x):(Z3 s).take (i+1)=(Z3 s).take i++[J0 m x]:=by
 have:(Z3 s)[i]?=some (J0 m x):=by
  unfold Z3;rw[List.getElem?_zipWith,hm,hx]
 rw[z2a,this];rfl
theorem Nq{s:Zx}(h:s.gv.length=s.ms.length):(Z3 s).length=s.ms.length:=by
 unfold Z3;rw[z2y,h,Nat.min_self]
section
variable{ca:CA}{H H':Hp}{A:SAd}{S:Sea}{l:Nat}{r:Nat}{v:V}
theorem Cr(A:SAd)(l r:Nat)(v:V):List.lookup ("length":Str) (seaF A l r v)=some (.int l)/\List.lookup ("rest":Str) (seaF A l r v)=some (.int r)/\List.lookup ("roster":Str) (seaF A l r v)=some (.ref A.pr)/\List.lookup ("ledger":Str) (seaF A l r v)=some (.ref A.pl)/\List.lookup ("absent":Str) (seaF A l r v)=some (.ref A.da)/\List.lookup ("sheets":Str) (seaF A l r v)=some (.ref A.ls)/\List.lookup ("sheet":Str) (seaF A l r v)=some v/\List.lookup ("standing":Str) (seaF A l r v)=some (.ref A.lt):=by
 have d:∀ a b:Str,decide (a=b)=false->(a == b)=false:=fun a b h=>z1g.mpr (of_decide_eq_false h)
 have e1:=d "rest" "length" (by decide +kernel)
 have e2:=d "roster" "length" (by decide +kernel)
 have e3:=d "roster" "rest" (by decide +kernel)
 have f1:=d "ledger" "length" (by decide +kernel)
 have f2:=d "ledger" "rest" (by decide +kernel)
 have f3:=d "ledger" "roster" (by decide +kernel)
 have g1:=d "absent" "length" (by decide +kernel)
 have g2:=d "absent" "rest" (by decide +kernel)
 have g3:=d "absent" "roster" (by decide +kernel)
 have g4:=d "absent" "ledger" (by decide +kernel)
 have h1:=d "sheets" "length" (by decide +kernel)
 have h2:=d "sheets" "rest" (by decide +kernel)
 have h3:=d "sheets" "roster" (by decide +kernel)
 have h4:=d "sheets" "ledger" (by decide +kernel)
 have h5:=d "sheets" "absent" (by decide +kernel)
 have i1:=d "sheet" "length" (by decide +kernel)
 have i2:=d "sheet" "rest" (by decide +kernel)
 have i3:=d "sheet" "roster" (by decide +kernel)
 have i4:=d "sheet" "ledger" (by decide +kernel)
 have i5:=d "sheet" "absent" (by decide +kernel)
 have i6:=d "sheet" "sheets" (by decide +kernel)
 have j1:=d "standing" "length" (by decide +kernel)
 have j2:=d "standing" "rest" (by decide +kernel)
 have j3:=d "standing" "roster" (by decide +kernel)
 have j4:=d "standing" "ledger" (by decide +kernel)
 have j5:=d "standing" "absent" (by decide +kernel)
 have j6:=d "standing" "sheets" (by decide +kernel)
 have j7:=d "standing" "sheet" (by decide +kernel)
 unfold seaF;refine⟨?_,?_,?_,?_,?_,?_,?_,?_⟩<;>simp only[z1r,beq_self_eq_true,e1,e2,e3,f1,f2,f3,g1,g2,g3,g4,h1,h2,h3,h4,h5,i1,i2,i3,i4,i5,i6,j1,j2,j3,j4,j5,j6,j7]
theorem Fs:List.lookup ("length":Str) (seaF A l r v)=some (.int l):=(Cr A l r v).1
theorem zax:List.lookup ("rest":Str) (seaF A l r v)=some (.int r):=(Cr A l r v).2.1
theorem Vb:List.lookup ("roster":Str) (seaF A l r v)=some (.ref A.pr):=(Cr A l r v).2.2.1
theorem Vz:List.lookup ("ledger":Str) (seaF A l r v)=some (.ref A.pl):=(Cr A l r v).2.2.2.1
theorem Ri:List.lookup ("absent":Str) (seaF A l r v)=some (.ref A.da):=(Cr A l r v).2.2.2.2.1
theorem Ft:List.lookup ("sheets":Str) (seaF A l r v)=some (.ref A.ls):=(Cr A l r v).2.2.2.2.2.1
theorem W5:List.lookup ("sheet":Str) (seaF A l r v)=some v:=(Cr A l r v).2.2.2.2.2.2.1
theorem Ss:List.lookup ("standing":Str) (seaF A l r v)=some (.ref A.lt):=(Cr A l r v).2.2.2.2.2.2.2
theorem Yg{m:Str}(h:(["length","rest","roster","ledger","absent","sheets","sheet","standing"]:List Str).all (fun x=>!decide (m=x))=true):List.lookup m (seaF A l r v)=none:=by
 simp only[List.all_cons,List.all_nil,Bool.and_true,z17,Bool.not_eq_true',decide_eq_false_iff_not] at h
 obtain⟨h1,h2,h3,h4,h5,h6,h7,h8⟩:=h;have e:∀ x:Str,¬ m=x->(m == x)=false:=fun x z=>z1g.mpr z
 unfold seaF;simp only[z1r,e _ h1,e _ h2,e _ h3,e _ h4,e _ h5,e _ h6,e _ h7,e _ h8,List.lookup_nil]
theorem Z0.same(h:Z0 ca H A S)(e:Same H H'):Z0 ca H' A S:=by
 obtain⟨⟨dx,v,a1,a2⟩,b,c,⟨kvs,d1,d2⟩,⟨vs,f1,f2⟩,⟨us,g1,g2⟩,nd,np⟩:=h;have k:∀ x o,x∉A.fp->H x=some o->H' x=some o:=fun _ _ _ q=>e _ _ q
 have kt:∀ t xs,H t=some (.tup xs)->H' t=some (.tup xs):=fun _ _ q=>e _ _ q
 exact⟨⟨dx,v,e _ _ a1,a2.keep k kt⟩,b.same e,c.same e,⟨kvs,e _ _ d1,d2⟩,⟨vs,e _ _ f1,f2.keep k kt⟩,⟨us,e _ _ g1,g2.keep k kt⟩,nd,np⟩
theorem FrS.of(A:SAd)(e:Same H H'):FrS A H H':=fun b o q _=>e b o q
theorem FrS.trans{H2:Hp}(h1:FrS A H H')(h2:FrS A H' H2):FrS A H H2:=fun b o e n=>h2 b o (h1 b o e n) n
theorem Z0.there(h:Z0 ca H A S):∀ x∈A.fp,∃ o,H x=some o:=by
 obtain⟨⟨dx,v,a1,_⟩,⟨⟨_,_,_,b2,_⟩,_⟩,⟨_,⟨rs,c2,_⟩,⟨ks,c3,_⟩⟩,⟨kvs,d1,_⟩,⟨vs,f1,_⟩,⟨us,g1,_⟩,nd,np⟩:=h;intro x hx;simp only[SAd.fp,z00,z10,or_false] at hx
 rcases hx with rfl|rfl|rfl|rfl|rfl|rfl|rfl
 ·exact⟨_,a1⟩
 ·exact⟨_,b2⟩
 ·exact⟨_,c2⟩
 ·exact⟨_,c3⟩
 ·exact⟨_,d1⟩
 ·exact⟨_,f1⟩
 ·exact⟨_,g1⟩
theorem Z0.newOk(h:Z0 ca H A S):zau (·∉A.fp) H:=fun x hx hm=>by
 obtain⟨o,e⟩:=h.there x hm;rw[e] at hx;cases hx
theorem Z0.tups(h:Z0 ca H A S)(f:FrS A H H'):∀ t xs,H t=some (.tup xs)->H' t=some (.tup xs):=fun t xs e=>f t _ e fun hm=>by
 obtain⟨⟨dx,v,a1,_⟩,⟨⟨_,_,_,b2,_⟩,_⟩,⟨_,⟨rs,c2,_⟩,⟨ks,c3,_⟩⟩,⟨kvs,d1,_⟩,⟨vs,f1,_⟩,⟨us,g1,_⟩,nd,np⟩:=h;simp only[SAd.fp,z00,z10,or_false] at hm
 rcases hm with rfl|rfl|rfl|rfl|rfl|rfl|rfl
 ·rw[a1] at e;cases e
 ·rw[b2] at e;cases e
 ·rw[c2] at e;cases e
 ·rw[c3] at e;cases e
 ·rw[d1] at e;cases e
 ·rw[f1] at e;cases e
 ·rw[g1] at e;cases e
end
noncomputable def atV(S:Sea):Int:=(S.led.length:Int)+1
inductive V7(ca:CA)(vs:List V)(H:Hp)(Q:VK)(_:XK):Prop where
 | mk(A:SAd)(S:Sea)(_:vs=[.ref A.p])(_:Z0 ca H A S)(_:Q (.int (atV S)) H)
inductive Mx(ca:CA)(vs:List V)(H:Hp)(Q:VK)(E:XK):Prop where
 | mk(A:SAd)(S:Sea)(_:vs=[.ref A.p])(_:Z0 ca H A S)(_:if S.len<=S.led.length then E (.ref ca.seaOver) none H else Q .non H)
inductive My(ca:CA)(vs:List V)(H:Hp)(Q:VK)(E:XK):Prop where
 | mk(A:SAd)(S:Sea)(_:vs=[.ref A.p])(_:Z0 ca H A S)(_:if S.len<=S.led.length then E (.ref ca.seaOver) none H else if S.cur.isSome then E (.ref ca.drawn) none H else Q .non H)
inductive Jc(ca:CA)(vs:List V)(H:Hp)(Q:VK)(E:XK):Prop where
 | mk(A:SAd)(S:Sea)(at_:Int)(_:vs=[.ref A.p,.int at_])(_:Z0 ca H A S)(_:Yk at_)(_:if at_<1\/(S.len:Int)<at_ then E (.ref ca.noRound) none H else Q .non H)
inductive Ex(ca:CA)(vs:List V)(H:Hp)(Q:VK)(E:XK):Prop where
 | mk(A:SAd)(S:Sea)(_:vs=[.ref A.p])(_:Z0 ca H A S)(_:if 100<=S.std.length then E (.ref ca.manyD) none H else Q .non H)
inductive Ey(ca:CA)(vs:List V)(H:Hp)(Q:VK)(_:XK):Prop where
 | mk(A:SAd)(S:Sea)(w:Str)(n at_:Int)(_:vs=[.ref A.p,.str w,.int n,.int at_])(_:Z0 ca H A S)(_:S.std.length<=1000)(_:∀ H',Z0 ca H' A { S with std:=S.std++[((w,n,at_),S.cur)] }->FrS A H H'->Q .non H')
inductive Sg(ca:CA)(vs:List V)(H:Hp)(Q:VK)(E:XK):Prop where
 | mk(A:SAd)(S:Sea)(_:vs=[.ref A.p])(_:Z0 ca H A S)(_:(S.cur=none->E (.ref ca.notDrawn) none H))(_:∀ s q,S.cur=some s->ShAt ca.sheet (·∉A.fp) H q s->Q (.ref q) H)
noncomputable def V8(S:Sea)(at_:Int):Option Zx:=if at_<=S.led.length then S.old[(at_-1).toNat]? else if (S.led.length:Int)+1<at_ then none else S.cur
inductive Fu(ca:CA)(vs:List V)(H:Hp)(Q:VK)(E:XK):Prop where
 | mk(A:SAd)(S:Sea)(at_:Int)(_:vs=[.ref A.p,.int at_])(_:Z0 ca H A S)(_:Yk at_)(_:S.old.length=S.led.length)(_:if at_<1\/(S.len:Int)<at_ then E (.ref ca.noRound) none H else (V8 S at_=none->E (.ref ca.notDrawn) none H)/\∀ s q,V8 S at_=some s->ShAt ca.sheet (·∉A.fp) H q s->Q (.ref q) H)
noncomputable def pIn(out:List (Int×Int))(at_:Int)(m:P3):Bool:=decide ((at_,m.1)∈out)
noncomputable def mayM(S:Sea)(m:P3):List Int:=(S.ppl.filter fun x=>(whyS S.led x.1 x.2.1 x.2.2 m.1 m.2.1 m.2.2 (pIn S.out (atV S) x) S.rest).isEmpty).map (·.1)
noncomputable def mayS(S:Sea)(ms:List P3):List (List Int):=ms.map (mayM S)
inductive Ot(ca:CA)(vs:List V)(H:Hp)(Q:VK)(_:XK):Prop where
 | mk(A:SAd)(S:Sea)(l:Addr)(ts:List V)(ms:List P3)(_:vs=[.ref A.p,.ref l])(_:Z0 ca H A S)(_:H l=some (.lst ts))(_:Yb H ts (ms.map pV))(_:ms.length<=100)(_:S.ppl.length<=100)(_:(∀ x∈S.ppl,Yk x.1))(_:∀ l' ls H',H' l'=some (.lst (ls.map V.ref))->ILs H' ls (mayS S ms)->Same H H'->H l'=none->(∀ x∈ls,H x=none)->Q (.ref l') H')
noncomputable def badM(m:P3):Prop:=m.1<1\/99<m.1\/m.2.1<1\/99<m.2.1\/m.2.2<1\/9<m.2.2
noncomputable def Rw(Ms:List P3):Prop:=∃ m∈Ms,badM m
noncomputable def Rx(Ms:List P3):Prop:=∃ m∈Ms,m.1=m.2.1
noncomputable def Ez(m:P3):Prop:=Yk m.1/\Yk m.2.1/\Yk m.2.2
theorem Fv{p:P3->Prop}{Ms:List P3}{i:Nat}{m:P3}(e:Ms[i]?=some m)(h:∀ x∈Ms.take i,¬ p x)(hm:¬ p m):∀ x∈Ms.take (i+1),¬ p x:=fun x hx=>by
 rw[z2a,e] at hx
 rcases z06.mp hx with q|q
 ·exact h x q
 ·simp at q;subst q;exact hm
inductive Cs(K:PySem.W.Frag)(ca:CA)(vs:List V)(H:Hp)(Q:VK)(E:XK):Prop where
 | mk(b)(ts)(_:vs=[.ref b])(_:SqL K H b ts)(_:ts.length<=1000)(_:(20<ts.length->E (.ref ca.manyM) none H))(_:(ts.length<=20->Q .non H))
inductive Fw(K:PySem.W.Frag)(ca:CA)(vs:List V)(H:Hp)(Q:VK)(E:XK):Prop where
 | mk(b:Addr)(ts:List V)(Ms:List P3)(_:vs=[.ref b])(_:SqL K H b ts)(_:Yb H ts (Ms.map pV))(_:(∀ m∈Ms,Ez m))(_:(Rw Ms->E (.ref ca.out) none H))(_:(¬ Rw Ms->Q .non H))
inductive Ct(K:PySem.W.Frag)(ca:CA)(vs:List V)(H:Hp)(Q:VK)(E:XK):Prop where
 | mk(b:Addr)(ts:List V)(Ms:List P3)(_:vs=[.ref b])(_:SqL K H b ts)(_:Yb H ts (Ms.map pV))(_:(∀ m∈Ms,Ez m))(_:(Rx Ms->E (.ref ca.same) none H))(_:(¬ Rx Ms->Q .non H))
inductive J3(K:PySem.W.Frag)(ca:CA)(vs:List V)(H:Hp)(Q:VK)(E:XK):Prop where
 | mk(b:Addr)(ts:List V)(Ms:List P3)(_:vs=[.ref b])(_:SqL K H b ts)(_:Yb H ts (Ms.map pV))(_:(∀ m∈Ms,Ez m))(_:Ms.length<=1000)(_:(20<Ms.length->E (.ref ca.manyM) none H))(_:(Ms.length<=20->Rw Ms->E (.ref ca.out) none H))(_:(Ms.length<=20->¬ Rw Ms->Rx Ms->E (.ref ca.same) none H))(_:(Ms.length<=20->¬ Rw Ms->¬ Rx Ms->∀ l,H l=none->Q (.ref l) (upd H l (.lst ts))))
theorem Qw.isSome{kvs:List (List Key×V)}{out:List (Int×Int)}(h:Qw kvs out)(i n:Int):(valV kvs [Sum.inl i,Sum.inl n]).isSome=decide ((i,n)∈out):=h.1 i n
theorem J4{A:SAd}(nd:A.fp.Nodup):(A.p≠A.dr/\A.p≠A.lr/\A.p≠A.ld/\A.p≠A.da/\A.p≠A.ls/\A.p≠A.lt)/\(A.dr≠A.lr/\A.dr≠A.ld/\A.dr≠A.da/\A.dr≠A.ls/\A.dr≠A.lt)/\(A.lr≠A.ld/\A.lr≠A.da/\A.lr≠A.ls/\A.lr≠A.lt)/\(A.ld≠A.da/\A.ld≠A.ls/\A.ld≠A.lt)/\(A.da≠A.ls/\A.da≠A.lt)/\A.ls≠A.lt:=by
 simp only[SAd.fp,z1i,z00,z10,or_false,not_or] at nd
 obtain⟨⟨n1,n2,n3,n4,n5,n6⟩,⟨n7,n8,n9,n10,n11⟩,⟨n12,n13,n14,n15⟩,⟨n16,n17,n18⟩,⟨n19,n20⟩,n21,_⟩:=nd;exact⟨⟨n1,n2,n3,n4,n5,n6⟩,⟨n7,n8,n9,n10,n11⟩,⟨n12,n13,n14,n15⟩,⟨n16,n17,n18⟩,⟨n19,n20⟩,n21⟩
theorem zay{R:RL}(nd:(R.map (·.1)).Nodup){x y:P3}(hx:x∈R)(hy:y∈R)(h:x.1=y.1):x=y:=by
 induction R with
 | nil=>cases hx
 | cons z R ih =>
   rw[z04,z1i] at nd
   rcases z00.mp hx with e|e<;>rcases z00.mp hy with e'|e'
   ·rw[e,e']
   ·exact absurd (z02.mpr ⟨y,e',by rw[<- h,e]⟩) nd.1
   ·exact absurd (z02.mpr ⟨x,e,by rw[h,e']⟩) nd.1
   ·exact ih nd.2 e e'
noncomputable def outV(S:Sea):List V:=(S.ppl.filter (pIn S.out (atV S))).map fun x=>V.int x.1
theorem zel(S:Sea):∀ x∈outV S,oneV x:=fun x hx=>by
 unfold outV at hx
 obtain⟨m,_,rfl⟩:=z02.mp hx;exact .inr ⟨_,rfl⟩
theorem zf2{S:Sea}{x:P3}(hx:x∈S.ppl):inV (.int x.1) (outV S)=pIn S.out (atV S) x:=by
 unfold outV;rw[show ((S.ppl.filter (pIn S.out (atV S))).map fun x=>V.int x.1)=((S.ppl.filter (pIn S.out (atV S))).map (·.1)).map V.int by rw[z2m];rfl,K9]
 unfold pIn;by_cases h:(atV S,x.1)∈S.out
 ·rw[z01 h,z01]
  exact z02.mpr ⟨x,z1t.mpr ⟨hx,z01 h⟩,rfl⟩
 ·rw[z07 h,z07]
  intro z;obtain⟨y,h1,h2⟩:=z02.mp z;have:=of_decide_eq_true (z1t.mp h1).2;rw[h2] at this;exact h this
theorem zh5(S:Sea)(m:P3):((S.ppl.filter (So S.led m.1 m.2.1 m.2.2 (outV S) S.rest)).map fun x=>V.int x.1)=(mayM S m).map V.int:=by
 unfold mayM;rw[z2m];have:S.ppl.filter (So S.led m.1 m.2.1 m.2.2 (outV S) S.rest)=S.ppl.filter fun x=>(whyS S.led x.1 x.2.1 x.2.2 m.1 m.2.1 m.2.2 (pIn S.out (atV S) x) S.rest).isEmpty:=by
  refine List.filter_congr fun x hx=>?_
  unfold So;rw[zf2 hx]
 rw[this];rfl
theorem atI_last{xs:List V}{x:V}:atI (xs++[x]) (-1)=some x:=by
 have hl:(xs++[x]).length=xs.length+1:=by rw[z0w];rfl
 unfold atI ixN;rw[if_neg (by decide),if_pos (by omega)]
 show (xs++[x])[((-1:Int)+(xs++[x]).length).toNat]?=_;rw[show ((-1:Int)+(xs++[x]).length).toNat=xs.length by omega,z1u (z03 _),Nat.sub_self];rfl
theorem Wz.unsnoc{ok:Addr->Prop}{H:Hp}{n:Int}{st:List (Nat×Option Int)}:∀ {vs:List V} {G:List (Int×List (Nat×Option Int))},Wz ok H vs (G++[(n,st)])->∃ vs' t l us,vs=vs'++[.ref t]/\H t=some (.tup [.int n,.ref l])/\H l=some (.lst us)/\Yb H us (st.map Uy)/\ok l
 | _,[],.cons h hl tl o .nil=>⟨[],_,_,_,rfl,h,hl,tl,o⟩
 | _,_ :: _,.cons h hl tl o r=>by
   obtain⟨vs',t,l,us,e,a⟩:=Wz.unsnoc r;exact⟨_ :: vs',t,l,us,by rw[e];rfl,a⟩
noncomputable def Qy(S:Sea):Prop:=(∀ x∈S.ppl,¬ badI x.1 x.2.1 x.2.2)/\S.ppl.length<=30
theorem Qy.small{S:Sea}(h:Qy S):∀ x∈S.ppl,Yk x.1:=fun x hx=>by
 have:=h.1 x hx;unfold badI at this
 exact Ym (by omega) (by omega)
theorem Qy.may{S:Sea}{ms:List P3}(h:Qy S)(nd:(S.ppl.map (·.1)).Nodup)(hm:ms.length<=20):Jv (mayS S ms) (S.ppl.map (·.1)):=by
 refine⟨by unfold mayS;rw[z0t];exact hm,by rw[z0t];exact h.2,nd,fun n hn=>?_,fun r hr=>?_⟩
 ·obtain⟨x,hx,rfl⟩:=z02.mp hn
  have:=h.1 x hx;unfold badI at this
  omega
 ·unfold mayS at hr
  obtain⟨m,_,rfl⟩:=z02.mp hr;unfold mayM;exact⟨nd.sublist (List.Sublist.map _ List.filter_sublist),fun n hn=>by
   obtain⟨x,hx,rfl⟩:=z02.mp hn;exact z02.mpr ⟨x,(z1t.mp hx).1,rfl⟩⟩
section
variable{ca:CA}{H H':Hp}{A:SAd}{S:Sea}
theorem Ly(h:Z0 ca H A S){x:Addr}(hx:x∈A.fp):A.pr≠x/\A.pl≠x:=⟨fun z=>h.np.1 (by rw[z];exact hx),fun z=>h.np.2 (by rw[z];exact hx)⟩
theorem FrS.one{x:Addr}(hx:x∈A.fp)(k:∀ b o,H b=some o->b≠x->H' b=some o):FrS A H H':=fun b o e hb=>k b o e fun z=>hb (by rw[z];exact hx)
theorem Z0.setRos{R:RL}(h:Z0 ca H A S)(r:Xm ca.roster H' A.pr A.dr R)(k:∀ b o,H b=some o->b≠A.dr->H' b=some o):Z0 ca H' A { S with ppl:=R }/\FrS A H H':=by
 have f:FrS A H H':=.one (by simp[SAd.fp]) k
 have kt:=h.tups f;have ko:∀ x o,x∉A.fp->H x=some o->H' x=some o:=fun x o hx e=>f x o e hx
 obtain⟨⟨n1,n2,n3,n4,n5,n6⟩,⟨n7,n8,n9,n10,n11⟩,⟨n12,n13,n14,n15⟩,⟨n16,n17,n18⟩,⟨n19,n20⟩,n21⟩:=J4 h.nd;have np:=Ly h (show A.dr∈A.fp by simp[SAd.fp])
 obtain⟨⟨dx,v,a1,a2⟩,b,c,⟨kvs,d1,d2⟩,⟨vs,f1,f2⟩,⟨us,g1,g2⟩,nd,np'⟩:=h;exact⟨⟨⟨dx,v,k _ _ a1 n1,a2.keep ko kt⟩,r,c.keep (fun o e=>k _ o e np.2) (fun o e=>k _ o e (Ne.symm n7)) (fun o e=>k _ o e (Ne.symm n8)) kt,⟨kvs,k _ _ d1 (Ne.symm n9),d2⟩,⟨vs,k _ _ f1 (Ne.symm n10),f2.keep ko kt⟩,⟨us,k _ _ g1 (Ne.symm n11),g2.keep ko kt⟩,nd,np'⟩,f⟩
theorem Z0.setOut{out:List (Int×Int)}{kvs:List (List Key×V)}(h:Z0 ca H A S)(hd:H' A.da=some (.dT kvs))(ok:Qw kvs out)(k:∀ b o,H b=some o->b≠A.da->H' b=some o):Z0 ca H' A { S with out:=out }/\FrS A H H':=by
 have f:FrS A H H':=.one (by simp[SAd.fp]) k
 have kt:=h.tups f;have ko:∀ x o,x∉A.fp->H x=some o->H' x=some o:=fun x o hx e=>f x o e hx
 obtain⟨⟨n1,n2,n3,n4,n5,n6⟩,⟨n7,n8,n9,n10,n11⟩,⟨n12,n13,n14,n15⟩,⟨n16,n17,n18⟩,⟨n19,n20⟩,n21⟩:=J4 h.nd;have np:=Ly h (show A.da∈A.fp by simp[SAd.fp])
 obtain⟨⟨dx,v,a1,a2⟩,b,c,⟨kvs',d1,d2⟩,⟨vs,f1,f2⟩,⟨us,g1,g2⟩,nd,np'⟩:=h;exact⟨⟨⟨dx,v,k _ _ a1 n4,a2.keep ko kt⟩,b.keep (fun o e=>k _ o e np.1) (fun o e=>k _ o e n9) kt,c.keep (fun o e=>k _ o e np.2) (fun o e=>k _ o e n13) (fun o e=>k _ o e n16) kt,⟨kvs,hd,ok⟩,⟨vs,k _ _ f1 (Ne.symm n19),f2.keep ko kt⟩,⟨us,k _ _ g1 (Ne.symm n20),g2.keep ko kt⟩,nd,np'⟩,f⟩
theorem Z0.setCur{cur:Option Zx}{v:V}(h:Z0 ca H A S)(hp:∃ dx,H' A.p=some (.ins ca.season dx (seaF A S.len S.rest v)))(sh:ShO ca.sheet (·∉A.fp) H' v cur)(k:∀ b o,H b=some o->b≠A.p->H' b=some o):Z0 ca H' A { S with cur:=cur }/\FrS A H H':=by
 have f:FrS A H H':=.one (by simp[SAd.fp]) k
 have kt:=h.tups f;have ko:∀ x o,x∉A.fp->H x=some o->H' x=some o:=fun x o hx e=>f x o e hx
 obtain⟨⟨n1,n2,n3,n4,n5,n6⟩,⟨n7,n8,n9,n10,n11⟩,⟨n12,n13,n14,n15⟩,⟨n16,n17,n18⟩,⟨n19,n20⟩,n21⟩:=J4 h.nd;have np:=Ly h (show A.p∈A.fp by simp[SAd.fp])
 obtain⟨⟨dx,v',a1,a2⟩,b,c,⟨kvs',d1,d2⟩,⟨vs,f1,f2⟩,⟨us,g1,g2⟩,nd,np'⟩:=h;obtain⟨dx',hp⟩:=hp;exact⟨⟨⟨dx',v,hp,sh⟩,b.keep (fun o e=>k _ o e np.1) (fun o e=>k _ o e (Ne.symm n1)) kt,c.keep (fun o e=>k _ o e np.2) (fun o e=>k _ o e (Ne.symm n2)) (fun o e=>k _ o e (Ne.symm n3)) kt,⟨kvs',k _ _ d1 (Ne.symm n4),d2⟩,⟨vs,k _ _ f1 (Ne.symm n5),f2.keep ko kt⟩,⟨us,k _ _ g1 (Ne.symm n6),g2.keep ko kt⟩,nd,np'⟩,f⟩
theorem Z0.setStd{std:List (Tt×Option Zx)}{us:List V}(h:Z0 ca H A S)(hd:H' A.lt=some (.lst us))(ok:Th ca.sheet (·∉A.fp) H' us std)(k:∀ b o,H b=some o->b≠A.lt->H' b=some o):Z0 ca H' A { S with std:=std }/\FrS A H H':=by
 have f:FrS A H H':=.one (by simp[SAd.fp]) k
 have kt:=h.tups f;have ko:∀ x o,x∉A.fp->H x=some o->H' x=some o:=fun x o hx e=>f x o e hx
 obtain⟨⟨n1,n2,n3,n4,n5,n6⟩,⟨n7,n8,n9,n10,n11⟩,⟨n12,n13,n14,n15⟩,⟨n16,n17,n18⟩,⟨n19,n20⟩,n21⟩:=J4 h.nd;have np:=Ly h (show A.lt∈A.fp by simp[SAd.fp])
 obtain⟨⟨dx,v,a1,a2⟩,b,c,⟨kvs,d1,d2⟩,⟨vs,f1,f2⟩,⟨us',g1,g2⟩,nd,np'⟩:=h;exact⟨⟨⟨dx,v,k _ _ a1 n6,a2.keep ko kt⟩,b.keep (fun o e=>k _ o e np.1) (fun o e=>k _ o e n11) kt,c.keep (fun o e=>k _ o e np.2) (fun o e=>k _ o e n15) (fun o e=>k _ o e n18) kt,⟨kvs,k _ _ d1 n20,d2⟩,⟨vs,k _ _ f1 n21,f2.keep ko kt⟩,⟨us,hd,ok⟩,nd,np'⟩,f⟩
theorem Z0.setOld{old:List Zx}{us:List V}(h:Z0 ca H A S)(hd:H' A.ls=some (.lst us))(ok:ShL ca.sheet (·∉A.fp) H' us old)(k:∀ b o,H b=some o->b≠A.ls->H' b=some o):Z0 ca H' A { S with old:=old }/\FrS A H H':=by
 have f:FrS A H H':=.one (by simp[SAd.fp]) k
 have kt:=h.tups f;have ko:∀ x o,x∉A.fp->H x=some o->H' x=some o:=fun x o hx e=>f x o e hx
 obtain⟨⟨n1,n2,n3,n4,n5,n6⟩,⟨n7,n8,n9,n10,n11⟩,⟨n12,n13,n14,n15⟩,⟨n16,n17,n18⟩,⟨n19,n20⟩,n21⟩:=J4 h.nd;have np:=Ly h (show A.ls∈A.fp by simp[SAd.fp])
 obtain⟨⟨dx,v,a1,a2⟩,b,c,⟨kvs,d1,d2⟩,⟨vs,f1,f2⟩,⟨us',g1,g2⟩,nd,np'⟩:=h;exact⟨⟨⟨dx,v,k _ _ a1 n5,a2.keep ko kt⟩,b.keep (fun o e=>k _ o e np.1) (fun o e=>k _ o e n10) kt,c.keep (fun o e=>k _ o e np.2) (fun o e=>k _ o e n14) (fun o e=>k _ o e n17) kt,⟨kvs,k _ _ d1 n19,d2⟩,⟨us,hd,ok⟩,⟨us',k _ _ g1 (Ne.symm n21),g2.keep ko kt⟩,nd,np'⟩,f⟩
theorem Z0.setLed{Rs:List (List Row)}(h:Z0 ca H A S)(l:V5 ca.ledger H' A.pl A.lr A.ld Rs)(k:∀ b o,H b=some o->b≠A.lr->b≠A.ld->H' b=some o):Z0 ca H' A { S with led:=Rs }/\FrS A H H':=by
 have f:FrS A H H':=fun b o e hb=>k b o e (fun z=>hb (by rw[z];simp[SAd.fp])) (fun z=>hb (by rw[z];simp[SAd.fp]))
 have kt:=h.tups f;have ko:∀ x o,x∉A.fp->H x=some o->H' x=some o:=fun x o hx e=>f x o e hx
 obtain⟨⟨n1,n2,n3,n4,n5,n6⟩,⟨n7,n8,n9,n10,n11⟩,⟨n12,n13,n14,n15⟩,⟨n16,n17,n18⟩,⟨n19,n20⟩,n21⟩:=J4 h.nd;have np:=Ly h (show A.lr∈A.fp by simp[SAd.fp])
 have np2:=Ly h (show A.ld∈A.fp by simp[SAd.fp])
 obtain⟨⟨dx,v,a1,a2⟩,b,c,⟨kvs,d1,d2⟩,⟨vs,f1,f2⟩,⟨us',g1,g2⟩,nd,np'⟩:=h;exact⟨⟨⟨dx,v,k _ _ a1 n2 n3,a2.keep ko kt⟩,b.keep (fun o e=>k _ o e np.1 np2.1) (fun o e=>k _ o e n7 n8) kt,l,⟨kvs,k _ _ d1 (Ne.symm n13) (Ne.symm n16),d2⟩,⟨vs,k _ _ f1 (Ne.symm n14) (Ne.symm n17),f2.keep ko kt⟩,⟨us',k _ _ g1 (Ne.symm n15) (Ne.symm n18),g2.keep ko kt⟩,nd,np'⟩,f⟩
theorem Ou{l r:Nat}{v v':V}:putF "sheet" v' (seaF A l r v)=seaF A l r v':=by
 have n1:¬ (("length":Str)="sheet"):=by decide +kernel
 have n2:¬ (("rest":Str)="sheet"):=by decide +kernel
 have n3:¬ (("roster":Str)="sheet"):=by decide +kernel
 have n4:¬ (("ledger":Str)="sheet"):=by decide +kernel
 have n5:¬ (("absent":Str)="sheet"):=by decide +kernel
 have n6:¬ (("sheets":Str)="sheet"):=by decide +kernel
 simp only[putF,seaF,if_neg n1,if_neg n2,if_neg n3,if_neg n4,if_neg n5,if_neg n6,if_true]
theorem FrS.free{S':Sea}(f:FrS A H H')(h:Z0 ca H' A S'){l:Addr}(hl:H' l=none):H l=none:=by
 cases e:H l with
 | none=>rfl
 | some o =>
   by_cases hm:l∈A.fp
   ·obtain⟨o',e'⟩:=h.there l hm
    rw[e'] at hl;cases hl
   ·rw[f l o e hm] at hl;cases hl
theorem ShAt.ins{q:Addr}{s:Zx}(h:ShAt ca.sheet (·∉A.fp) H q s):∃ dx l1 l2 l3 l4,H q=some (.ins ca.sheet dx (shF l1 l2 l3 l4)):=by
 obtain⟨dx,l1,l2,l3,l4,_,_,_,a1,_⟩:=h;exact⟨dx,l1,l2,l3,l4,a1⟩
theorem Z0.newSheet{q dx:Addr}{v:V}{s:Zx}(h:Z0 ca H A S)(hp:H A.p=some (.ins ca.season dx (seaF A S.len S.rest v)))(sh:ShAt ca.sheet (·∉A.fp) H q s) :
  Z0 ca (upd H A.p (.ins ca.season dx (putF "sheet" (.ref q) (seaF A S.len S.rest v)))) A { S with cur:=some s }/\FrS A H (upd H A.p (.ins ca.season dx (putF "sheet" (.ref q) (seaF A S.len S.rest v))))/\ShAt ca.sheet (·∉A.fp) (upd H A.p (.ins ca.season dx (putF "sheet" (.ref q) (seaF A S.len S.rest v)))) q s:=by
 have k:∀ b o,H b=some o->b≠A.p->upd H A.p (.ins ca.season dx (putF "sheet" (.ref q) (seaF A S.len S.rest v))) b=some o:=fun b o e n=>by rw[Zh n];exact e
 have sh':=sh.keep (H':=upd H A.p (.ins ca.season dx (putF "sheet" (.ref q) (seaF A S.len S.rest v)))) (fun x o hx e=>k x o e fun z=>hx (by rw[z];simp[SAd.fp])) (fun t xs e=>k t _ e (Yt e hp (fun z=>nomatch z)))
 obtain⟨h1,h2⟩:=h.setCur (cur:=some s) (v:=.ref q) ⟨dx,by rw[Zc];exact congrArg (fun x=>some (HO.ins ca.season dx x)) Ou⟩ ⟨q,rfl,sh'⟩ k
 exact⟨h1,h2,sh'⟩
theorem Gb{l r:Nat}{v:V}{x:Addr}:putF "standing" (.ref x) (seaF A l r v)=seaF { A with lt:=x } l r v:=by
 have n1:¬ (("length":Str)="standing"):=by decide +kernel
 have n2:¬ (("rest":Str)="standing"):=by decide +kernel
 have n3:¬ (("roster":Str)="standing"):=by decide +kernel
 have n4:¬ (("ledger":Str)="standing"):=by decide +kernel
 have n5:¬ (("absent":Str)="standing"):=by decide +kernel
 have n6:¬ (("sheets":Str)="standing"):=by decide +kernel
 have n7:¬ (("sheet":Str)="standing"):=by decide +kernel
 simp only[putF,seaF,if_neg n1,if_neg n2,if_neg n3,if_neg n4,if_neg n5,if_neg n6,if_neg n7,if_true]
end
noncomputable def zem(r q:Nat):Sea:=⟨r,q,[],[],[],[],none,[]⟩
inductive zaz(ca:CA)(vs:List V)(H:Hp)(Q:VK)(E:XK):Prop where
 | mk(p dx:Addr)(r q:Int)(_:vs=[.ref p,.int r,.int q])(_:H p=some (.ins ca.season dx []))(_:Yk r)(_:Yk q)(_:if r<0\/60<r then E (.ref ca.out) none H else if q<0\/10<q then E (.ref ca.out) none H else ∀ A H',A.p=p->Z0 ca H' A (zem r.toNat q.toNat)->(∀ b o,H b=some o->b≠p->H' b=some o)->(∀ x∈A.fp,x≠p->H x=none)->Q .non H')
inductive za0(ca:CA)(vs:List V)(H:Hp)(Q:VK)(E:XK):Prop where
 | mk(A:SAd)(S:Sea)(n g c:Int)(_:vs=[.ref A.p,.int n,.int g,.int c])(_:Z0 ca H A S)(_:Ak n g c)(_:S.std.length<=1000)(_:S.ppl.length<=1000)(_:if S.len<=S.led.length then E (.ref ca.seaOver) none H else if S.cur.isSome then E (.ref ca.drawn) none H else if badI n g c then E (.ref ca.out) none H else if n∈S.ppl.map (·.1) then E (.ref ca.known) none H else if 30<=S.ppl.length then E (.ref ca.many) none H else if 100<=S.std.length then E (.ref ca.manyD) none H else ∀ H',Z0 ca H' A { S with ppl:=S.ppl++[(n,g,c)],std:=S.std++[(((("enrol":Str),n,atV S):Tt),S.cur)] }->FrS A H H'->Q .non H')
noncomputable def zen(S:Sea)(ms:List P3)(gv:List V):Sea:={ S with cur:=some ⟨ms,mayS S ms,gv,[]⟩,std:=S.std++[(((("draw up":Str),(ms.length:Int),atV S):Tt),S.cur)] }
inductive Cu(K:PySem.W.Frag)(ca:CA)(vs:List V)(H:Hp)(Q:VK)(E:XK):Prop where
 | mk(A:SAd)(S:Sea)(b:Addr)(ts:List V)(ms:List P3)(_:vs=[.ref A.p,.ref b])(_:Z0 ca H A S)(_:SqL K H b ts)(_:Yb H ts (ms.map pV))(_:(∀ m∈ms,Ez m))(_:ms.length<=1000)(_:S.std.length<=1000)(_:Qy S)(_:if S.len<=S.led.length then E (.ref ca.seaOver) none H else if S.cur.isSome then E (.ref ca.drawn) none H else (20<ms.length->E (.ref ca.manyM) none H)/\(ms.length<=20->Rw ms->E (.ref ca.out) none H)/\(ms.length<=20->¬ Rw ms->Rx ms->E (.ref ca.same) none H)/\(ms.length<=20->¬ Rw ms->¬ Rx ms->(100<=S.std.length->∀ H',Same H H'->E (.ref ca.manyD) none H')/\(S.std.length<100->∀ l gv H',H' l=some (.lst gv)->Z0 ca H' A (zen S ms gv)->Y4 (mayS S ms) gv->Tg (mayS S ms) gv->FrS A H H'->H l=none->Q (.ref l) H')))
inductive Cv(ca:CA)(vs:List V)(H:Hp)(Q:VK)(_:XK):Prop where
 | mk(A:SAd)(S:Sea)(n:Int)(s:Zx)(nu:List Int)(_:vs=[.ref A.p,.int n])(_:Z0 ca H A S)(_:S.cur=some s)(_:Qy S)(_:s.ms.length<=20)(_:(∀ x∈s.gv,oneV x))(_:s.gv.length<=100)(_:s.gaps.length<=500)(_:Jv (mayS S s.ms) nu)(_:(W3 s.gv n=none->∀ l H',H' l=some (.lst [])->Z0 ca H' A { S with cur:=some { s with may:=mayS S s.ms } }->FrS A H H'->H l=none->Q (.ref l) H'))(_:∀ p,W3 s.gv n=some p->s.gv[p]?=some (.int n)/\(∀ j:Nat,s.gv[j]?=some (.int n)->j=p)/\Y4 (mayS S s.ms) (s.gv.set p .non)/\∀ l us st e w H',H' l=some (.lst us)->Yb H' us (st.map Uy)->Xs (mayS S s.ms) (s.gv.set p .non) p st e w->Z0 ca H' A { S with cur:=some ⟨s.ms,mayS S s.ms,Yw st (s.gv.set p .non),s.gaps++[(n,st)]⟩ }->FrS A H H'->H l=none->Q (.ref l) H')
noncomputable def Xx(S:Sea)(i n:Int):Sea:={ S with out:=S.out++[(i,n)],std:=S.std++[((("away":Str),n,i),S.cur)] }
inductive zeo(ca:CA)(vs:List V)(H:Hp)(Q:VK)(E:XK):Prop where
 | mk(A:SAd)(S:Sea)(i n:Int)(_:vs=[.ref A.p,.int i,.int n])(_:Z0 ca H A S)(_:Yk i)(_:Yk n)(_:S.std.length<=1000)(_:S.out.length<=100000)(_:Qy S)(_:(∀ s,S.cur=some s->s.ms.length<=20/\Y4 s.may s.gv/\s.may=mayS S s.ms/\s.gaps.length<=500))(_:if i<1\/(S.len:Int)<i then E (.ref ca.noRound) none H else if i<=S.led.length then E (.ref ca.over) none H else if n∈S.ppl.map (·.1) then (if (i,n)∈S.out then ∀ H',Same H H'->E (.ref ca.away) none H' else if 100<=S.std.length then ∀ H',Same H H'->E (.ref ca.manyD) none H' else (S.cur=none\/atV S<i->∀ l H',H' l=some (.lst [])->Z0 ca H' A (Xx S i n)->FrS A H H'->H l=none->Q (.ref l) H')/\(∀ s,i=atV S->S.cur=some s->W3 s.gv n=none->∀ l H',H' l=some (.lst [])->Z0 ca H' A { Xx S i n with cur:=some { s with may:=mayS (Xx S i n) s.ms } }->FrS A H H'->H l=none->Q (.ref l) H')/\(∀ s p,i=atV S->S.cur=some s->W3 s.gv n=some p->∀ l us st e w H',H' l=some (.lst us)->Yb H' us (st.map Uy)->Xs (mayS (Xx S i n) s.ms) (s.gv.set p .non) p st e w->Z0 ca H' A { Xx S i n with cur:=some ⟨s.ms,mayS (Xx S i n) s.ms,Yw st (s.gv.set p .non),s.gaps++[(n,st)]⟩ }->FrS A H H'->H l=none->Q (.ref l) H')) else E (.ref ca.unk) none H)
theorem Qw.put{kvs:List (List Key×V)}{out:List (Int×Int)}(h:Qw kvs out)(i n:Int):Qw (putK kvs [Sum.inl i,Sum.inl n] (.bl true)) (out++[(i,n)]):=by
 refine⟨fun j m=>?_,?_⟩
 ·rw[V2]
  by_cases e:j=i/\m=n
  ·rw[if_pos (Ph.mpr e),z01 (by rw[e.1,e.2];simp)];rfl
  ·rw[if_neg (fun z=>e (Ph.mp z)),h.1 j m]
   by_cases hm:(j,m)∈out
   ·rw[z01 hm,z01 (z1m _ hm)]
   ·rw[z07 hm,z07]
    intro z;rcases z06.mp z with q|q
    ·exact hm q
    ·have:=z0z.mp q;exact e (by cases this;exact⟨rfl,rfl⟩)
 ·have:=Y1 kvs ([Sum.inl i,Sum.inl n]:List Key) (.bl true)
  have:=h.2;rw[z0w];show _<=out.length+1;omega
theorem Qw.drop{kvs:List (List Key×V)}{out:List (Int×Int)}{i n:Int}(h:Qw kvs (out++[(i,n)]))(hn:(i,n)∉out):Qw (Wc kvs [Sum.inl i,Sum.inl n]) out:=by
 have hv:∀ k:List Key,valV (Wc kvs [Sum.inl i,Sum.inl n]) k=if k=[Sum.inl i,Sum.inl n] then none else valV kvs k:=fun k=>by
  clear h
  induction kvs with
  | nil=>unfold Wc;simp[valV]
  | cons x kvs ih =>
    by_cases ex:x.1=[Sum.inl i,Sum.inl n]
    ·rw[zbq ex,ih]
     by_cases e:k=[Sum.inl i,Sum.inl n]
     ·rw[if_pos e,if_pos e]
     ·rw[if_neg e,if_neg e,Xd (fun z=>e (z.symm.trans ex))]
    ·rw[zbr ex]
     by_cases ek:x.1=k
     ·rw[Xl ek,Xl ek,if_neg (fun z=>ex (ek.trans z))]
     ·rw[Xd ek,Xd ek,ih]
 refine⟨fun j m=>?_,?_⟩
 ·rw[hv]
  by_cases e:j=i/\m=n
  ·rw[if_pos (Ph.mpr e),z07 (by rw[e.1,e.2];exact hn)];rfl
  ·rw[if_neg (fun z=>e (Ph.mp z)),h.1 j m]
   by_cases hm:(j,m)∈out
   ·rw[z01 hm,z01 (z1m _ hm)]
   ·rw[z07 hm,z07]
    intro z;rcases z06.mp z with q|q
    ·exact hm q
    ·have:=z0z.mp q;exact e (by cases this;exact⟨rfl,rfl⟩)
 ·have h1:=h.1 i n
  rw[z01 (show (i,n)∈out++[(i,n)] by simp)] at h1
  have h2:=h.2;rw[z0w] at h2
  have h2:kvs.length<=out.length+1:=h2;have h3:(Wc kvs [Sum.inl i,Sum.inl n]).length<kvs.length:=by
   unfold Wc;rw[List.length_filter_lt_length_iff_exists];obtain⟨v,hv'⟩:=z14.mp h1;unfold valV at hv'
   obtain⟨x,hx,_⟩:=z11.mp hv';refine⟨x,List.mem_of_find?_eq_some hx,?_⟩;have:=List.find?_some hx;intro z;exact of_decide_eq_true z (of_decide_eq_true this)
  omega
theorem Ov{gv:List V}{n:Int}{p:Nat}(h:W3 gv n=some p):gv[p]?=some (.int n):=by
 unfold W3 at h
 have h2:decide (gv[p]?=some (V.int n))=true:=List.find?_some (p:=fun i=>decide (gv[i]?=some (V.int n))) h
 exact of_decide_eq_true h2
theorem Sh{S:Sea}{n:Int}{ms:List P3}:mayS (Xx S (atV S) n) ms=without (mayS S ms) n:=by
 unfold mayS without;rw[z2m];refine z2z fun m _=>?_
 show mayM (Xx S (atV S) n) m=(mayM S m).filter fun x=>decide (x≠n)
 unfold mayM;rw[List.filter_map,List.filter_filter]
 congr 1
 refine List.filter_congr fun x _=>?_
 show (whyS S.led x.1 x.2.1 x.2.2 m.1 m.2.1 m.2.2 (pIn (S.out++[(atV S,n)]) (atV S) x) S.rest).isEmpty=(decide (x.1≠n)&&(whyS S.led x.1 x.2.1 x.2.2 m.1 m.2.1 m.2.2 (pIn S.out (atV S) x) S.rest).isEmpty);unfold pIn;by_cases e:x.1=n
 ·have h1:decide ((atV S,x.1)∈S.out++[(atV S,n)])=true:=z01 (by rw[e];simp)
  rw[h1,z07 (fun z=>z e),Bool.false_and]
  unfold whyS bw;simp
 ·have h1:decide ((atV S,x.1)∈S.out++[(atV S,n)])=decide ((atV S,x.1)∈S.out):=by
   by_cases hm:(atV S,x.1)∈S.out
   ·rw[z01 hm,z01 (z1m _ hm)]
   ·rw[z07 hm,z07]
    intro z;rcases z06.mp z with q|q
    ·exact hm q
    ·have:=z0z.mp q;cases this;exact e rfl
  rw[h1,z01 e,Bool.true_and]
noncomputable def E1(S:Sea)(s:Zx):Sea:={ S with led:=S.led++[Z3 s],old:=S.old++[s],cur:=none,std:=[] }
inductive za1(ca:CA)(vs:List V)(H:Hp)(Q:VK)(E:XK):Prop where
 | mk(A:SAd)(S:Sea)(_:vs=[.ref A.p])(_:Z0 ca H A S)(_:2*(tot S.led+1000)<=100000)(_:S.led.length<=1000)(_:S.old.length<=1000)(_:(∀ s,S.cur=some s->(∀ x∈s.gv,oneV x)/\s.gv.length=s.ms.length/\s.ms.length<=1000))(_:if S.len<=S.led.length then E (.ref ca.seaOver) none H else (S.cur=none->E (.ref ca.notDrawn) none H)/\∀ s x H',S.cur=some s->Z0 ca H' { A with lt:=x } (E1 S s)->FrS A H H'->H x=none->Q (.int (atV S)) H')
theorem Z0.freshStd{ca:CA}{H H':Hp}{A:SAd}{S:Sea}{x dx:Addr}{v:V}(h:Z0 ca H A S)(hx:H x=none)(hp:H A.p=some (.ins ca.season dx (seaF A S.len S.rest v)))(hv:ShO ca.sheet (·∉A.fp) H v S.cur)
  (e:H'=upd (upd H x (.lst [])) A.p (.ins ca.season dx (putF "standing" (.ref x) (seaF A S.len S.rest v)))):Z0 ca H' { A with lt:=x } { S with std:=[] }/\FrS A H H':=by
 have hpx:A.p≠x:=Zg hp hx;have k:∀ b o,H b=some o->b≠A.p->H' b=some o:=fun b o q n=>by rw[e,Zh n,Zh (Zg q hx)];exact q
 have f:FrS A H H':=.one (by simp[SAd.fp]) k
 have kt:=h.tups f;have hnx:∀ y,(∃ o,H y=some o)->y≠x:=fun y ⟨o,q⟩=>Zg q hx
 have okk:∀ y,(∃ o,H' y=some o)->y∉A.fp->(∃ o,H y=some o)->y∉({ A with lt:=x }:SAd).fp:=fun y _ hy hH hm=>by
  simp only[SAd.fp,z00,z10,or_false] at hm hy
  rcases hm with q|q|q|q|q|q|q
  ·exact hy (.inl q)
  ·exact hy (.inr (.inl q))
  ·exact hy (.inr (.inr (.inl q)))
  ·exact hy (.inr (.inr (.inr (.inl q))))
  ·exact hy (.inr (.inr (.inr (.inr (.inl q)))))
  ·exact hy (.inr (.inr (.inr (.inr (.inr (.inl q))))))
  ·exact hnx y hH q
 have ok2:∀ y,(∃ o,H y=some o)->y∉A.fp->y∉({ A with lt:=x }:SAd).fp:=fun y hH hy hm=>by
  simp only[SAd.fp,z00,z10,or_false] at hm hy
  rcases hm with q|q|q|q|q|q|q
  ·exact hy (.inl q)
  ·exact hy (.inr (.inl q))
  ·exact hy (.inr (.inr (.inl q)))
  ·exact hy (.inr (.inr (.inr (.inl q))))
  ·exact hy (.inr (.inr (.inr (.inr (.inl q)))))
  ·exact hy (.inr (.inr (.inr (.inr (.inr (.inl q))))))
  ·exact hnx y hH q
 have ko:∀ y o,y∉({ A with lt:=x }:SAd).fp->H y=some o->H' y=some o:=fun y o hy q=>k y o q fun z=>hy (by rw[z];simp[SAd.fp])
 have there:=h.there;obtain⟨⟨n1,n2,n3,n4,n5,n6⟩,⟨n7,n8,n9,n10,n11⟩,⟨n12,n13,n14,n15⟩,⟨n16,n17,n18⟩,⟨n19,n20⟩,n21⟩:=J4 h.nd;have np:=Ly h (show A.p∈A.fp by simp[SAd.fp])
 have npp:=h.np;obtain⟨⟨dx',v',a1,a2⟩,b,c,⟨kvs',d1,d2⟩,⟨vs,f1,f2⟩,⟨us,g1,g2⟩,nd,np'⟩:=h;have hpr:∃ o,H A.pr=some o:=by obtain⟨⟨_,_,q,_⟩,_⟩:=b;exact⟨_,q⟩
 have hpl:∃ o,H A.pl=some o:=by obtain⟨⟨_,q⟩,_⟩:=c;exact⟨_,q⟩
 refine⟨⟨⟨dx,v,?_,(hv.imp ok2).keep ko kt⟩,b.keep (fun o q=>k _ o q np.1) (fun o q=>k _ o q (Ne.symm n1)) kt,c.keep (fun o q=>k _ o q np.2) (fun o q=>k _ o q (Ne.symm n2)) (fun o q=>k _ o q (Ne.symm n3)) kt,⟨kvs',k _ _ d1 (Ne.symm n4),d2⟩,⟨vs,k _ _ f1 (Ne.symm n5),(f2.imp ok2).keep ko kt⟩,⟨[],?_,?_⟩,?_,⟨ok2 _ hpr npp.1,ok2 _ hpl npp.2⟩⟩,f⟩
 ·rw[e,Zc];exact congrArg (fun z=>some (HO.ins ca.season dx z)) Gb
 ·show H' x=some (.lst [])
  rw[e,Zh (Ne.symm hpx),Zc]
 ·exact .nil
 ·show [A.p,A.dr,A.lr,A.ld,A.da,A.ls,x].Nodup
  have m:∀ y∈A.fp,y≠x:=fun y hy=>hnx y (there y hy)
  simp only[z1i,z00,z10,or_false,not_or];exact⟨⟨n1,n2,n3,n4,n5,m _ (by simp[SAd.fp])⟩,⟨n7,n8,n9,n10,m _ (by simp[SAd.fp])⟩,⟨n12,n13,n14,m _ (by simp[SAd.fp])⟩,⟨n16,n17,m _ (by simp[SAd.fp])⟩,⟨n19,m _ (by simp[SAd.fp])⟩,m _ (by simp[SAd.fp]),by simp,List.nodup_nil⟩
noncomputable def zep(S:Sea)(d:Tt)(ppl:RL)(out:List (Int×Int)):Prop:=(d.1="enrol"/\(∃ g c,S.ppl=ppl++[(d.2.1,g,c)])/\out=S.out)\/(d.1="away"/\ppl=S.ppl/\S.out=out++[(d.2.2,d.2.1)]/\(d.2.2,d.2.1)∉out)\/(d.1="draw up"/\ppl=S.ppl/\out=S.out)
inductive J5(ca:CA)(vs:List V)(H:Hp)(Q:VK)(E:XK):Prop where
 | mk(A:SAd)(S:Sea)(_:vs=[.ref A.p])(_:Z0 ca H A S)(_:(S.std=[]->E (.ref ca.nothing) none H))(_:∀ std d s,S.std=std++[(d,s)]->∃ ppl out,zep S d ppl out/\∀ t H',H' t=some (.tup (P9 d))->Z0 ca H' A { S with ppl:=ppl,out:=out,cur:=s,std:=std }->FrS A H H'->Q (.ref t) H')
inductive Cw(ca:CA)(vs:List V)(H:Hp)(Q:VK)(E:XK):Prop where
 | mk(A:SAd)(S:Sea)(i n:Int)(_:vs=[.ref A.p,.int i,.int n])(_:Z0 ca H A S)(_:Yk i)(_:Yk n)(_:if i<1\/(S.len:Int)<i then E (.ref ca.noRound) none H else if n∈S.ppl.map (·.1) then ∀ H',Same H H'->Q (.bl (decide ((i,n)∈S.out))) H' else E (.ref ca.unk) none H)
noncomputable def za2(ca:CA)(H:Hp)(S:Sea)(i:Int)(E:XK)(k:Zx->Prop):Prop:=Yk i/\S.old.length=S.led.length/\if i<1\/(S.len:Int)<i then E (.ref ca.noRound) none H else (V8 S i=none->E (.ref ca.notDrawn) none H)/\∀ s,V8 S i=some s->k s
inductive zeq(ca:CA)(vs:List V)(H:Hp)(Q:VK)(E:XK):Prop where
 | mk(A:SAd)(S:Sea)(i:Int)(_:vs=[.ref A.p,.int i])(_:Z0 ca H A S)(_:za2 ca H S i E fun s=>∀ l H',H' l=some (.lst s.gv)->Same H H'->H l=none->Q (.ref l) H')
inductive zgp(ca:CA)(vs:List V)(H:Hp)(Q:VK)(E:XK):Prop where
 | mk(A:SAd)(S:Sea)(i:Int)(_:vs=[.ref A.p,.int i])(_:Z0 ca H A S)(_:Yk i)(_:(S.cur=none->E (.ref ca.notDrawn) none H))(_:∀ s,S.cur=some s->s.may.length=s.ms.length/\(i<0\/(s.ms.length:Int)<=i->E (.ref ca.noMatch) none H)/\∀ (k:Nat) r,i=(k:Int)->s.may[k]?=some r->∀ l H',H' l=some (.lst (r.map V.int))->Same H H'->H l=none->Q (.ref l) H')
inductive Lz(ca:CA)(vs:List V)(H:Hp)(Q:VK)(E:XK):Prop where
 | mk(A:SAd)(S:Sea)(n i:Int)(_:vs=[.ref A.p,.int n,.int i])(_:Z0 ca H A S)(_:Yk n)(_:Yk i)(_:S.led.length<S.len)(_:S.led.length<=1000)(_:(S.cur=none->E (.ref ca.notDrawn) none H))(_:∀ s,S.cur=some s->(n∉S.ppl.map (·.1)->∀ H',Same H H'->E (.ref ca.unk) none H')/\(n∈S.ppl.map (·.1)->(i<0\/(s.ms.length:Int)<=i->∀ H',Same H H'->E (.ref ca.noMatch) none H')/\∀ (k:Nat) m g c,i=(k:Int)->s.ms[k]?=some m->(n,g,c)∈S.ppl->∀ l H',H' l=some (.lst ((whyS S.led n g c m.1 m.2.1 m.2.2 (pIn S.out (atV S) (n,g,c)) S.rest).map V.str))->Same H H'->H l=none->Q (.ref l) H'))
theorem Si{f:Str}{v:V}(ks:List Str):∀ {fs:List (Str×V)},fs.map (·.1)=ks->(ks.all fun x=>!decide (x=f))=true->putF f v fs=fs++[(f,v)]:=by
 intro fs hk h;subst hk
 induction fs with
 | nil=>rfl
 | cons x fs ih =>
   rw[z04,List.all_cons,z17,Bool.not_eq_true',decide_eq_false_iff_not] at h
   obtain⟨k,y⟩:=x;show (if k=f then _ else _)=_
   rw[if_neg h.1,ih h.2];rfl
noncomputable def sF1(l:V):List (Str×V):=[("length",l)]
noncomputable def sF2(l r:V):List (Str×V):=[("length",l),("rest",r)]
noncomputable def sF3(l r a:V):List (Str×V):=[("length",l),("rest",r),("roster",a)]
noncomputable def sF4(l r a b:V):List (Str×V):=[("length",l),("rest",r),("roster",a),("ledger",b)]
noncomputable def sF5(l r a b c:V):List (Str×V):=[("length",l),("rest",r),("roster",a),("ledger",b),("absent",c)]
noncomputable def sF6(l r a b c d:V):List (Str×V):=[("length",l),("rest",r),("roster",a),("ledger",b),("absent",c),("sheets",d)]
noncomputable def sF7(l r a b c d e:V):List (Str×V):=[("length",l),("rest",r),("roster",a),("ledger",b),("absent",c),("sheets",d),("sheet",e)]
noncomputable def sF8(l r a b c d e f:V):List (Str×V):=[("length",l),("rest",r),("roster",a),("ledger",b),("absent",c),("sheets",d),("sheet",e),("standing",f)]
theorem pF1{l:V}:putF "length" l []=sF1 l:=rfl
theorem pF2{l r:V}:putF "rest" r (sF1 l)=sF2 l r:=Si ["length"] rfl (by decide +kernel)
theorem pF3{l r a:V}:putF "roster" a (sF2 l r)=sF3 l r a:=Si ["length","rest"] rfl (by decide +kernel)
theorem pF4{l r a b:V}:putF "ledger" b (sF3 l r a)=sF4 l r a b:=Si ["length","rest","roster"] rfl (by decide +kernel)
theorem pF5{l r a b c:V}:putF "absent" c (sF4 l r a b)=sF5 l r a b c:=Si ["length","rest","roster","ledger"] rfl (by decide +kernel)
theorem pF6{l r a b c d:V}:putF "sheets" d (sF5 l r a b c)=sF6 l r a b c d:=Si ["length","rest","roster","ledger","absent"] rfl (by decide +kernel)
theorem pF7{l r a b c d e:V}:putF "sheet" e (sF6 l r a b c d)=sF7 l r a b c d e:=Si ["length","rest","roster","ledger","absent","sheets"] rfl (by decide +kernel)
theorem pF8{l r a b c d e f:V}:putF "standing" f (sF7 l r a b c d e)=sF8 l r a b c d e f:=Si ["length","rest","roster","ledger","absent","sheets","sheet"] rfl (by decide +kernel)
theorem V9.free{p:Addr}{H H':Hp}{x:Addr}(hb:∀ b o,H b=some o->b≠p->H' b=some o)(hp:∃ o,H' p=some o)(hx:H' x=none):H x=none:=by
 cases e:H x with
 | none=>rfl
 | some o =>
   by_cases z:x=p
   ·subst z;obtain⟨o',q⟩:=hp;rw[q] at hx;cases hx
   ·rw[hb x o e z] at hx;cases hx
noncomputable def V9(p:Addr)(H H':Hp):Prop:=∀ b o,H b=some o->b≠p->H' b=some o
theorem V9.trans{p:Addr}{H1 H2 H3:Hp}(a:V9 p H1 H2)(b:V9 p H2 H3):V9 p H1 H3:=fun x o e n=>b x o (a x o e n) n
theorem V9.of{p:Addr}{H1 H2:Hp}(a:Same H1 H2):V9 p H1 H2:=fun x o e _=>a x o e
theorem V9.put{p:Addr}{H:Hp}{o:HO}:V9 p H (upd H p o):=fun x o e n=>by rw[Zh n];exact e
end G

namespace L2
open PySem PySem.Spec PyProof.Rows
theorem Al{X:Cx}:Ux X (.type "dict") (fun xs H Q=>∃ a kvs,xs=[.ref a]/\Rd H a (.dK kvs)/\∀ p,H p=none->Q (.ref p) (upd H p (.dK kvs))):=by
 intro pins s σ H xs us Q I r h;obtain⟨a,kvs,rfl,ha,q⟩:=h;obtain⟨u,rfl,ru⟩:=Qo r;cases (show u=Value.ref a from ru)
 exact zdk I ha fun p s' hp I'=>⟨.ref p,_,I',rfl,q p hp⟩
end L2
namespace G
open PySem PySem.Spec PyProof.Rows L2
noncomputable def L4:List Int:=[0,1,2,3,4,5,6,7,8,9,10,0,0,0,1,1,1,2,2,0,1,3]
inductive Cy(K:PySem.W.Frag)(vs:List V)(H:Hp)(Q:VK)(_:XK):Prop where
 | mk(b:Addr)(ns:List Int)(_:vs=[.ref b])(_:SqL K H b (ns.map V.int))(_:∀ (q:Nat) H',q=(L4.getD (Xg ns 1%22).toNat 0).toNat->q<=10->Same H H'->Q (.int q) H')
noncomputable def Qz(ns:List Int):Int:=if Xg ns 0/2%2=0 then 60 else 1+Xg ns 1/22%60
inductive J6(K:PySem.W.Frag)(vs:List V)(H:Hp)(Q:VK)(_:XK):Prop where
 | mk(b:Addr)(ns:List Int)(_:vs=[.ref b])(_:SqL K H b (ns.map V.int))(_:∀ (r:Nat) H',r=(Qz ns).toNat->1<=r->r<=60->Same H H'->Q (.int r) H')
inductive Cz(K:PySem.W.Frag)(vs:List V)(H:Hp)(Q:VK)(_:XK):Prop where
 | mk(b:Addr)(ns:List Int)(k:Nat)(_:vs=[.ref b,.int k])(_:SqL K H b (ns.map V.int))(_:k<ns.length)(_:∀ c H',Same H H'->Q (.int c) H')
structure Ow(H:Hp)(t lc ln:Addr)(cs nu:List Int):Prop where
 tup:H t=some (.tup [.ref lc,.ref ln])
 clubs:H lc=some (.lst (cs.map V.int))
 nums:H ln=some (.lst (nu.map V.int))
 few:3<=cs.length/\cs.length<=10
 cnd:cs.Nodup
 crng:∀ c∈cs,1<=c/\c<=99
 nfew:1<=nu.length/\nu.length<=30
 nnd:nu.Nodup
 nrng:∀ n∈nu,1<=n/\n<=999
theorem Ow.same{H H':Hp}{t lc ln:Addr}{cs nu:List Int}(h:Ow H t lc ln cs nu)(e:Same H H'):Ow H' t lc ln cs nu:=⟨e _ _ h.tup,e _ _ h.clubs,e _ _ h.nums,h.few,h.cnd,h.crng,h.nfew,h.nnd,h.nrng⟩
inductive C0(K:PySem.W.Frag)(vs:List V)(H:Hp)(Q:VK)(_:XK):Prop where
 | mk(b:Addr)(ns:List Int)(cr:Nat)(_:vs=[.ref b,.int cr])(_:SqL K H b (ns.map V.int))(_:1<=cr)(_:cr<=30)(_:∀ t lc ln cs nu H',Ow H' t lc ln cs nu->nu.length=cr->Same H H'->H t=none->H lc=none->H ln=none->Q (.ref t) H')
theorem C2(c:Int){i j:Nat}(hi:i<10)(hj:j<10)(h:Fg c i=Fg c j):i=j:=by
 unfold Fg at h
 have hs:En c=1\/En c=2\/En c=5\/En c=10\/En c=50\/En c=97\/En c=98:=by
  unfold En;have h0:0<=c%7:=by omega
  have h1:c%7<7:=by omega
  generalize c%7=r at h0 h1
  obtain⟨k,rfl⟩:∃ k:Nat,r=k:=⟨r.toNat,by omega⟩
  rw[z1a];have hk:k<7:=by omega
  match k,hk with
  | 0,_=>simp
  | 1,_=>simp
  | 2,_=>simp
  | 3,_=>simp
  | 4,_=>simp
  | 5,_=>simp
  | 6,_=>simp
 generalize c/7=x at h
 rcases hs with e|e|e|e|e|e|e<;>rw[e] at h<;>omega
theorem C3(c:Int){m:Nat}(hm:m<=10):(Qu c m).Nodup:=by
 unfold Qu;rw[z2g,List.pairwise_map];refine List.Pairwise.imp_of_mem (fun {i j} hi hj (hne:i≠j) z=>?_) (z2g.mp List.nodup_range)
 exact hne (C2 c (by have:=z15.mp hi;omega) (by have:=z15.mp hj;omega) z)
theorem zca(c:Int)(m:Nat):∀ n∈Qu c m,1<=n/\n<=99:=fun n hn=>by
 unfold Qu at hn
 obtain⟨j,_,rfl⟩:=z02.mp hn;unfold Fg;omega
theorem C4(c:Int){m:Nat}(hm:m<=40):(Lr c m).Nodup:=by
 unfold Lr;rw[z2g,List.pairwise_map];refine List.Pairwise.imp_of_mem (fun {i j} hi hj (hne:i≠j) z=>?_) (z2g.mp List.nodup_range)
 exact hne (zd2 c (by have:=z15.mp hi;omega) (by have:=z15.mp hj;omega) z)
theorem zcb(c:Int)(m:Nat):∀ n∈Lr c m,1<=n/\n<=999:=fun n hn=>by
 unfold Lr at hn
 obtain⟨j,_,rfl⟩:=z02.mp hn;unfold zbt;omega
inductive Sj where
 | enrol (n g c:Int)|away (i n:Int)|draw (ms:List P3)|close|back
noncomputable def Ti(ok:Addr->Prop)(H:Hp)(t:Addr):Sj->Prop
 | .enrol n g c=>H t=some (.tup [.str "enrol",.int n,.int g,.int c])
 | .away i n=>H t=some (.tup [.str "away",.int i,.int n])
 | .draw ms=>∃ l ts,H t=some (.tup [.str "draw up",.ref l])/\H l=some (.lst ts)/\Yb H ts (ms.map pV)/\ok l
 | .close=>H t=some (.tup [.str "close"])
 | .back=>H t=some (.tup [.str "take back"])
noncomputable def zer(S:Sea):Prop:=∀ s,S.cur=some s->s.ms.length<=20/\Y4 s.may s.gv/\Tg s.may s.gv/\s.may=mayS S s.ms/\s.gaps.length<=S.std.length
noncomputable def L6(S S':Sea):Prop:=∃ d:Tt,S'.std=S.std++[(d,S.cur)]/\zep S' d S.ppl S.out/\S'.len=S.len/\S'.rest=S.rest/\S'.led=S.led/\S'.old=S.old
noncomputable def L7(S:Sea):Sj->Prop
 | .enrol n g c=>S.led.length<S.len/\S.cur=none/\¬ badI n g c/\n∉S.ppl.map (·.1)/\S.ppl.length<30
 | .away i n=>(S.led.length:Int)<i/\i<=S.len/\n∈S.ppl.map (·.1)/\(i,n)∉S.out
 | .draw ms=>S.led.length<S.len/\S.cur=none/\ms.length<=20/\(∀ m∈ms,¬ badM m)/\∀ m∈ms,m.1≠m.2.1
 | .close=>S.led.length<S.len/\S.cur≠none
 | .back=>S.std≠[]
inductive Qa(H':Hp)(S:Sea):Sj->Sea->V->Prop where
 | enrol (n g c:Int):Qa H' S (.enrol n g c) { S with ppl:=S.ppl++[(n,g,c)],std:=S.std++[(((("enrol":Str),n,atV S):Tt),S.cur)] } .non
 | awayN {i n:Int} {l:Addr} (h:S.cur=none\/atV S<i) (hl:H' l=some (.lst [])):Qa H' S (.away i n) (Xx S i n) (.ref l)
 | awayF {n:Int} {s:Zx} {l:Addr} (h:S.cur=some s) (hp:W3 s.gv n=none) (hl:H' l=some (.lst [])):Qa H' S (.away (atV S) n) { Xx S (atV S) n with cur:=some { s with may:=mayS (Xx S (atV S) n) s.ms } } (.ref l)
 | awayC {n:Int} {s:Zx} {p e:Nat} {l:Addr} {us:List V} {st:List (Nat×Option Int)} {w:Option Int} (h:S.cur=some s) (hp:W3 s.gv n=some p) (hl:H' l=some (.lst us)) (tl:Yb H' us (st.map Uy)) (CR:Xs (mayS (Xx S (atV S) n) s.ms) (s.gv.set p .non) p st e w) :
   Qa H' S (.away (atV S) n) { Xx S (atV S) n with cur:=some ⟨s.ms,mayS (Xx S (atV S) n) s.ms,Yw st (s.gv.set p .non),s.gaps++[(n,st)]⟩ } (.ref l)
 | draw {ms:List P3} {gv:List V} {l:Addr} (hl:H' l=some (.lst gv)) (F:Y4 (mayS S ms) gv) (T:Tg (mayS S ms) gv):Qa H' S (.draw ms) (zen S ms gv) (.ref l)
 | close {s:Zx} (h:S.cur=some s):Qa H' S .close (E1 S s) (.int (atV S))
 | back {S0:Sea} {d:Tt} {t:Addr} (h:S.std=S0.std++[(d,S0.cur)]) (ht:H' t=some (.tup (P9 d))) (hs:L6 S0 S):Qa H' S .back S0 (.ref t)
noncomputable def J7(A A':SAd)(H:Hp):Prop:=∃ x,A'={ A with lt:=x }/\(x=A.lt\/H x=none)
inductive zh6(K:PySem.W.Frag)(ca:CA)(vs:List V)(H:Hp)(Q:VK)(_:XK):Prop where
 | mk(A:SAd)(S:Sea)(t:Addr)(d:Sj)(_:vs=[.ref A.p,.ref t])(_:Z0 ca H A S)(_:Ti (·∉A.fp) H t d)(_:L7 S d)(_:zer S)(_:Qy S)(_:S.std.length<100)(_:S.out.length<=100000)(_:2*(tot S.led+1000)<=100000)(_:S.led.length<=1000)(_:S.old.length<=1000)(_:S.len<=1000)(_:(∀ i n,d=.away i n->Yk n))(_:(d=.back->∃ S0,L6 S0 S))(_:∀ v A' S' H',Qa H' S d S' v->Z0 ca H' A' S'->J7 A A' H->FrS A H H'->(∀ l,v=.ref l->(∃ xs,H' l=some (.lst xs))->H l=none)->Q v H')
noncomputable abbrev Xu(b:List Stmt)(i:Nat):Stmt:=b.getD i (.Pass ⟨0,0,0,0⟩)
noncomputable def zf3:Stmt->Expr|.Return (some e) _=>e|_=>.Constant .none 0 ⟨0,0,0,0⟩
noncomputable def stP:Stmt->Pos|.Return _ p=>p|.Assign _ _ p=>p|_=>⟨0,0,0,0⟩
noncomputable def zes:Stmt->List Expr|.Assign ts _ _=>ts|_=>[]
noncomputable def Pu:Stmt->Expr|.Assign _ v _=>v|_=>.Constant .none 0 ⟨0,0,0,0⟩
noncomputable def C5:Expr->Expr|.Subscript a _ _=>a|e=>e
noncomputable def zf4:Expr->Expr|.Subscript _ b _=>b|e=>e
noncomputable def zf5:Expr->Pos|.Subscript _ _ p=>p|_=>⟨0,0,0,0⟩
noncomputable def zcc:Expr->List Expr|.List es _=>es|_=>[]
noncomputable def zcd:Expr->Pos|.List _ p=>p|_=>⟨0,0,0,0⟩
noncomputable def L8:List Int->TA
 | []=>Bz
 | x :: xs=>zgg (tC (.int x)) (L8 xs)
theorem Fx:∀ (xs:List Int) (σ:L2.St) (H:Hp) (Q:List V->Hp->Prop),Q (xs.map V.int) H->L8 xs σ H Q
 | [],_,_,_,h=>h
 | x :: xs,σ,H,Q,h=>Fx xs σ H (fun ys H2=>Q (.int x :: ys) H2) h
structure J8(es:List Expr)(xs:List Int):Prop where
 len:es.length=xs.length
 same:List.zipWith (fun i (e:Expr)=>Expr.Constant (.int i) 0 e.pos) xs es=es
theorem Pl{X:Cx}(xs:List Int){es:List Expr}(h:J8 es xs):PA X es (L8 xs):=by
 obtain⟨h1,h2⟩:=h
 induction xs generalizing es with
 | nil =>
   have:=z2n.mp h1;subst this;exact Zd
 | cons x xs ih =>
   cases es with
   | nil=>cases h1
   | cons e es =>
     rw[List.zipWith_cons_cons] at h2
     obtain⟨e1,e2⟩:=List.cons.inj h2;rw[<- e1];exact Za Zi (ih (Nat.succ.inj h1) e2) rfl
theorem C6(xs:List Int){σ:L2.St}{H:Hp}{Q:VK}(hz:xs.length<=1000)(h:∀ l,H l=none->Q (.ref l) (upd H l (.lst (xs.map V.int)))):B0 (L8 xs) σ H Q:=by
 refine Fx xs σ H _ ⟨?_,h⟩;rw[z0t];exact szN hz
theorem za3{K:PySem.W.Frag}(xs:List Int){ti:TE}{σ:L2.St}{H:Hp}{Q:VK}(hz:xs.length<=1000)(h:∀ l H1,H1 l=some (.lst (xs.map V.int))->Same H H1->H l=none->ti σ H1 fun y H2=>Hq K (.ref l) y H2 Q):tOp (Hq K) (B0 (L8 xs)) ti σ H Q :=
 C6 xs hz fun l hl=>h l _ Zc (Zf hl) hl
theorem zh7{K:PySem.W.Frag}(xs:List Int){ti:TE}{D:S5}{σ:L2.St}{H:Hp}(hz:xs.length<=1000)(h:∀ l H1,H1 l=some (.lst (xs.map V.int))->Same H H1->H l=none->ti σ H1 fun y H2=>Hq K (.ref l) y H2 D.rt):zih (tOp (Hq K) (B0 (L8 xs)) ti) D σ H:=za3 (Q:=D.rt) xs hz h
theorem zh8{K:PySem.W.Frag}(xs:List Int){ti:TE}{i:Nat}{u:TS}{D:S5}{σ:L2.St}{H:Hp}(hz:xs.length<=1000)(h:∀ l H1,H1 l=some (.lst (xs.map V.int))->Same H H1->H l=none->ti σ H1 fun y H2=>Hq K (.ref l) y H2 fun x H3=>u D (σ.set i (some x)) H3):Z2 (Bs (tOp (Hq K) (B0 (L8 xs)) ti) (Wt i)) u D σ H:=za3 xs hz h
theorem C7(xs:List Int){i:Nat}{u:TS}{D:S5}{σ:L2.St}{H:Hp}(hz:xs.length<=1000)(h:∀ l H1,H1 l=some (.lst (xs.map V.int))->Same H H1->H l=none->u D (σ.set i (some (.ref l))) H1):Z2 (Bs (B0 (L8 xs)) (Wt i)) u D σ H :=
 C6 (σ:=σ) (H:=H) (Q:=fun x H3=>u D (σ.set i (some x)) H3) xs hz fun l hl=>h l _ Zc (Zf hl) hl
theorem C8{a:Str}:decide (V.str a=V.str a)=true:=z01 rfl
theorem Rj{a b:Str}(h:decide (a=b)=false):decide (V.str a=V.str b)=false:=z07 fun z=>of_decide_eq_false h (V.str.inj z)
theorem J7.refl(A:SAd)(H:Hp):J7 A A H:=⟨A.lt,rfl,.inl rfl⟩
noncomputable abbrev zh9:=List (Int×List (Nat×Option Int))
structure Pg where
 len:Nat
 rest:Nat
 ppl:RL
 out:List (Int×Int)
 over:List Zx
 deed:Option Tt
 lis:Option (List P3)
 gv:List V
 mv:zh9
noncomputable def pgF(len rest:Nat)(lp lo lv:Addr)(dv li:V)(lg lm:Addr):List (Key×V):=[(.inr "rounds",.int len),(.inr "rest",.int rest),(.inr "people",.ref lp),(.inr "out",.ref lo),(.inr "over",.ref lv),(.inr "deed",dv),(.inr "listed",li),(.inr "goes",.ref lg),(.inr "moves",.ref lm)]
noncomputable def oiV(x:Int×Int):List V:=[.int x.1,.int x.2]
noncomputable def Mz(ok:Addr->Prop)(H:Hp)(v:V):Option (List P3)->Prop
 | none=>v=.non
 | some ms=>∃ l ts,v=.ref l/\H l=some (.lst ts)/\Yb H ts (ms.map pV)/\ok l
noncomputable def C9(H:Hp)(v:V):Option Tt->Prop
 | none=>v=.non
 | some d=>∃ t,v=.ref t/\H t=some (.tup (P9 d))
inductive Xn(ok:Addr->Prop)(H:Hp):List V->List Zx->Prop where
 | nil:Xn ok H [] []
 | cons {t l g m y:Addr} {ts mts:List V} {ls:List Addr} {s:Zx} {vs:List V} {ss:List Zx} (h:H t=some (.tup [.ref l,.ref g,.ref m,.ref y])) (hl:H l=some (.lst ts)) (tl:Yb H ts (s.ms.map pV)) (hg:H g=some (.lst s.gv)) (hm:H m=some (.lst mts)) (gm:Wz ok H mts s.gaps)
   (hy:H y=some (.lst (ls.map V.ref))) (iy:ILs H ls s.may) (o:ok l/\ok g/\ok m/\ok y/\∀ x∈ls,ok x) (r:Xn ok H vs ss):Xn ok H (.ref t :: vs) (s :: ss)
theorem Mz.keep{ok:Addr->Prop}{H H':Hp}{v:V}{x:Option (List P3)}(h:Mz ok H v x)(k:∀ x o,ok x->H x=some o->H' x=some o)(kt:∀ t xs,H t=some (.tup xs)->H' t=some (.tup xs)):Mz ok H' v x:=by
 cases x with
 | none=>exact h
 | some ms=>obtain⟨l,ts,e,a,b,o⟩:=h;exact⟨l,ts,e,k _ _ o a,b.mono kt,o⟩
theorem Mz.imp{ok ok':Addr->Prop}{H:Hp}{v:V}{x:Option (List P3)}(h:Mz ok H v x)(k:∀ x,(∃ o,H x=some o)->ok x->ok' x):Mz ok' H v x:=by
 cases x with
 | none=>exact h
 | some ms=>obtain⟨l,ts,e,a,b,o⟩:=h;exact⟨l,ts,e,a,b,k _ ⟨_,a⟩ o⟩
theorem C9.keep{H H':Hp}{v:V}{x:Option Tt}(h:C9 H v x)(kt:∀ t xs,H t=some (.tup xs)->H' t=some (.tup xs)):C9 H' v x:=by
 cases x with
 | none=>exact h
 | some d=>obtain⟨t,e,a⟩:=h;exact⟨t,e,kt _ _ a⟩
theorem Xn.keep{ok:Addr->Prop}{H H':Hp}(k:∀ x o,ok x->H x=some o->H' x=some o)(kt:∀ t xs,H t=some (.tup xs)->H' t=some (.tup xs)):∀ {vs:List V} {ss:List Zx},Xn ok H vs ss->Xn ok H' vs ss
 | _,_,.nil=>.nil
 | _,_,.cons h hl tl hg hm gm hy iy o r=>.cons (kt _ _ h) (k _ _ o.1 hl) (tl.mono kt) (k _ _ o.2.1 hg) (k _ _ o.2.2.1 hm) (gm.keep k kt) (k _ _ o.2.2.2.1 hy) (iy.keep fun x hx _ q=>k _ _ (o.2.2.2.2 x hx) q) o (Xn.keep k kt r)
theorem Xn.imp{ok ok':Addr->Prop}{H:Hp}(k:∀ x,(∃ o,H x=some o)->ok x->ok' x):∀ {vs:List V} {ss:List Zx},Xn ok H vs ss->Xn ok' H vs ss
 | _,_,.nil=>.nil
 | _,_,.cons h hl tl hg hm gm hy iy o r=>.cons h hl tl hg hm (gm.imp k) hy iy ⟨k _ ⟨_,hl⟩ o.1,k _ ⟨_,hg⟩ o.2.1,k _ ⟨_,hm⟩ o.2.2.1,k _ ⟨_,hy⟩ o.2.2.2.1,fun x hx=>k _ (let ⟨_,z⟩:=iy.has hx;⟨_,z⟩) (o.2.2.2.2 x hx)⟩ (Xn.imp k r)
theorem Xn.length{ok:Addr->Prop}{H:Hp}:∀ {vs:List V} {ss:List Zx},Xn ok H vs ss->vs.length=ss.length
 | _,_,.nil=>rfl
 | _,_,.cons _ _ _ _ _ _ _ _ _ r=>by simp[Xn.length r]
theorem Xn.snoc{ok:Addr->Prop}{H:Hp}{t l g m y:Addr}{ts mts:List V}{ls:List Addr}{s:Zx}(h:H t=some (.tup [.ref l,.ref g,.ref m,.ref y]))(hl:H l=some (.lst ts))(tl:Yb H ts (s.ms.map pV))(hg:H g=some (.lst s.gv))(hm:H m=some (.lst mts))(gm:Wz ok H mts s.gaps)
   (hy:H y=some (.lst (ls.map V.ref))) (iy:ILs H ls s.may) (o:ok l/\ok g/\ok m/\ok y/\∀ x∈ls,ok x):∀ {vs:List V} {ss:List Zx},Xn ok H vs ss->Xn ok H (vs++[.ref t]) (ss++[s])
 | _,_,.nil=>.cons h hl tl hg hm gm hy iy o .nil
 | _,_,.cons h' hl' tl' hg' hm' gm' hy' iy' o' r=>.cons h' hl' tl' hg' hm' gm' hy' iy' o' (Xn.snoc h hl tl hg hm gm hy iy o r)
theorem Xn.get{ok:Addr->Prop}{H:Hp}:∀ {vs:List V} {ss:List Zx} {i:Nat} {x:V},Xn ok H vs ss->vs[i]?=some x->∃ t l g m y ts s,x=.ref t/\ss[i]?=some s/\H t=some (.tup [.ref l,.ref g,.ref m,.ref y])/\H l=some (.lst ts)/\Yb H ts (s.ms.map pV)/\H g=some (.lst s.gv)/\ok l/\ok g
 | _,_,_,_,.nil,e=>by simp at e
 | _,_,0,_,.cons h hl tl hg _ _ _ _ o _,e=>by simp at e;subst e;exact⟨_,_,_,_,_,_,_,rfl,rfl,h,hl,tl,hg,o.1,o.2.1⟩
 | _,_,i+1,x,.cons _ _ _ _ _ _ _ _ _ r,e=>by
   obtain⟨t,l,g,m,y,ts,s,h1,h2,h3⟩:=Xn.get (i:=i) (x:=x) r (by simpa using e)
   exact⟨t,l,g,m,y,ts,s,h1,by simpa using h2,h3⟩
structure PgAt(ok:Addr->Prop)(H:Hp)(d:Addr)(P:Pg):Prop where
 ex:∃ lp lo lv dv li lg lm pts ots vts mts,H d=some (.dK (pgF P.len P.rest lp lo lv dv li lg lm))/\H lp=some (.lst pts)/\Yb H pts (P.ppl.map pV)/\H lo=some (.lst ots)/\Yb H ots (P.out.map oiV)/\H lv=some (.lst vts)/\Xn ok H vts P.over/\C9 H dv P.deed/\Mz ok H li P.lis/\H lg=some (.lst P.gv)/\H lm=some (.lst mts)/\Wz ok H mts P.mv /\
  (ok d/\ok lp/\ok lo/\ok lv/\ok lg/\ok lm)
theorem PgAt.keep{ok:Addr->Prop}{H H':Hp}{d:Addr}{P:Pg}(h:PgAt ok H d P)(k:∀ x o,ok x->H x=some o->H' x=some o)(kt:∀ t xs,H t=some (.tup xs)->H' t=some (.tup xs)):PgAt ok H' d P:=by
 obtain⟨lp,lo,lv,dv,li,lg,lm,pts,ots,vts,mts,a1,a2,a3,a4,a5,a6,a7,a8,a9,b1,b2,b3,o1,o2,o3,o4,o5,o6⟩:=h;exact⟨lp,lo,lv,dv,li,lg,lm,pts,ots,vts,mts,k _ _ o1 a1,k _ _ o2 a2,a3.mono kt,k _ _ o3 a4,a5.mono kt,k _ _ o4 a6,a7.keep k kt,a8.keep kt,a9.keep k kt,k _ _ o5 b1,k _ _ o6 b2,b3.keep k kt,o1,o2,o3,o4,o5,o6⟩
theorem PgAt.imp{ok ok':Addr->Prop}{H:Hp}{d:Addr}{P:Pg}(h:PgAt ok H d P)(k:∀ x,(∃ o,H x=some o)->ok x->ok' x):PgAt ok' H d P:=by
 obtain⟨lp,lo,lv,dv,li,lg,lm,pts,ots,vts,mts,a1,a2,a3,a4,a5,a6,a7,a8,a9,b1,b2,b3,o1,o2,o3,o4,o5,o6⟩:=h;exact⟨lp,lo,lv,dv,li,lg,lm,pts,ots,vts,mts,a1,a2,a3,a4,a5,a6,a7.imp k,a8,a9.imp k,b1,b2,b3.imp k,k _ ⟨_,a1⟩ o1,k _ ⟨_,a2⟩ o2,k _ ⟨_,a4⟩ o3,k _ ⟨_,a6⟩ o4,k _ ⟨_,b1⟩ o5,k _ ⟨_,b2⟩ o6⟩
theorem PgAt.same{ok:Addr->Prop}{H H':Hp}{d:Addr}{P:Pg}(h:PgAt ok H d P)(e:Same H H'):PgAt ok H' d P:=h.keep (fun _ _ _ q=>e _ _ q) fun _ _ q=>e _ _ q
section
variable{len rest:Nat}{lp lo lv lg lm:Addr}{dv li:V}
theorem Am{x:Addr}:putK (pgF len rest lp lo lv dv li lg lm) (.inr "people") (.ref x)=pgF len rest x lo lv dv li lg lm:=rfl
theorem zf6{x:Addr}:putK (pgF len rest lp lo lv dv li lg lm) (.inr "out") (.ref x)=pgF len rest lp x lv dv li lg lm:=rfl
theorem zet{x:Addr}:putK (pgF len rest lp lo lv dv li lg lm) (.inr "over") (.ref x)=pgF len rest lp lo x dv li lg lm:=rfl
theorem J9{v:V}:putK (pgF len rest lp lo lv dv li lg lm) (.inr "deed") v=pgF len rest lp lo lv v li lg lm:=rfl
theorem Ia{v:V}:putK (pgF len rest lp lo lv dv li lg lm) (.inr "listed") v=pgF len rest lp lo lv dv v lg lm:=rfl
theorem Ba{x:Addr}:putK (pgF len rest lp lo lv dv li lg lm) (.inr "goes") (.ref x)=pgF len rest lp lo lv dv li x lm:=rfl
theorem zce{x:Addr}:putK (pgF len rest lp lo lv dv li lg lm) (.inr "moves") (.ref x)=pgF len rest lp lo lv dv li lg x:=rfl
end
theorem zeu{len rest:Nat}{lp lo lv lg lm:Addr}{dv li:V}:(pgF len rest lp lo lv dv li lg lm).length<sizeLine:=by rw[sizeLine_eq];show 9<_;decide
noncomputable def pg6(len rest:Nat)(lp lo lv:Addr)(dv:V):List (Key×V):=[(.inr "rounds",.int len),(.inr "rest",.int rest),(.inr "people",.ref lp),(.inr "out",.ref lo),(.inr "over",.ref lv),(.inr "deed",dv)]
theorem zcf{len rest:Nat}{lp lo lv:Addr}{dv:V}:Rt [] (pg6 len rest lp lo lv dv)=pg6 len rest lp lo lv dv:=rfl
theorem zf7{len rest:Nat}{lp lo lv:Addr}{dv x y z:V}:putK (putK (putK (pg6 len rest lp lo lv dv) (.inr "listed") x) (.inr "goes") y) (.inr "moves") z=pg6 len rest lp lo lv dv++[(.inr "listed",x),(.inr "goes",y),(.inr "moves",z)]:=rfl
theorem M0{len rest:Nat}{lp lo lv:Addr}{dv x y:V}:(pg6 len rest lp lo lv dv).length<sizeLine/\(putK (pg6 len rest lp lo lv dv) (.inr "listed") x).length<sizeLine/\(putK (putK (pg6 len rest lp lo lv dv) (.inr "listed") x) (.inr "goes") y).length<sizeLine:=by
 rw[sizeLine_eq];exact⟨by show 6<_;decide,by show 7<_;decide,by show 8<_;decide⟩
noncomputable def An(r q:Nat):Pg:=⟨r,q,[],[],[],none,none,[],[]⟩
inductive za4(vs:List V)(H:Hp)(Q:VK)(_:XK):Prop where
 | mk(r q:Nat)(_:vs=[.int r,.int q])(_:∀ d H',PgAt (fun x=>H x=none) H' d (An r q)->Same H H'->H d=none->Q (.ref d) H')
noncomputable def Ox(P:Pg):Prop:=P.over.length<=100/\P.rest<=100/\∀ s∈P.over,s.ms.length<=20/\s.gv.length=s.ms.length/\∀ x∈s.gv,oneV x
noncomputable def za5(kvs:List (List Key×V))(P:Pg):Prop:=∀ n c:Int,(valV kvs [Sum.inl n,Sum.inl c]).isSome=Sm (P.over.map Z3) n c P.rest
inductive za6(K:PySem.W.Frag)(vs:List V)(H:Hp)(Q:VK)(_:XK):Prop where
 | mk(ok:Addr->Prop)(d:Addr)(P:Pg)(_:vs=[.ref d])(_:PgAt ok H d P)(_:Ox P)(_:∀ m kvs H',H' m=some (.dT kvs)->za5 kvs P->Same H H'->H m=none->Q (.ref m) H')
theorem Bb(xs:List V)(n r:Nat):Ho xs (some (if ((n:Int)-r)>0 then (n:Int)-r else 0)) none=xs.drop ((n:Int)-r).toNat:=by
 have e:(if ((n:Int)-r)>0 then (n:Int)-r else 0)=((((n:Int)-r).toNat:Nat):Int):=by split<;>omega
 rw[e];exact zb0 xs _
theorem Xn.drop{ok:Addr->Prop}{H:Hp}:∀ (k:Nat) {vs:List V} {ss:List Zx},Xn ok H vs ss->Xn ok H (vs.drop k) (ss.drop k)
 | 0,_,_,h=>h
 | _+1,_,_,.nil=>.nil
 | k+1,_,_,.cons _ _ _ _ _ _ _ _ _ r=>Xn.drop k r
noncomputable def HitI(ss:List Zx)(i j:Nat)(n c:Int):Prop:=(∃ s∈ss.take i,∃ r∈Z3 s,hit n c r=true)\/∃ s,ss[i]?=some s/\∃ r∈(Z3 s).take j,hit n c r=true
noncomputable def Q0(kvs:List (List Key×V))(ss:List Zx)(i j:Nat):Prop:=∀ n c:Int,(valV kvs [Sum.inl n,Sum.inl c]).isSome=true↔HitI ss i j n c
theorem Y8{α:Type}{l:List α}{j:Nat}{x:α}(h:l[j]?=some x):l.take (j+1)=l.take j++[x]:=by rw[z2a,h];rfl
theorem Q0.zero(ss:List Zx):Q0 [] ss 0 0:=fun n c=>by
 unfold HitI;simp[zdd]
theorem Q0.next{kvs:List (List Key×V)}{ss:List Zx}{i:Nat}{s:Zx}(h:Q0 kvs ss i (Z3 s).length)(hs:ss[i]?=some s):Q0 kvs ss (i+1) 0:=fun n c=>by
 rw[h n c];unfold HitI;rw[Y8 hs,hs];constructor
 ·rintro(⟨s',h1,h2⟩|⟨s',h1,r,h2,h3⟩)
  ·exact .inl ⟨s',z1m _ h1,h2⟩
  ·cases h1
   exact .inl ⟨s,z1f _ (z2o _),r,List.mem_of_mem_take h2,h3⟩
 ·rintro(⟨s',h1,r,h2,h3⟩|⟨s',h1,r,h2,h3⟩)
  ·rcases z06.mp h1 with h1|h1
   ·exact .inl ⟨s',h1,r,h2,h3⟩
   ·cases z0z.mp h1
    exact .inr ⟨_,rfl,r,by rw[z1b];exact h2,h3⟩
  ·simp at h2
theorem HitI.succ{ss:List Zx}{i j:Nat}{n c:Int}{s:Zx}{r:Row}(hs:ss[i]?=some s)(hr:(Z3 s)[j]?=some r):HitI ss i (j+1) n c↔HitI ss i j n c\/hit n c r=true:=by
 unfold HitI;rw[hs];constructor
 ·rintro(z|⟨s',h1,r',h2,h3⟩)
  ·exact .inl (.inl z)
  ·cases h1
   rw[Y8 hr] at h2
   rcases z06.mp h2 with h2|h2
   ·exact .inl (.inr ⟨_,rfl,r',h2,h3⟩)
   ·cases z0z.mp h2;exact .inr h3
 ·rintro((z|⟨s',h1,r',h2,h3⟩)|z)
  ·exact .inl z
  ·cases h1
   exact .inr ⟨_,rfl,r',by rw[Y8 hr];exact z1m _ h2,h3⟩
  ·exact .inr ⟨_,rfl,r,by rw[Y8 hr];exact z1f _ (z2o _),z⟩
theorem Q0.none{kvs:List (List Key×V)}{ss:List Zx}{i j:Nat}{s:Zx}{r:Row}(h:Q0 kvs ss i j)(hs:ss[i]?=some s)(hr:(Z3 s)[j]?=some r)(hw:r.w=none):Q0 kvs ss i (j+1):=fun n c=>by
 rw[h n c,HitI.succ hs hr];unfold hit;rw[hw];simp
theorem Q0.some{kvs:List (List Key×V)}{ss:List Zx}{i j:Nat}{s:Zx}{r:Row}{w:Int}{v v':V}(h:Q0 kvs ss i j)(hs:ss[i]?=some s)(hr:(Z3 s)[j]?=some r)(hw:r.w=some w):Q0 (putK (putK kvs [Sum.inl w,Sum.inl r.h] v) [Sum.inl w,Sum.inl r.g] v') ss i (j+1):=fun n c=>by
 rw[HitI.succ hs hr,<- h n c,V2,V2];unfold hit;rw[hw];by_cases e1:([Sum.inl n,Sum.inl c]:List Key)=[Sum.inl w,Sum.inl r.g]
 ·rw[if_pos e1]
  have:=e1;simp at this
  obtain⟨rfl,rfl⟩:=this;simp
 ·rw[if_neg e1]
  by_cases e2:([Sum.inl n,Sum.inl c]:List Key)=[Sum.inl w,Sum.inl r.h]
  ·rw[if_pos e2]
   have:=e2;simp at this
   obtain⟨rfl,rfl⟩:=this;simp
  ·rw[if_neg e2]
   constructor
   ·exact .inl
   ·rintro(z|z)
    ·exact z
    ·exfalso
     simp at z e1 e2
     obtain⟨z1,z2|z2⟩:=z
     ·exact e2 z1.symm z2.symm
     ·exact e1 z1.symm z2.symm
theorem Q0.all{kvs:List (List Key×V)}{P:Pg}{k:Nat}(h:Q0 kvs (P.over.drop k) (P.over.drop k).length 0)(hk:k=((P.over.length:Int)-P.rest).toNat):za5 kvs P:=fun n c=>by
 apply z22.mpr;rw[h n c,zbz (Int.natCast_nonneg _),z0t,<- hk,<- List.map_drop];unfold HitI;rw[z1b];constructor
 ·rintro(⟨s,h1,h2⟩|⟨s,h1,r,h2,_⟩)
  ·exact⟨Z3 s,z02.mpr ⟨s,h1,rfl⟩,h2⟩
  ·simp at h2
 ·rintro⟨rs,h1,h2⟩
  obtain⟨s,h3,rfl⟩:=z02.mp h1;exact .inl ⟨s,h3,h2⟩
end G

namespace L2
open PySem PySem.Spec PyProof.Rows G
noncomputable def Uz(x:Int×Int):Dt:=.tup [.int x.1,.int x.2]
theorem Ib{K:PySem.W.Frag}{H:Hp}:∀ {ts:List V} {ps:List (Int×Int)},Yb H ts (ps.map oiV)->Wn K H ts (ps.map Uz)
 | _,[],h=>by cases h;exact .nil
 | _,p :: ps,h=>by
   rw[z04] at h
   cases h with
   | cons e r=>exact .cons (.tup (SqT.of e) (.cons (.int _) (.cons (.int _) .nil))) (Ib r)
theorem M3:∀ ps:List (Int×Int),PyData.canLayAll0 (Wd (ps.map Uz))=true
 | []=>rfl
 | p :: ps=>by
   rw[z04,Wd,PyData.canLayAll0,M3 ps];rfl
theorem M4{a b:Int}:∀ ps:List (Int×Int),((Wd (ps.map Uz)).any fun y=>PyData.eqv y (toPy (Uz (a,b))))=decide ((a,b)∈ps)
 | []=>by simp[Wd]
 | p :: ps=>by
   rw[z04,Wd,z2t,M4 ps,Nh];obtain⟨p1,p2⟩:=p;have e:eqD (Uz (p1,p2)) (Uz (a,b))=decide ((a,b)=(p1,p2)):=by
    rw[Uz,Uz,eqD,Pt,Pt,Pt,eqD,eqD];by_cases h1:p1=a
    ·by_cases h2:p2=b
     ·subst h1;subst h2;simp
     ·rw[z07 (fun z=>h2 (Prod.mk.inj z).2.symm)]
      simp[h2]
    ·rw[z07 (fun z=>h1 (Prod.mk.inj z).1.symm)]
     simp[h1]
   rw[e,<- Bool.decide_or];exact decide_eq_decide.mpr z00.symm
inductive zf8(K:PySem.W.Frag)(neg:Bool)(x:V)(y:V)(H:Hp)(Q:VK):Prop where
 | mk(t p:Addr)(ts:List V)(a b:Int)(ps:List (Int×Int))(_:x=.ref t)(_:y=.ref p)(_:SqT K H t [.int a,.int b])(_:SqL K H p ts)(_:Yb H ts (ps.map oiV))(_:Q (.bl (if neg then !decide ((a,b)∈ps) else decide ((a,b)∈ps))) H)
section
variable{X:Cx}{K:PySem.W.Frag}
theorem Bc(hu:X.A.units+64<cLine):OpR X (compareOp .In) (zf8 X.K false):=by
 intro pins s σ H x y v u Q I rx ry h;obtain⟨t,p,ts,a,b,ps,rfl,rfl,ht,hp,tl,q⟩:=h;obtain⟨as,r1⟩:=Is.reads I (Is.tup ht (.cons (.int a) (.cons (.int b) .nil)):Is X.K H (.ref t) (Uz (a,b))) rx;have r1:Reads s.heap v (toPy (Uz (a,b))) as:=r1;obtain⟨bs,r2⟩:=Is.reads I (Is.lst hp (Ib tl)) ry;rw[toPy] at r2
 have hd:(toPy (Uz (a,b))).depth=1:=rfl;refine SeqAt.in_list_reads r2 r1 (M3 ps) rfl ?_ ?_
 ·have:=Nat.min_le_right (PyData.depthAll (Wd (ps.map Uz))) (toPy (Uz (a,b))).depth
  rw[hd] at this ⊢
  omega
 ·rw[M4];exact⟨.bl _,H,I,rfl,q⟩
theorem Ie(hu:X.A.units+64<cLine):OpR X (compareOp .NotIn) (zf8 X.K true):=by
 intro pins s σ H x y v u Q I rx ry h;obtain⟨t,p,ts,a,b,ps,rfl,rfl,ht,hp,tl,q⟩:=h;obtain⟨as,r1⟩:=Is.reads I (Is.tup ht (.cons (.int a) (.cons (.int b) .nil)):Is X.K H (.ref t) (Uz (a,b))) rx;have r1:Reads s.heap v (toPy (Uz (a,b))) as:=r1;obtain⟨bs,r2⟩:=Is.reads I (Is.lst hp (Ib tl)) ry;rw[toPy] at r2
 have hd:(toPy (Uz (a,b))).depth=1:=rfl;refine SeqAt.notIn_list_reads r2 r1 (M3 ps) rfl ?_ ?_
 ·have:=Nat.min_le_right (PyData.depthAll (Wd (ps.map Uz))) (toPy (Uz (a,b))).depth
  rw[hd] at this ⊢
  omega
 ·rw[M4];exact⟨.bl _,H,I,rfl,q⟩
theorem E2(hK:X.K=K)(hu:X.A.units+64<cLine):OpR X (compareOp .In) (zf8 K false):=hK▸Bc hu
theorem Kj(hK:X.K=K)(hu:X.A.units+64<cLine):OpR X (compareOp .NotIn) (zf8 K true):=hK▸Ie hu
end
end L2

namespace G
open PySem PySem.Spec PyProof.Rows L2
noncomputable def Vx(P:Pg)(x m:P3):List Str:=whyS (P.over.map Z3) x.1 x.2.1 x.2.2 m.1 m.2.1 m.2.2 (decide (((P.over.length:Int)+1,x.1)∈P.out)) P.rest
inductive Ig(K:PySem.W.Frag)(vs:List V)(H:Hp)(Q:VK)(_:XK):Prop where
 | mk(ok:Addr->Prop)(d m t1 t2:Addr)(P:Pg)(kvs:List (List Key×V))(x y:P3)(_:vs=[.ref d,.ref m,.ref t1,.ref t2])(_:PgAt ok H d P)(_:H m=some (.dT kvs))(_:za5 kvs P)(_:H t1=some (.tup (pV x)))(_:H t2=some (.tup (pV y)))(_:∀ l H',H' l=some (.lst ((Vx P x y).map V.str))->Same H H'->H l=none->Q (.ref l) H')
noncomputable def Qh(P:Pg)(ms:List P3):List (List Int):=ms.map fun m=>(P.ppl.filter fun x=>(Vx P x m).isEmpty).map (·.1)
theorem zcg{P:Pg}{S:Sea}(h1:P.ppl=S.ppl)(h2:P.over.map Z3=S.led)(h3:P.out=S.out)(h4:P.rest=S.rest)(h5:((P.over.length:Int)+1)=atV S)(ms:List P3):Qh P ms=mayS S ms:=by
 unfold Qh mayS;refine z2z fun m _=>?_
 unfold mayM Vx pIn;rw[h1,h2,h3,h4,h5]
inductive Ao(K:PySem.W.Frag)(vs:List V)(H:Hp)(Q:VK)(_:XK):Prop where
 | mk(ok:Addr->Prop)(d:Addr)(P:Pg)(ms:List P3)(_:vs=[.ref d])(_:PgAt ok H d P)(_:Ox P)(_:P.lis=some ms)(_:ms.length<=100)(_:P.ppl.length<=100)(_:∀ l ls H',H' l=some (.lst (ls.map V.ref))->ILs H' ls (Qh P ms)->Same H H'->H l=none->(∀ x∈ls,H x=none)->Q (.ref l) H')
theorem za7(r:List Str)(ok:∀ w∈r,PyData.strOk w=true):shD (.lst (r.map Dt.str)):=by
 have h:PyData.canLayAll0 (Wd (r.map Dt.str))=true/\PyData.depthAll (Wd (r.map Dt.str))<=1:=by
  induction r with
  | nil=>exact⟨rfl,by decide⟩
  | cons x r ih =>
    obtain⟨h1,h2⟩:=ih fun w hw=>ok w (z1e _ hw)
    have h0:=ok x (z1o);refine⟨?_,?_⟩
    ·rw[z04,Wd,PyData.canLayAll0,h1];simp[toPy,PyData.canLay0,h0]
    ·rw[z04,Wd,PyData.depthAll]
     have:PyData.depth (toPy (Dt.str x))<=1:=by simp[toPy,PyData.depth]
     omega
 unfold shD SeqAt.shaped;rw[toPy,PyData.canLay0,h.1,Bool.true_and];refine z01 ?_;rw[PyData.depth];have:=h.2;omega
theorem Oy{K:PySem.W.Frag}{H:Hp}:∀ ws:List Str,Wn K H (ws.map V.str) (ws.map Dt.str)
 | []=>.nil
 | w :: ws=>.cons (.str w) (Oy ws)
theorem zia{b:Bool}{w x:Str}(h:x∈bw b w):x=w:=by
 cases b<;>simp[bw] at h;exact h
theorem za8{Rs:List (List Row)}{n g c h gu d:Int}{o:Bool}{rest:Int}:∀ w∈whyS Rs n g c h gu d o rest,PyData.strOk w=true:=fun w hw=>by
 unfold whyS at hw
 simp only[z06] at hw
 rcases hw with z|z|z|z<;>rw[zia z]<;>decide +kernel
noncomputable def Xt(H H':Hp):Prop:=(∀ x ys,H x=some (.lst ys)->H' x=some (.lst ys))/\∀ x ys,H x=some (.tup ys)->H' x=some (.tup ys)
theorem Xt.dict{H:Hp}{d:Addr}{kvs kvs':List (Key×V)}(h:H d=some (.dK kvs)):Xt H (upd H d (.dK kvs')) :=
 ⟨fun x ys e=>by rw[Zh (Yt e h (by intro z;cases z))];exact e,fun x ys e=>by rw[Zh (Yt e h (by intro z;cases z))];exact e⟩
theorem Xt.trans{H H' H'':Hp}(a:Xt H H')(b:Xt H' H''):Xt H H'':=⟨fun x ys e=>b.1 _ _ (a.1 _ _ e),fun x ys e=>b.2 _ _ (a.2 _ _ e)⟩
theorem Xt.of{H H':Hp}(e:Same H H'):Xt H H':=⟨fun x ys z=>e _ _ z,fun x ys z=>e _ _ z⟩
theorem Wz.keepL{ok:Addr->Prop}{H H':Hp}(k:Xt H H'):∀ {ts:List V} {G:zh9},Wz ok H ts G->Wz ok H' ts G
 | _,_,.nil=>.nil
 | _,_,.cons h hl tl o r=>.cons (k.2 _ _ h) (k.1 _ _ hl) (tl.mono k.2) o (Wz.keepL k r)
theorem ILs.keepL{H H':Hp}(k:Xt H H'):∀ {ls:List Addr} {R:List (List Int)},ILs H ls R->ILs H' ls R
 | _,_,.nil=>.nil
 | _,_,.cons h n=>.cons (k.1 _ _ h) (ILs.keepL k n)
theorem Mz.keepL{ok:Addr->Prop}{H H':Hp}{v:V}{x:Option (List P3)}(k:Xt H H')(h:Mz ok H v x):Mz ok H' v x:=by
 cases x with
 | none=>exact h
 | some ms=>obtain⟨l,ts,e,a,b,o⟩:=h;exact⟨l,ts,e,k.1 _ _ a,b.mono k.2,o⟩
theorem Xn.keepL{ok:Addr->Prop}{H H':Hp}(k:Xt H H'):∀ {vs:List V} {ss:List Zx},Xn ok H vs ss->Xn ok H' vs ss
 | _,_,.nil=>.nil
 | _,_,.cons h hl tl hg hm gm hy iy o r=>.cons (k.2 _ _ h) (k.1 _ _ hl) (tl.mono k.2) (k.1 _ _ hg) (k.1 _ _ hm) (gm.keepL k) (k.1 _ _ hy) (ILs.keepL k iy) o (Xn.keepL k r)
structure PgB(ok:Addr->Prop)(H:Hp)(P:Pg)(lp lo lv:Addr)(dv li:V)(lg lm:Addr):Prop where
 pp:∃ pts,H lp=some (.lst pts)/\Yb H pts (P.ppl.map pV)/\ok lp
 oo:∃ ots,H lo=some (.lst ots)/\Yb H ots (P.out.map oiV)/\ok lo
 vv:∃ vts,H lv=some (.lst vts)/\Xn ok H vts P.over/\ok lv
 dd:C9 H dv P.deed
 li:Mz ok H li P.lis
 gg:H lg=some (.lst P.gv)/\ok lg
 mm:∃ mts,H lm=some (.lst mts)/\Wz ok H mts P.mv/\ok lm
theorem PgB.keepL{ok:Addr->Prop}{H H':Hp}{P:Pg}{lp lo lv:Addr}{dv li:V}{lg lm:Addr}(h:PgB ok H P lp lo lv dv li lg lm)(k:Xt H H'):PgB ok H' P lp lo lv dv li lg lm:=by
 obtain⟨⟨p1,p2,p3,p4⟩,⟨o1,o2,o3,o4⟩,⟨v1,v2,v3,v4⟩,dd,li,⟨g1,g2⟩,m1,m2,m3,m4⟩:=h;exact⟨⟨p1,k.1 _ _ p2,p3.mono k.2,p4⟩,⟨o1,k.1 _ _ o2,o3.mono k.2,o4⟩,⟨v1,k.1 _ _ v2,v3.keepL k,v4⟩,dd.keep k.2,li.keepL k,⟨k.1 _ _ g1,g2⟩,m1,k.1 _ _ m2,m3.keepL k,m4⟩
theorem PgB.imp{ok ok':Addr->Prop}{H:Hp}{P:Pg}{lp lo lv:Addr}{dv li:V}{lg lm:Addr}(h:PgB ok H P lp lo lv dv li lg lm)(k:∀ x,(∃ o,H x=some o)->ok x->ok' x):PgB ok' H P lp lo lv dv li lg lm:=by
 obtain⟨⟨p1,p2,p3,p4⟩,⟨o1,o2,o3,o4⟩,⟨v1,v2,v3,v4⟩,dd,li,⟨g1,g2⟩,m1,m2,m3,m4⟩:=h;exact⟨⟨p1,p2,p3,k _ ⟨_,p2⟩ p4⟩,⟨o1,o2,o3,k _ ⟨_,o2⟩ o4⟩,⟨v1,v2,v3.imp k,k _ ⟨_,v2⟩ v4⟩,dd,li.imp k,⟨g1,k _ ⟨_,g1⟩ g2⟩,m1,m2,m3.imp k,k _ ⟨_,m2⟩ m4⟩
theorem PgAt.split{ok:Addr->Prop}{H:Hp}{d:Addr}{P:Pg}(h:PgAt ok H d P):∃ lp lo lv dv li lg lm,H d=some (.dK (pgF P.len P.rest lp lo lv dv li lg lm))/\PgB ok H P lp lo lv dv li lg lm/\ok d:=by
 obtain⟨lp,lo,lv,dv,li,lg,lm,pts,ots,vts,mts,a1,a2,a3,a4,a5,a6,a7,a8,a9,b1,b2,b3,o1,o2,o3,o4,o5,o6⟩:=h;exact⟨lp,lo,lv,dv,li,lg,lm,a1,⟨⟨_,a2,a3,o2⟩,⟨_,a4,a5,o3⟩,⟨_,a6,a7,o4⟩,a8,a9,⟨b1,o5⟩,_,b2,b3,o6⟩,o1⟩
theorem PgAt.join{ok:Addr->Prop}{H:Hp}{d:Addr}{P:Pg}{lp lo lv:Addr}{dv li:V}{lg lm:Addr}(hd:H d=some (.dK (pgF P.len P.rest lp lo lv dv li lg lm)))(h:PgB ok H P lp lo lv dv li lg lm)(o:ok d):PgAt ok H d P:=by
 obtain⟨⟨p1,p2,p3,p4⟩,⟨o1,o2,o3,o4⟩,⟨v1,v2,v3,v4⟩,dd,li',⟨g1,g2⟩,m1,m2,m3,m4⟩:=h;exact⟨lp,lo,lv,dv,li,lg,lm,p1,o1,v1,m1,hd,p2,p3,o2,o3,v2,v3,dd,li',g1,m2,m3,o,p4,o4,v4,g2,m4⟩
theorem PgAt.other{ok:Addr->Prop}{H:Hp}{d e:Addr}{P:Pg}{kvs kvs':List (Key×V)}(h:PgAt ok H d P)(n:d≠e)(he:H e=some (.dK kvs)):PgAt ok (upd H e (.dK kvs')) d P:=by
 obtain⟨lp,lo,lv,dv,li,lg,lm,a1,a2,a3⟩:=h.split;exact .join (by rw[Zh n];exact a1) (a2.keepL (.dict he)) a3
theorem PgAt.setGoes{ok:Addr->Prop}{H:Hp}{d l:Addr}{P:Pg}{xs:List V}(h:PgAt ok H d P)(hl:H l=some (.lst xs))(ol:ok l):∃ kvs,H d=some (.dK kvs)/\kvs.length<sizeLine/\PgAt ok (upd H d (.dK (putK kvs (.inr "goes") (.ref l)))) d { P with gv:=xs }:=by
 obtain⟨lp,lo,lv,dv,li,lg,lm,a1,a2,a3⟩:=h.split;refine⟨_,a1,zeu,?_⟩;rw[Ba];have b:=a2.keepL (.dict a1 (kvs':=pgF P.len P.rest lp lo lv dv li l lm));exact .join (P:={ P with gv:=xs }) Zc ⟨b.pp,b.oo,b.vv,b.dd,b.li,⟨(Xt.dict a1).1 _ _ hl,ol⟩,b.mm⟩ a3
noncomputable def U1(P:Pg):Sj->Pg
 | .enrol n g c=>{ P with ppl:=P.ppl++[(n,g,c)],deed:=some ("enrol",n,(P.over.length:Int)+1) }
 | .away i n=>{ P with out:=P.out++[(i,n)],deed:=some ("away",n,i) }
 | .draw ms=>{ P with lis:=some ms,deed:=some ("draw up",(ms.length:Int),(P.over.length:Int)+1) }
 | .close=>{ P with over:=P.over++[⟨P.lis.getD [],Qh P (P.lis.getD []),P.gv,P.mv⟩],lis:=none,gv:=[],mv:=[] }
 | .back=>P
noncomputable def Ap(ds:List Addr)(d d':Addr):Sj->List Addr
 | .back=>ds
 | .close=>[d']
 | _=>ds++[d]++[d']
inductive E3(K:PySem.W.Frag)(vs:List V)(H:Hp)(Q:VK)(_:XK):Prop where
 | mk(ok:Addr->Prop)(l t:Addr)(ds:List Addr)(d:Addr)(P:Pg)(D:Sj)(_:vs=[.ref l,.ref t])(_:H l=some (.lst ((ds++[d]).map V.ref)))(_:PgAt ok H d P)(_:Ti ok H t D)(_:Ox P)(_:P.ppl.length<=100)(_:P.out.length<=900)(_:ds.length<=900)(_:(D=.close->∃ ms,P.lis=some ms/\ms.length<=100))(_:∀ l' d' H',H' l'=some (.lst ((Ap ds d d' D).map V.ref))->(D≠.back->PgAt (fun x=>ok x\/H x=none) H' d' (U1 P D))->Same H H'->H l'=none->H d'=none->Q (.ref l') H')
theorem zew(xs:List V)(x:V):Ho (xs++[x]) none (some (-1))=xs:=by
 unfold Ho HT.sIx;simp;rw[show (-1+((xs.length:Int)+1)).toNat=xs.length by omega,List.take_left]
noncomputable def Aq(ms:List P3):Prop:=(∀ m∈ms,¬ badM m)/\∀ m∈ms,m.1≠m.2.1
inductive L9(K:PySem.W.Frag)(vs:List V)(H:Hp)(Q:VK)(_:XK):Prop where
 | mk(b:Addr)(ns:List Int)(cell:Int)(most mixed:Nat)(_:vs=[.int cell,.ref b,.int most,.int mixed])(_:H b=some (.lst (ns.map V.int)))(_:2<=ns.length)(_:ns.length<=100)(_:ns.Nodup)(_:(∀ n∈ns,1<=n/\n<=99))(_:most<=20)(_:mixed<=1)(_:∀ l ts ms H',H' l=some (.lst ts)->Yb H' ts (ms.map pV)->ms.length<=most->Aq ms->Same H H'->H l=none->Q (.ref l) H')
noncomputable def enV(x:P3):List V:=[.str "enrol",.int x.1,.int x.2.1,.int x.2.2]
inductive Ih(K:PySem.W.Frag)(vs:List V)(H:Hp)(Q:VK)(_:XK):Prop where
 | mk(b t lc ln:Addr)(ns cs nu:List Int)(_:vs=[.ref b,.ref t])(_:SqL K H b (ns.map V.int))(_:Ow H t lc ln cs nu)(_:∀ l ts (es:List P3) H',H' l=some (.lst ts)->Yb H' ts (es.map enV)->es.map (·.1)=nu.take es.length->es.length<=nu.length->(∀ x∈es,1<=x.2.1/\x.2.1<=9/\x.2.2∈cs)->Same H H'->H l=none->Q (.ref l) H')
noncomputable def zex(P:Pg)(ds:List Addr)(cs nu:List Int)(most:Nat):Sj->Prop
 | .enrol n g c=>P.lis=none/\n∈nu/\n∉P.ppl.map (·.1)/\1<=g/\g<=9/\c∈cs
 | .away i n=>(P.over.length:Int)<i/\i<=P.len/\n∈P.ppl.map (·.1)/\(i,n)∉P.out
 | .draw ms=>P.lis=none/\ms.length<=most/\Aq ms
 | .close=>P.lis≠none
 | .back=>ds≠[]
inductive Bd(K:PySem.W.Frag)(vs:List V)(H:Hp)(Q:VK)(_:XK):Prop where
 | mk(ok:Addr->Prop)(l t lc ln:Addr)(ds:List Addr)(d:Addr)(P:Pg)(cell:Int)(cs nu:List Int)(most mixed:Nat)(_:vs=[.ref l,.int cell,.ref t,.int most,.int mixed])(_:H l=some (.lst ((ds++[d]).map V.ref)))(_:PgAt ok H d P)(_:Ow H t lc ln cs nu)(_:most<=20)(_:mixed<=1)(_:P.over.length<P.len)(_:P.ppl.length<=100)(_:∀ t' D H',Ti (fun x=>H x=none) H' t' D->zex P ds cs nu most D->Same H H'->H t'=none->Q (.ref t') H')
theorem Fy{t u:TT}{σ:L2.St}{H:Hp}{b c:Bool}(h1:Gr t σ H b)(h2:∀ H1,Same H H1->Gr u σ H1 c):Gr (zgw t u) σ H (b&&c):=fun Q h=>by
 refine h1 _ fun H1 s1=>?_
 cases b with
 | true=>exact h2 H1 s1 _ fun H2 s2=>h H2 (s1.trans s2)
 | false=>exact h H1 s1
theorem Ka{K:PySem.W.Frag}{H:Hp}:∀ ns:List Int,Wn K H (ns.map V.int) (ns.map Dt.int)
 | []=>.nil
 | w :: ws=>.cons (.int w) (Ka ws)
theorem Kb{K:PySem.W.Frag}{σ:L2.St}{H:Hp}{i:Nat}{l:Addr}{ns:List Int}(hv:σ[i]?=some (some (.ref l)))(hl:H l=some (.lst (ns.map V.int))):Gr (zgf (tOp (zdu K true) (ze8 i) (B0 Bz))) σ H (!ns.isEmpty):=fun Q q=>by
 refine⟨_,hv,z1j _,fun le hle=>?_⟩
 have s:=Zf (o:=.lst []) hle;refine⟨_,_,.lst (SqL.of (s _ _ hl)) (Ka _),.lst (SqL.of Zc) .nil,zaq _,Es,_,rfl,?_⟩;rw[if_pos rfl,Et];exact q _ s
theorem Mz.some{ok:Addr->Prop}{H:Hp}{v:V}{x:Option (List P3)}(h:Mz ok H v x):(!decide (v=V.non))=x.isSome:=by
 cases x with
 | none=>cases (show v=V.non from h);rfl
 | some ms=>obtain⟨l,ts,rfl,_⟩:=h;rfl
theorem zey{h y n:Int}(h0:0<=h)(h1:h<n)(y0:1<=y)(y1:y<=n-1):0<=(h+y)%n/\(h+y)%n<n/\(h+y)%n≠h:=by
 have hn:0<n:=by omega
 refine⟨z1v _ (by omega),z1q _ hn,?_⟩
 by_cases c:h+y<n
 ·rw[Int.emod_eq_of_lt (by omega) c];omega
 ·have e:(h+y)%n=h+y-n:=by
   rw[<- Int.sub_emod_right,Int.emod_eq_of_lt (by omega) (by omega)]
  omega
theorem at2(x y:Int){k:Nat}(h:k<=1):∃ z,atI [V.int x,V.int y] (k:Int)=some (.int z):=by
 match k,h with
 | 0,_=>exact⟨x,rfl⟩
 | 1,_=>exact⟨y,rfl⟩
noncomputable def E4:List Int:=[1,2,3,4,5,6,7,8,9,1,1,1,1,2,2,3,3,4]
theorem Ar:∀ k,k<18->1<=E4.getD k 0/\E4.getD k 0<=9:=by decide
noncomputable def E5:List Int:=[1,2,3,4,5,6,7,8,9,9,9,9,9,8,8,7,6,5]
theorem As:∀ k,k<18->1<=E5.getD k 0/\E5.getD k 0<=9:=by decide
theorem E6{ns:List Int}{i:Nat}(hi:i<ns.length):ns.getD i 0=ns[i]:=by
 rw[z1l,z0u hi];rfl
theorem zez{ns:List Int}(nd:ns.Nodup){i j:Nat}(hi:i<ns.length)(hj:j<ns.length)(h:ns.getD i 0=ns.getD j 0):i=j:=by
 rw[E6 hi,E6 hj] at h
 exact(List.getElem_inj nd).mp h
theorem Sb{ns:List Int}{i:Nat}(hi:i<ns.length):ns.getD i 0∈ns:=by
 rw[E6 hi];exact z1s hi
noncomputable def Rk(mb:Bool)(s:Zx):Zx:=if mb then s else { s with gaps:=[] }
theorem zf9{mb:Bool}{s s':Zx}(h:Rk mb s=Rk mb s'):s.ms=s'.ms/\s.may=s'.may/\s.gv=s'.gv/\(mb=true->s=s'):=by
 unfold Rk at h
 cases mb with
 | true=>simp at h;subst h;exact⟨rfl,rfl,rfl,fun _=>rfl⟩
 | false=>simp at h;exact⟨h.1,h.2.1,h.2.2,fun z=>nomatch z⟩
theorem zch(mb:Bool)(s:Zx):Z3 (Rk mb s)=Z3 s:=by
 unfold Rk;cases mb<;>rfl
structure RelB(mb:Bool)(P:Pg)(S:Sea):Prop where
 len:P.len=S.len
 rest:P.rest=S.rest
 ppl:P.ppl=S.ppl
 out:P.out=S.out
 over:P.over.map (Rk mb)=S.old.map (Rk mb)
 lis:P.lis=S.cur.map (·.ms)
noncomputable def Kc(S:Sea):zh9:=match S.cur with|some s=>s.gaps|none=>[]
theorem Au{S:Sea}{s:Zx}(h:S.cur=some s):Kc S=s.gaps:=by unfold Kc;rw[h]
theorem Oz{S:Sea}(h:S.cur=none):Kc S=[]:=by unfold Kc;rw[h]
structure Rel(mb:Bool)(P:Pg)(S:Sea):Prop where
 b:RelB mb P S
 gv:∀ s,S.cur=some s->P.gv=s.gv
 mv:mb=true->P.mv=Kc S
structure SOk(nu:List Int)(n:Nat)(S:Sea):Prop where
 cur:zer S
 nd:(S.ppl.map (·.1)).Nodup
 ppl:∀ x∈S.ppl,x.1∈nu/\¬ badI x.1 x.2.1 x.2.2
 few:S.ppl.length<=30
 led:S.led=S.old.map Z3
 old:∀ s∈S.old,s.ms.length<=20/\s.gv.length=s.ms.length/\∀ x∈s.gv,oneV x
 len:S.led.length<=S.len/\S.len<=60/\S.rest<=10
 lt:S.cur≠none->S.led.length<S.len
 num:S.out.length<=n/\S.std.length<=n
 gp:∀ s,S.cur=some s\/s∈S.old->s.gaps.length<=n/\∀ x∈s.gaps,x.2.length<=100
theorem SOk.mono{nu:List Int}{n m:Nat}{S:Sea}(h:SOk nu n S)(e:n<=m):SOk nu m S:=⟨h.cur,h.nd,h.ppl,h.few,h.led,h.old,h.len,h.lt,⟨z09 h.num.1 e,z09 h.num.2 e⟩,fun s hs=>⟨z09 (h.gp s hs).1 e,(h.gp s hs).2⟩⟩
theorem SOk.pok{nu:List Int}{n:Nat}{S:Sea}(h:SOk nu n S):Qy S:=⟨fun x hx=>(h.ppl x hx).2,h.few⟩
theorem SOk.olen{nu:List Int}{n:Nat}{S:Sea}(h:SOk nu n S):S.old.length=S.led.length:=by rw[h.led,z0t]
theorem Av{k:Nat}:∀ (Rs:List (List Row)),(∀ rs∈Rs,rs.length<=k)->tot Rs<=k*Rs.length
 | [],_=>by simp[tot]
 | rs :: Rs,h=>by
   have h1:=h rs (z1o);have h2:=Av Rs fun x hx=>h x (z1e _ hx)
   unfold tot at *
   simp only[z04,List.sum_cons,z1h,Nat.mul_succ];omega
theorem SOk.tot{nu:List Int}{n:Nat}{S:Sea}(h:SOk nu n S):G.tot S.led<=1200:=by
 have h1:=Av (k:=20) S.led fun rs hrs=>by
  rw[h.led] at hrs
  obtain⟨s,hs,rfl⟩:=z02.mp hrs;have:=h.old s hs;unfold Z3;rw[z2y];omega
 have:=h.len;omega
theorem RelB.rows{mb:Bool}{P:Pg}{S:Sea}(r:RelB mb P S):P.over.map Z3=S.old.map Z3:=by
 have e:∀ l:List Zx,l.map Z3=(l.map (Rk mb)).map Z3:=fun l=>by
  rw[z2m];exact z2z fun s _=>(zch mb s).symm
 rw[e,r.over,<- e]
theorem RelB.olen{mb:Bool}{P:Pg}{S:Sea}(r:RelB mb P S):P.over.length=S.old.length:=by
 have:=congrArg List.length r.over
 simpa using this
theorem RelB.ovok{mb:Bool}{P:Pg}{S:Sea}{nu:List Int}{n:Nat}(r:RelB mb P S)(o:SOk nu n S):Ox P:=by
 have h1:=r.olen;have h2:=o.olen;have h3:=o.len;refine⟨by omega,by rw[r.rest];omega,fun s hs=>?_⟩
 have:Rk mb s∈S.old.map (Rk mb):=by rw[<- r.over];exact z02.mpr ⟨s,hs,rfl⟩
 obtain⟨s',hs',e⟩:=z02.mp this;obtain⟨e1,e2,e3,_⟩:=zf9 e;rw[<- e1,<- e3];exact o.old s' hs'
theorem RelB.may{mb:Bool}{P:Pg}{S:Sea}{nu:List Int}{n:Nat}(r:RelB mb P S)(o:SOk nu n S)(ms:List P3):Qh P ms=mayS S ms :=
 zcg r.ppl (by rw[r.rows,o.led]) r.out r.rest (by unfold atV;rw[r.olen,o.olen]) ms
theorem RelB.at{mb:Bool}{P:Pg}{S:Sea}{nu:List Int}{n:Nat}(r:RelB mb P S)(o:SOk nu n S):(P.over.length:Int)+1=atV S:=by unfold atV;rw[r.olen,o.olen]
theorem RelB.undrawn{mb:Bool}{P:Pg}{S:Sea}(r:RelB mb P S)(h:P.lis=none):S.cur=none:=by
 have:=r.lis;rw[h] at this
 cases e:S.cur with
 | none=>rfl
 | some s=>rw[e] at this;cases this
theorem RelB.drawn{mb:Bool}{P:Pg}{S:Sea}{ms:List P3}(r:RelB mb P S)(h:P.lis=some ms):∃ s,S.cur=some s/\s.ms=ms:=by
 have:=r.lis;rw[h] at this
 cases e:S.cur with
 | none=>rw[e] at this;cases this
 | some s=>rw[e] at this;exact⟨s,rfl,(Option.some.inj this).symm⟩
theorem E7{l m:List Int}(nd:l.Nodup)(h:∀ x∈l,x∈m):l.length<=m.length:=by
 induction l generalizing m with
 | nil=>exact z1j _
 | cons x l ih =>
   have hx:=h x (z1o);obtain⟨h1,h2⟩:=z1i.mp nd;have:=ih (m:=m.erase x) h2 fun y hy=>(List.mem_erase_of_ne (fun z=>h1 (by rw[<- z];exact hy))).mpr (h y (z1e _ hy))
   rw[List.length_erase_of_mem hx] at this
   have:=List.length_pos_of_mem hx;simp only[z1h];omega
theorem zga{mb:Bool}{P:Pg}{S:Sea}{nu cs:List Int}{n most:Nat}{ds:List Addr}{D:Sj}(r:RelB mb P S)(o:SOk nu n S)(g:zex P ds cs nu most D)(hlt:P.over.length<P.len)(hm:most<=20)(hnu:nu.length<=30/\∀ n∈nu,1<=n/\n<=999)(hcs:∀ c∈cs,1<=c/\c<=99)(hb:ds≠[]->S.std≠[]):L7 S D:=by
 have h1:=r.olen;have h2:=o.olen;have h3:=r.len;cases D with
 | enrol k gr c =>
   obtain⟨g1,g2,g3,g4,g5,g6⟩:=g;rw[r.ppl] at g3
   refine⟨by omega,r.undrawn g1,?_,g3,?_⟩
   ·have:=hnu.2 k g2
    have:=hcs c g6;unfold badI;omega
   ·have:=E7 (l:=k :: S.ppl.map (·.1)) (m:=nu) (z1i.mpr ⟨g3,o.nd⟩) fun x hx=>by
     rcases z00.mp hx with rfl|hx
     ·exact g2
     ·obtain⟨y,hy,rfl⟩:=z02.mp hx
      exact(o.ppl y hy).1
    rw[z1h,z0t] at this
    omega
 | away i k =>
   obtain⟨g1,g2,g3,g4⟩:=g;rw[r.ppl] at g3
   rw[r.out] at g4
   exact⟨by omega,by omega,g3,g4⟩
 | draw ms =>
   obtain⟨g1,g2,g3⟩:=g;exact⟨by omega,r.undrawn g1,by omega,g3.1,g3.2⟩
 | close =>
   refine⟨by omega,fun z=>g ?_⟩
   rw[r.lis,z];rfl
 | back=>exact hb g
theorem zci{rows:List (List Int)}{gs:List V}{n:Int}(F:Y4 rows gs)(hn:∀ i:Nat,gs[i]?≠some (V.int n)):Y4 (without rows n) gs:=by
 refine⟨by unfold without;rw[z0t];exact F.len,F.one,fun k m h=>?_,F.inj⟩
 obtain⟨r,h1,h2⟩:=F.may k m h;refine⟨r.filter fun x=>decide (x≠n),by unfold without;rw[z0x,h1];rfl,z1t.mpr ⟨h2,?_⟩⟩
 refine z01 fun z=>hn k ?_
 rw[h,z]
theorem Aw{rows:List (List Int)}{gs:List V}{n:Int}(T:Tg rows gs):Tg (without rows n) gs:=fun p hp=>by
 obtain⟨S,h1,h2⟩:=T p hp;refine⟨S,h1,fun q hq=>⟨by unfold without;rw[z0t];exact(h2 q hq).1,fun r hr m hm=>?_⟩⟩
 unfold without at hr
 rw[z0x] at hr
 obtain⟨r0,e1,rfl⟩:=z11.mp hr;exact(h2 q hq).2 r0 e1 m (z1t.mp hm).1
theorem zcj{S:Sea}{i n:Int}(h:atV S<i)(ms:List P3):mayS (Xx S i n) ms=mayS S ms:=by
 unfold mayS;refine z2z fun m _=>?_
 unfold mayM;have:∀ x:P3,pIn (Xx S i n).out (atV (Xx S i n)) x=pIn S.out (atV S) x:=fun x=>by
  show decide ((atV S,x.1)∈S.out++[(i,n)])=decide ((atV S,x.1)∈S.out);have:((atV S,x.1)∈S.out++[(i,n)])↔((atV S,x.1)∈S.out):=by
   simp only[z06,z0z,Prod.mk.injEq];constructor
   ·rintro(h|⟨h,_⟩)
    ·exact h
    ·omega
   ·exact .inl
  exact decide_eq_decide.mpr this
 simp only[this];rfl
theorem ze0{H':Hp}{S S':Sea}{D:Sj}{v:V}{nu:List Int}{n:Nat}(o:SOk nu n S)(g:L7 S D)(af:Qa H' S D S' v)(hb:D≠.back)(hn:∀ k gr c,D=.enrol k gr c->k∈nu):SOk nu (n+1) S'/\((D=.close/\S'.std=[]/\S'.cur=none)\/(D≠.close/\L6 S S')):=by
 obtain⟨n1,n2⟩:=o.num;cases af with
 | enrol k gr c =>
   obtain⟨g1,g2,g3,g4,g5⟩:=g;refine⟨⟨fun s hs=>?_,?_,fun x hx=>?_,?_,o.led,o.old,o.len,fun _=>g1,⟨?_,?_⟩,fun s hs=>⟨z2b (o.gp s hs).1,(o.gp s hs).2⟩⟩,.inr ⟨nofun,(("enrol":Str),k,atV S),rfl,.inl ⟨rfl,⟨gr,c,rfl⟩,rfl⟩,rfl,rfl,rfl,rfl⟩⟩
   ·have hs:S.cur=some s:=hs
    rw[g2] at hs;cases hs
   ·show (List.map (·.1) (S.ppl++[(k,gr,c)])).Nodup
    rw[z0y,List.nodup_append];refine⟨o.nd,by simp,fun x hx y hy=>?_⟩
    rw[z04,z23,z0z] at hy
    subst hy;rintro rfl;exact g4 hx
   ·rcases z06.mp hx with hx|hx
    ·exact o.ppl x hx
    ·rw[z0z.mp hx];exact⟨hn k gr c rfl,g3⟩
   ·show (S.ppl++[(k,gr,c)]).length<=30
    rw[z0w];show S.ppl.length+1<=30;omega
   ·show S.out.length<=n+1;omega
   ·show (S.std++[_]).length<=n+1
    rw[z0w];show S.std.length+1<=n+1;omega
 | @awayN i k l h hl =>
   obtain⟨g1,g2,g3,g4⟩:=g;refine⟨⟨fun s hs=>?_,o.nd,o.ppl,o.few,o.led,o.old,o.len,o.lt,⟨?_,?_⟩,fun s hs=>⟨z2b (o.gp s hs).1,(o.gp s hs).2⟩⟩,.inr ⟨nofun,(("away":Str),k,i),rfl,.inr (.inl ⟨rfl,rfl,rfl,g4⟩),rfl,rfl,rfl,rfl⟩⟩
   ·have hs:S.cur=some s:=hs
    rcases h with h|h
    ·rw[h] at hs;cases hs
    ·obtain⟨c1,c2,c3,c4,c5⟩:=o.cur s hs
     refine⟨c1,c2,c3,by rw[zcj h];exact c4,?_⟩
     show s.gaps.length<=(S.std++[_]).length;rw[z0w];omega
   ·show (S.out++[_]).length<=n+1
    rw[z0w];show S.out.length+1<=n+1;omega
   ·show (S.std++[_]).length<=n+1
    rw[z0w];show S.std.length+1<=n+1;omega
 | @awayF k s l h hp hl =>
   obtain⟨g1,g2,g3,g4⟩:=g;obtain⟨c1,c2,c3,c4,c5⟩:=o.cur s h;refine⟨⟨fun s' hs=>?_,o.nd,o.ppl,o.few,o.led,o.old,o.len,fun _=>o.lt (by rw[h];exact nofun),⟨?_,?_⟩,fun s' hs=>?_⟩,.inr ⟨nofun,(("away":Str),k,atV S),rfl,.inr (.inl ⟨rfl,rfl,rfl,g4⟩),rfl,rfl,rfl,rfl⟩⟩
   ·have hs:some { s with may:=mayS (Xx S (atV S) k) s.ms }=some s':=hs
    cases hs;have hno:∀ i:Nat,s.gv[i]?≠some (V.int k):=by
     rcases Ce s.gv k with z|⟨i,z,_⟩
     ·exact z.2
     ·rw[hp] at z;cases z
    refine⟨c1,?_,?_,rfl,?_⟩
    ·show Y4 (mayS (Xx S (atV S) k) s.ms) s.gv
     rw[Sh,<- c4];exact zci c2 hno
    ·show Tg (mayS (Xx S (atV S) k) s.ms) s.gv
     rw[Sh,<- c4];exact Aw c3
    ·show s.gaps.length<=(S.std++[_]).length
     rw[z0w];omega
   ·show (S.out++[_]).length<=n+1
    rw[z0w];show S.out.length+1<=n+1;omega
   ·show (S.std++[_]).length<=n+1
    rw[z0w];show S.std.length+1<=n+1;omega
   ·have old:=o.gp s (.inl h)
    rcases hs with hs|hs
    ·have hs:some { s with may:=mayS (Xx S (atV S) k) s.ms }=some s':=hs
     cases hs;exact⟨z2b old.1,old.2⟩
    ·have:=o.gp s' (.inr hs)
     exact⟨z2b this.1,this.2⟩
 | @awayC k s p e l us st w h hp hl tl CR =>
   obtain⟨g1,g2,g3,g4⟩:=g;obtain⟨c1,c2,c3,c4,c5⟩:=o.cur s h;refine⟨⟨fun s' hs=>?_,o.nd,o.ppl,o.few,o.led,o.old,o.len,fun _=>o.lt (by rw[h];exact nofun),⟨?_,?_⟩,fun s' hs=>?_⟩,.inr ⟨nofun,(("away":Str),k,atV S),rfl,.inr (.inl ⟨rfl,rfl,rfl,g4⟩),rfl,rfl,rfl,rfl⟩⟩
   ·have hs:some (⟨s.ms,mayS (Xx S (atV S) k) s.ms,Yw st (s.gv.set p .non),s.gaps++[(k,st)]⟩:Zx)=some s':=hs
    cases hs;have hx:=Ov hp;rw[Sh,<- c4] at CR
    have F0:=Tr c2 hx;have hpl:p<(without s.may k).length:=by
     unfold without;rw[z0t,<- c2.len];exact(z0v.mp hx).1
    refine⟨c1,?_,?_,rfl,?_⟩
    ·show Y4 (mayS (Xx S (atV S) k) s.ms) _
     rw[Sh,<- c4];exact CR.fill F0 hpl
    ·show Tg (mayS (Xx S (atV S) k) s.ms) _
     rw[Sh,<- c4];exact Cj c2 c3 hx CR
    ·show (s.gaps++[_]).length<=(S.std++[_]).length
     rw[z0w,z0w];show s.gaps.length+1<=S.std.length+1;omega
   ·show (S.out++[_]).length<=n+1
    rw[z0w];show S.out.length+1<=n+1;omega
   ·show (S.std++[_]).length<=n+1
    rw[z0w];show S.std.length+1<=n+1;omega
   ·have old:=o.gp s (.inl h)
    rcases hs with hs|hs
    ·have hs:some (⟨s.ms,mayS (Xx S (atV S) k) s.ms,Yw st (s.gv.set p .non),s.gaps++[(k,st)]⟩:Zx)=some s':=hs
     cases hs;have hx:=Ov hp;rw[Sh,<- c4] at CR
     have hpl:p<(without s.may k).length:=by
      unfold without;rw[z0t,<- c2.len];exact(z0v.mp hx).1
     have hcl:=CR.len (Tr c2 hx) hpl;have hwl:(without s.may k).length=s.may.length:=by unfold without;rw[z0t]
     have hml:s.may.length=s.ms.length:=by rw[c4];unfold mayS;rw[z0t]
     refine⟨by show (s.gaps++[_]).length<=n+1;rw[z0w];show s.gaps.length+1<=n+1;omega,fun x hx'=>?_⟩
     rcases z06.mp hx' with z|z
     ·exact old.2 x z
     ·rw[z0z.mp z];show st.length<=100;omega
    ·have:=o.gp s' (.inr hs)
     exact⟨z2b this.1,this.2⟩
 | @draw ms gv l hl F T =>
   obtain⟨g1,g2,g3,g4,g5⟩:=g;refine⟨⟨fun s' hs=>?_,o.nd,o.ppl,o.few,o.led,o.old,o.len,fun _=>g1,⟨?_,?_⟩,fun s' hs=>?_⟩,.inr ⟨nofun,(("draw up":Str),(ms.length:Int),atV S),rfl,.inr (.inr ⟨rfl,rfl,rfl⟩),rfl,rfl,rfl,rfl⟩⟩
   ·have hs:some (⟨ms,mayS S ms,gv,[]⟩:Zx)=some s':=hs
    cases hs;exact⟨g3,F,T,rfl,z1j _⟩
   ·show S.out.length<=n+1;omega
   ·show (S.std++[_]).length<=n+1
    rw[z0w];show S.std.length+1<=n+1;omega
   ·rcases hs with hs|hs
    ·have hs:some (⟨ms,mayS S ms,gv,[]⟩:Zx)=some s':=hs
     cases hs;exact⟨z1j _,nofun⟩
    ·have:=o.gp s' (.inr hs)
     exact⟨z2b this.1,this.2⟩
 | @close s h =>
   obtain⟨g1,g2⟩:=g;obtain⟨c1,c2,c3,c4,c5⟩:=o.cur s h;refine⟨⟨fun s' hs=>(by cases hs),o.nd,o.ppl,o.few,?_,fun x hx=>?_,⟨?_,o.len.2⟩,fun z=>absurd rfl z,⟨?_,z1j _⟩,fun s' hs=>?_⟩,.inl ⟨rfl,rfl,rfl⟩⟩
   ·show S.led++[Z3 s]=List.map Z3 (S.old++[s])
    rw[z0y,o.led];rfl
   ·rcases z06.mp hx with hx|hx
    ·exact o.old x hx
    ·rw[z0z.mp hx]
     refine⟨c1,?_,c2.one⟩;rw[c2.len,c4];unfold mayS;rw[z0t]
   ·show (S.led++[_]).length<=S.len
    rw[z0w];exact g1
   ·show S.out.length<=n+1;omega
   ·rcases hs with hs|hs
    ·cases hs
    ·have hs:s'∈S.old++[s]:=hs
     rcases z06.mp hs with z|z
     ·have:=o.gp s' (.inr z)
      exact⟨z2b this.1,this.2⟩
     ·rw[z0z.mp z]
      have:=o.gp s (.inl h);exact⟨z2b this.1,this.2⟩
 | back h ht hs=>exact absurd rfl hb
theorem zck{H':Hp}{S S':Sea}{D:Sj}{v:V}{nu:List Int}{n:Nat}{mb:Bool}{P:Pg}(r:Rel mb P S)(o:SOk nu n S)(g:L7 S D)(af:Qa H' S D S' v)(hb:D≠.back):RelB mb (U1 P D) S':=by
 obtain⟨⟨r1,r2,r3,r4,r5,r6⟩,rg,rm⟩:=id r;cases af with
 | enrol k gr c=>exact⟨r1,r2,by show P.ppl++_=S.ppl++_;rw[r3],r4,r5,r6⟩
 | @awayN i k l h hl=>exact⟨r1,r2,r3,by show P.out++_=S.out++_;rw[r4],r5,r6⟩
 | @awayF k s l h hp hl=>exact⟨r1,r2,r3,by show P.out++_=S.out++_;rw[r4],r5,by show P.lis=_;rw[r6,h];rfl⟩
 | @awayC k s p e l us st w h hp hl tl CR=>exact⟨r1,r2,r3,by show P.out++_=S.out++_;rw[r4],r5,by show P.lis=_;rw[r6,h];rfl⟩
 | @draw ms gv l hl F T=>exact⟨r1,r2,r3,r4,r5,rfl⟩
 | @close s h =>
   have hl:P.lis=some s.ms:=by rw[r6,h];rfl
   refine⟨r1,r2,r3,r4,?_,rfl⟩;show List.map (Rk mb) (P.over++[⟨P.lis.getD [],Qh P (P.lis.getD []),P.gv,P.mv⟩])=List.map (Rk mb) (S.old++[s]);rw[z0y,z0y,r5,hl]
   congr 1
   have e1:=(o.cur s h).2.2.2.1;have e2:=r.b.may o s.ms;have e3:=rg s h;unfold Rk;cases mb with
   | true =>
     have e4:P.mv=s.gaps:=by rw[rm rfl,Au h]
     show [(⟨s.ms,Qh P s.ms,P.gv,P.mv⟩:Zx)]=[s];rw[e2,e3,e4,<- e1]
   | false =>
     show [(⟨s.ms,Qh P s.ms,P.gv,[]⟩:Zx)]=[(⟨s.ms,s.may,s.gv,[]⟩:Zx)];rw[e2,e3,<- e1]
 | back h ht hs=>exact absurd rfl hb
theorem zcl{S S1 S2:Sea}(h1:L6 S1 S)(h2:L6 S2 S):S1=S2:=by
 obtain⟨d1,a1,a2,a3,a4,a5,a6⟩:=h1;obtain⟨d2,b1,b2,b3,b4,b5,b6⟩:=h2;have e:=a1.symm.trans b1;obtain⟨e1,e2⟩:=List.append_inj' e rfl;have e3:=List.cons.inj e2;obtain⟨e4,e5⟩:=Prod.mk.inj e3.1;subst e4;have w1:("enrol":Str)≠"away":=by decide +kernel
 have w2:("enrol":Str)≠"draw up":=by decide +kernel
 have w3:("away":Str)≠"draw up":=by decide +kernel
 have e6:S1.ppl=S2.ppl/\S1.out=S2.out:=by
  rcases a2 with ⟨x1,⟨g,c,x2⟩,x3⟩|⟨x1,x2,x3,_⟩|⟨x1,x2,x3⟩<;>rcases b2 with ⟨y1,⟨g',c',y2⟩,y3⟩|⟨y1,y2,y3,_⟩|⟨y1,y2,y3⟩
  ·exact⟨(List.append_inj' (x2.symm.trans y2) rfl).1,x3.trans y3.symm⟩
  ·exact absurd (x1.symm.trans y1) w1
  ·exact absurd (x1.symm.trans y1) w2
  ·exact absurd (y1.symm.trans x1) w1
  ·exact⟨x2.trans y2.symm,(List.append_inj' (x3.symm.trans y3) rfl).1⟩
  ·exact absurd (x1.symm.trans y1) w3
  ·exact absurd (y1.symm.trans x1) w2
  ·exact absurd (y1.symm.trans x1) w3
  ·exact⟨x2.trans y2.symm,x3.trans y3.symm⟩
 obtain⟨l1,q1,p1,d1',o1,ol1,c1,s1⟩:=S1;obtain⟨l2,q2,p2,d2',o2,ol2,c2,s2⟩:=S2;simp only at *
 obtain⟨e7,e8⟩:=e6;subst e1 e5 e7 e8;rw[<- a3,<- b3,<- a4,<- b4,<- a5,<- b5,<- a6,<- b6]
structure FrN(A A':SAd)(H H':Hp):Prop where
 p:A'.p=A.p
 k:∀ b o,H b=some o->b∉A.fp->H' b=some o/\b∉A'.fp
 kt:∀ t xs,H t=some (.tup xs)->H' t=some (.tup xs)
theorem FrN.refl(A:SAd)(H:Hp):FrN A A H H:=⟨rfl,fun b o e n=>⟨e,n⟩,fun _ _ e=>e⟩
theorem FrN.of{A:SAd}{H H':Hp}(e:Same H H'):FrN A A H H':=⟨rfl,fun b o z n=>⟨e _ _ z,n⟩,fun _ _ z=>e _ _ z⟩
theorem FrN.trans{A A1 A2:SAd}{H H1 H2:Hp}(h1:FrN A A1 H H1)(h2:FrN A1 A2 H1 H2):FrN A A2 H H2:=⟨h2.p.trans h1.p,fun b o e n=>by
 obtain⟨a1,a2⟩:=h1.k b o e n;exact h2.k b o a1 a2,fun t xs e=>h2.kt _ _ (h1.kt _ _ e)⟩
theorem J7.out{A A':SAd}{H:Hp}(nx:J7 A A' H){b:Addr}{o:HO}(e:H b=some o)(n:b∉A.fp):b∉A'.fp:=by
 obtain⟨x,rfl,hx⟩:=nx;simp only[SAd.fp,z00,z10,or_false] at n ⊢
 rcases hx with rfl|hx
 ·exact n
 ·have:b≠x:=Zg e hx
  rintro(z|z|z|z|z|z|z)
  ·exact n (.inl z)
  ·exact n (.inr (.inl z))
  ·exact n (.inr (.inr (.inl z)))
  ·exact n (.inr (.inr (.inr (.inl z))))
  ·exact n (.inr (.inr (.inr (.inr (.inl z)))))
  ·exact n (.inr (.inr (.inr (.inr (.inr (.inl z))))))
  ·exact this z
theorem FrN.next{ca:CA}{S:Sea}{A A':SAd}{H H':Hp}(SA:Z0 ca H A S)(nx:J7 A A' H)(f:FrS A H H'):FrN A A' H H':=⟨by obtain⟨x,rfl,_⟩:=nx;rfl,fun b o e n=>⟨f b o e n,nx.out e n⟩,SA.tups f⟩
noncomputable def Qb(K:PySem.W.Frag)(A:SAd)(H:Hp)(b:Addr)(xs:List V):Prop:=(Rd H b (.lst xs)/\b∉A.fp)\/∀ H',SqL K H' b xs
theorem Qb.sq{K:PySem.W.Frag}{A:SAd}{H:Hp}{b:Addr}{xs:List V}(h:Qb K A H b xs):SqL K H b xs:=by
 rcases h with h|h
 ·exact .inl h.1
 ·exact h H
theorem Qb.fr{K:PySem.W.Frag}{A A':SAd}{H H':Hp}{b:Addr}{xs:List V}(f:FrN A A' H H')(h:Qb K A H b xs):Qb K A' H' b xs:=by
 rcases h with ⟨h,n⟩|h
 ·rcases h with h|⟨o,h⟩
  ·exact .inl ⟨.inl (f.k _ _ h n).1,(f.k _ _ h n).2⟩
  ·exact .inl ⟨.inr ⟨o,(f.k _ _ h n).1⟩,(f.k _ _ h n).2⟩
 ·exact .inr h
theorem Qb.make{K:PySem.W.Frag}{H:Hp}{b:Addr}{xs:List V}(h:SqL K H b xs)(A:SAd)(H':Hp)(s:Same H H')(hf:∀ x∈A.fp,H x=none):Qb K A H' b xs:=by
 rcases h with h|h
 ·have hn:b∉A.fp:=fun z=>by
   have:=hf b z;rcases h with h|⟨o,h⟩<;>(rw[this] at h;cases h)
  rcases h with h|⟨o,h⟩
  ·exact .inl ⟨.inl (s _ _ h),hn⟩
  ·exact .inl ⟨.inr ⟨o,s _ _ h⟩,hn⟩
 ·exact .inr fun _=>.inr h
structure Kd(A:SAd)(H:Hp)(t lc ln:Addr)(cs nu:List Int):Prop where
 at_:Ow H t lc ln cs nu
 o:t∉A.fp/\lc∉A.fp/\ln∉A.fp
theorem Kd.fr{A A':SAd}{H H':Hp}{t lc ln:Addr}{cs nu:List Int}(f:FrN A A' H H')(h:Kd A H t lc ln cs nu):Kd A' H' t lc ln cs nu:=by
 obtain⟨⟨a1,a2,a3,a4,a5,a6,a7,a8,a9⟩,o1,o2,o3⟩:=h;exact⟨⟨(f.k _ _ a1 o1).1,(f.k _ _ a2 o2).1,(f.k _ _ a3 o3).1,a4,a5,a6,a7,a8,a9⟩,(f.k _ _ a1 o1).2,(f.k _ _ a2 o2).2,(f.k _ _ a3 o3).2⟩
inductive Bk(mb:Bool)(ok:Addr->Prop)(H:Hp)(nu:List Int)(n:Nat):List Addr->Sea->Prop where
 | one {d:Addr} {P:Pg} {S:Sea} (h:PgAt ok H d P) (r:Rel mb P S) (o:SOk nu n S) (e:S.std=[]):Bk mb ok H nu n [d] S
 | snoc {ds:List Addr} {d:Addr} {P:Pg} {S S':Sea} (b:Bk mb ok H nu n ds S) (nd:d∉ds) (h:PgAt ok H d P) (r:Rel mb P S') (o:SOk nu n S') (st:L6 S S') (hd:∃ x,P.deed=some x/\S'.std=S.std++[(x,S.cur)]):Bk mb ok H nu n (ds++[d]) S'
section
variable{mb:Bool}{ok ok':Addr->Prop}{H H':Hp}{nu:List Int}{n m:Nat}{ds:List Addr}{d:Addr}{P:Pg}{S S':Sea}
theorem Bk.keep(b:Bk mb ok H nu n ds S)(k:∀ x o,ok x->H x=some o->H' x=some o)(kt:∀ t xs,H t=some (.tup xs)->H' t=some (.tup xs)):Bk mb ok H' nu n ds S:=by
 induction b with
 | one h r o e=>exact .one (h.keep k kt) r o e
 | snoc b nd h r o st hd ih=>exact .snoc ih nd (h.keep k kt) r o st hd
theorem Bk.imp(b:Bk mb ok H nu n ds S)(k:∀ x,(∃ o,H x=some o)->ok x->ok' x):Bk mb ok' H nu n ds S:=by
 induction b with
 | one h r o e=>exact .one (h.imp k) r o e
 | snoc b nd h r o st hd ih=>exact .snoc ih nd (h.imp k) r o st hd
theorem Bk.mono(b:Bk mb ok H nu n ds S)(e:n<=m):Bk mb ok H nu m ds S:=by
 induction b with
 | one h r o e'=>exact .one h r (o.mono e) e'
 | snoc b nd h r o st hd ih=>exact .snoc ih nd h r (o.mono e) st hd
theorem Bk.there(b:Bk mb ok H nu n ds S):∀ d∈ds,∃ kvs,H d=some (.dK kvs):=by
 induction b with
 | one h r o e =>
   intro d hd;rw[z0z.mp hd];obtain⟨_,_,_,_,_,_,_,a,_⟩:=h.split;exact⟨_,a⟩
 | snoc b nd h r o st hd ih =>
   intro d' hd';rcases z06.mp hd' with z|z
   ·exact ih d' z
   ·rw[z0z.mp z]
    obtain⟨_,_,_,_,_,_,_,a,_⟩:=h.split;exact⟨_,a⟩
theorem Bk.other{e:Addr}{kvs kvs':List (Key×V)}(b:Bk mb ok H nu n ds S)(he:H e=some (.dK kvs))(hn:e∉ds):Bk mb ok (upd H e (.dK kvs')) nu n ds S:=by
 induction b with
 | one h r o e'=>exact .one (h.other (fun z=>hn (by rw[z];exact z2o _)) he) r o e'
 | snoc b nd h r o st hd ih=>exact .snoc (ih fun z=>hn (z1m _ z)) nd (h.other (fun z=>hn (by rw[z];exact z1f _ (z2o _))) he) r o st hd
structure ze1(mb:Bool)(ok:Addr->Prop)(H:Hp)(nu:List Int)(n:Nat)(ds:List Addr)(d:Addr)(dd:Option Tt)(S:Sea):Prop where
 nd:d∉ds
 ex:(ds=[]/\S.std=[])\/∃ S0,Bk mb ok H nu n ds S0/\L6 S0 S/\∃ x,dd=some x/\S.std=S0.std++[(x,S0.cur)]
structure E8(mb:Bool)(ok:Addr->Prop)(H:Hp)(nu:List Int)(n:Nat)(ds:List Addr)(d:Addr)(P:Pg)(S:Sea):Prop where
 pg:PgAt ok H d P
 rb:RelB mb P S
 so:SOk nu n S
 tl:ze1 mb ok H nu n ds d P.deed S
structure Tu(mb:Bool)(ok:Addr->Prop)(H:Hp)(nu:List Int)(n:Nat)(ds:List Addr)(d:Addr)(P:Pg)(S:Sea):Prop where
 pg:PgAt ok H d P
 re:Rel mb P S
 so:SOk nu n S
 tl:ze1 mb ok H nu n ds d P.deed S
theorem Tu.pend(h:Tu mb ok H nu n ds d P S):E8 mb ok H nu n ds d P S:=⟨h.pg,h.re.b,h.so,h.tl⟩
theorem Tu.bk(h:Tu mb ok H nu n ds d P S):Bk mb ok H nu n (ds++[d]) S:=by
 obtain⟨nd,⟨rfl,e⟩|⟨S0,b,st,hd⟩⟩:=h.tl
 ·exact .one h.pg h.re h.so e
 ·exact .snoc b nd h.pg h.re h.so st hd
theorem Bk.full{xs:List Addr}(b:Bk mb ok H nu n xs S):∃ ds d P,xs=ds++[d]/\Tu mb ok H nu n ds d P S:=by
 cases b with
 | one h r o e=>exact⟨[],_,_,rfl,h,r,o,nofun,.inl ⟨rfl,e⟩⟩
 | snoc b nd h r o st hd=>exact⟨_,_,_,rfl,h,r,o,nd,.inr ⟨_,b,st,hd⟩⟩
theorem ze1.keep{dd:Option Tt}(h:ze1 mb ok H nu n ds d dd S)(k:∀ x o,ok x->H x=some o->H' x=some o)(kt:∀ t xs,H t=some (.tup xs)->H' t=some (.tup xs)):ze1 mb ok H' nu n ds d dd S:=by
 obtain⟨nd,e|⟨S0,b,r⟩⟩:=h
 ·exact⟨nd,.inl e⟩
 ·exact⟨nd,.inr ⟨S0,b.keep k kt,r⟩⟩
theorem E8.same(h:E8 mb ok H nu n ds d P S)(e:Same H H'):E8 mb ok H' nu n ds d P S:=⟨h.pg.same e,h.rb,h.so,h.tl.keep (fun _ _ _ q=>e _ _ q) fun _ _ q=>e _ _ q⟩
theorem Tu.same(h:Tu mb ok H nu n ds d P S)(e:Same H H'):Tu mb ok H' nu n ds d P S:=⟨h.pg.same e,h.re,h.so,h.tl.keep (fun _ _ _ q=>e _ _ q) fun _ _ q=>e _ _ q⟩
theorem E8.goes{l:Addr}{xs:List V}(h:E8 mb ok H nu n ds d P S)(hl:H l=some (.lst xs))(ol:ok l)(hg:∀ s,S.cur=some s->xs=s.gv)(hm:mb=true->P.mv=Kc S):∃ kvs,H d=some (.dK kvs)/\kvs.length<sizeLine/\Tu mb ok (upd H d (.dK (putK kvs (.inr "goes") (.ref l)))) nu n ds d { P with gv:=xs } S:=by
 obtain⟨kvs,a1,a2,a3⟩:=h.pg.setGoes hl ol;refine⟨kvs,a1,a2,a3,⟨⟨h.rb.len,h.rb.rest,h.rb.ppl,h.rb.out,h.rb.over,h.rb.lis⟩,hg,hm⟩,h.so,?_⟩;obtain⟨nd,e|⟨S0,b,r⟩⟩:=h.tl
 ·exact⟨nd,.inl e⟩
 ·exact⟨nd,.inr ⟨S0,b.other a1 nd,r⟩⟩
theorem E8.full(h:E8 mb ok H nu n ds d P S)(hg:∀ s,S.cur=some s->P.gv=s.gv)(hm:mb=true->P.mv=Kc S):Tu mb ok H nu n ds d P S:=⟨h.pg,⟨h.rb,hg,hm⟩,h.so,h.tl⟩
end
theorem ze2{H':Hp}{S S':Sea}{D:Sj}{v:V}{mb:Bool}{P:Pg}{nu:List Int}{n:Nat}(r:RelB mb P S)(o:SOk nu n S)(af:Qa H' S D S' v)(hb:D≠.back)(hc:D≠.close):∃ x,(U1 P D).deed=some x/\S'.std=S.std++[(x,S.cur)]:=by
 have e:=r.at o
 cases af with
 | enrol k gr c=>exact⟨_,rfl,by rw[e]⟩
 | awayN h hl=>exact⟨_,rfl,rfl⟩
 | awayF h hp hl=>exact⟨_,rfl,rfl⟩
 | awayC h hp hl tl CR=>exact⟨_,rfl,rfl⟩
 | draw hl F T=>exact⟨_,rfl,by rw[e];rfl⟩
 | close h=>exact absurd rfl hc
 | back h ht hs=>exact absurd rfl hb
theorem turn{ca:CA}{mb:Bool}{A A':SAd}{H H1 H2:Hp}{nu:List Int}{n:Nat}{ds:List Addr}{d d':Addr}{P:Pg}{S S':Sea}{D:Sj}{v:V}(F:Tu mb (·∉A.fp) H nu n ds d P S)(SA:Z0 ca H A S)(af:Qa H1 S D S' v)(SA1:Z0 ca H1 A' S')(nx:J7 A A' H)(fr:FrS A H H1)(g:L7 S D)(hn:∀ k gr c,D=.enrol k gr c->k∈nu)
  (pg:D≠.back->PgAt (fun x=>x∉A'.fp\/H1 x=none) H2 d' (U1 P D)) (s2:Same H1 H2) (fd:H1 d'=none) :
  ∃ ds2 d2 P2,Ap ds d d' D=ds2++[d2]/\E8 mb (·∉A'.fp) H2 nu (n+1) ds2 d2 P2 S'/\(D≠.back->P2=U1 P D)/\(D=.back\/D=.close->(∀ s,S'.cur=some s->P2.gv=s.gv)/\(mb=true->P2.mv=Kc S')):=by
 have mv:∀ {xs:List Addr} {S0:Sea},Bk mb (·∉A.fp) H nu n xs S0->Bk mb (·∉A'.fp) H2 nu (n+1) xs S0:=fun b=>by
  have b1:=b.imp (ok':=fun x=>x∉A.fp/\x∉A'.fp) fun x ⟨o,e⟩ z=>⟨z,nx.out e z⟩
  have b2:=b1.keep (H':=H2) (fun x o z e=>s2 _ _ (fr x o e z.1)) fun t xs e=>s2 _ _ (SA.tups fr t xs e)
  exact(b2.imp fun x _ z=>z.2).mono (Nat.le_succ n)
 have hd1:∀ x∈ds++[d],x≠d':=fun x hx z=>by
  have b1:=F.bk.imp (ok':=fun x=>x∉A.fp/\x∉A'.fp) fun x ⟨o,e⟩ z=>⟨z,nx.out e z⟩
  have b2:=b1.keep (H':=H1) (fun x o z e=>fr x o e z.1) fun t xs e=>SA.tups fr t xs e
  obtain⟨kvs,e⟩:=b2.there x hx;rw[z,fd] at e;cases e
 by_cases hb:D=.back
 ·subst hb
  cases af with
  | @back S0' dd t h ht hs =>
    obtain⟨nd,⟨_,e⟩|⟨S0,b,st,_⟩⟩:=F.tl
    ·exact absurd e g
    ·have es:=zcl hs st
     subst es;obtain⟨ds2,d2,P2,e,F2⟩:=(mv b).full;exact⟨ds2,d2,P2,e,F2.pend,fun z=>absurd rfl z,fun _=>⟨F2.re.gv,F2.re.mv⟩⟩
 ·have pg':PgAt (·∉A'.fp) H2 d' (U1 P D):=(pg hb).imp fun x hx z=>by
   rcases z with z|z
   ·exact z
   ·exact SA1.newOk x z
  obtain⟨o',ho⟩:=ze0 F.so g af hb hn;have rb:=zck F.re F.so g af hb;rcases ho with ⟨rfl,e1,e2⟩|⟨hc,st⟩
  ·exact⟨[],d',_,rfl,⟨pg',rb,o',nofun,.inl ⟨rfl,e1⟩⟩,fun _=>rfl,fun _=>⟨fun s hs=>(by rw[e2] at hs;cases hs),fun _=>(by rw[Oz e2];rfl)⟩⟩
  ·have hk:Ap ds d d' D=(ds++[d])++[d']:=by
    cases D with
    | back=>exact absurd rfl hb
    | close=>exact absurd rfl hc
    | enrol _ _ _=>rfl
    | away _ _=>rfl
    | draw _=>rfl
   refine⟨ds++[d],d',_,hk,⟨pg',rb,o',fun z=>hd1 d' z rfl,.inr ⟨S,mv F.bk,st,ze2 F.re.b F.so af hb hc⟩⟩,fun _=>rfl,?_⟩
   rintro(z|z)
   ·exact absurd z hb
   ·exact absurd z hc
section
variable{mb:Bool}{ok ok':Addr->Prop}{A A':SAd}{H H':Hp}{nu:List Int}{n m:Nat}{ds:List Addr}{d:Addr}{P:Pg}{S S':Sea}{D:Sj}
theorem PgAt.fr(f:FrN A A' H H')(h:PgAt (·∉A.fp) H d P):PgAt (·∉A'.fp) H' d P:=by
 have b1:=h.imp (ok':=fun x=>x∉A.fp/\x∉A'.fp) fun x ⟨o,e⟩ z=>⟨z,(f.k x o e z).2⟩
 have b2:=b1.keep (H':=H') (fun x o z e=>(f.k x o e z.1).1) f.kt
 exact b2.imp fun x _ z=>z.2
theorem Ti.fr{t:Addr}(f:FrN A A' H H')(h:Ti (·∉A.fp) H t D):Ti (·∉A'.fp) H' t D:=by
 cases D with
 | enrol a b c=>exact f.kt _ _ h
 | away a b=>exact f.kt _ _ h
 | draw ms =>
   obtain⟨l,ts,a1,a2,a3,a4⟩:=h;exact⟨l,ts,f.kt _ _ a1,(f.k _ _ a2 a4).1,a3.mono f.kt,(f.k _ _ a2 a4).2⟩
 | close=>exact f.kt _ _ h
 | back=>exact f.kt _ _ h
theorem Ti.imp{t:Addr}(k:∀ x,ok x->ok' x)(h:Ti ok H t D):Ti ok' H t D:=by
 cases D with
 | enrol a b c=>exact h
 | away a b=>exact h
 | draw ms =>
   obtain⟨l,ts,a1,a2,a3,a4⟩:=h;exact⟨l,ts,a1,a2,a3,k _ a4⟩
 | close=>exact h
 | back=>exact h
theorem Bk.len(b:Bk mb ok H nu n ds S):ds.length=S.std.length+1:=by
 induction b with
 | one h r o e=>rw[e];rfl
 | snoc b nd h r o st hd ih =>
   obtain⟨x,_,e⟩:=hd;rw[e,z0w,z0w,ih];rfl
theorem Tu.len(F:Tu mb ok H nu n ds d P S):ds.length=S.std.length:=by
 have:=F.bk.len;rw[z0w] at this
 have h1:[d].length=1:=rfl;omega
theorem Tu.pre(F:Tu mb ok H nu n ds d P S)(g:L7 S D)(hn:n<100):zer S/\Qy S/\S.std.length<100/\S.out.length<=100000/\2*(tot S.led+1000)<=100000/\S.led.length<=1000/\S.old.length<=1000/\S.len<=1000/\(∀ i k,D=.away i k->Yk k)/\(D=.back->∃ S0,L6 S0 S):=by
 have h1:=F.so.num;have h2:=F.so.len;have h3:=F.so.olen;have h4:=F.so.tot;refine⟨F.so.cur,F.so.pok,by omega,by omega,by omega,by omega,by omega,by omega,?_,?_⟩
 ·rintro i k rfl
  obtain⟨_,_,g3,_⟩:=g;obtain⟨x,hx,rfl⟩:=z02.mp g3;exact F.so.pok.small x hx
 ·rintro rfl
  obtain⟨nd,⟨_,e⟩|⟨S0,b,st,_⟩⟩:=F.tl
  ·exact absurd e g
  ·exact⟨S0,st⟩
theorem Tu.pre2(F:Tu mb ok H nu n ds d P S)(g:L7 S D)(hn:n<100):Ox P/\P.ppl.length<=100/\P.out.length<=900/\ds.length<=900/\(D=.close->∃ ms,P.lis=some ms/\ms.length<=100):=by
 have h1:=F.so.num;have h2:=F.len;have h3:=F.so.few;refine⟨F.re.b.ovok F.so,by rw[F.re.b.ppl];omega,by rw[F.re.b.out];omega,by omega,?_⟩
 rintro rfl;obtain⟨_,g2⟩:=g;cases e:S.cur with
 | none=>exact absurd e g2
 | some s=>exact⟨s.ms,by rw[F.re.b.lis,e];rfl,z09 (F.so.cur s e).1 (by decide)⟩
theorem Tu.back(F:Tu mb ok H nu n ds d P S)(h:ds≠[]):S.std≠[]:=by
 obtain⟨nd,⟨e,_⟩|⟨S0,b,st,x,_,e⟩⟩:=F.tl
 ·exact absurd e h
 ·rw[e];simp
end
inductive Ii(K:PySem.W.Frag)(ca:CA)(vs:List V)(H:Hp)(Q:VK)(_:XK):Prop where
 | mk(mb:Bool)(A:SAd)(l le:Addr)(ts:List V)(es:List P3)(ds:List Addr)(d:Addr)(P:Pg)(S:Sea)(nu:List Int)(n:Nat)(_:vs=[.ref A.p,.ref l,.ref le])(_:Z0 ca H A S)(_:H l=some (.lst ((ds++[d]).map V.ref)))(_:l∉A.fp)(_:Tu mb (·∉A.fp) H nu n ds d P S)(_:H le=some (.lst ts))(_:le∉A.fp)(_:Yb H ts (es.map enV))(_:(es.map (·.1)).Nodup)(_:(∀ x∈es,x.1∈nu/\¬ badI x.1 x.2.1 x.2.2/\x.1∉S.ppl.map (·.1)))(_:S.ppl.length+es.length<=30)(_:n+es.length<=90)(_:S.cur=none)(_:S.led.length<S.len)(_:∀ A' l' ds' d' P' S' H',Z0 ca H' A' S'->H' l'=some (.lst ((ds'++[d']).map V.ref))->l'∉A'.fp->Tu mb (·∉A'.fp) H' nu (n+es.length) ds' d' P' S'->FrN A A' H H'->S'.cur=none->S'.led=S.led->S'.len=S.len->Q (.ref l') H')
theorem Ax{mb:Bool}{ok:Addr->Prop}{H:Hp}{d:Addr}{r q n:Nat}{nu:List Int}(pg:PgAt ok H d (An r q))(hr:r<=60)(hq:q<=10):Tu mb ok H nu n [] d (An r q) (zem r q) :=
 ⟨pg,⟨⟨rfl,rfl,rfl,rfl,rfl,rfl⟩,nofun,fun _=>rfl⟩,⟨nofun,.nil,nofun,z1j _,rfl,nofun,⟨z1j _,hr,hq⟩,fun z=>absurd rfl z,⟨z1j _,z1j _⟩,fun s hs=>(by rcases hs with z|z<;>cases z)⟩,nofun,.inl ⟨rfl,rfl⟩⟩
theorem E9{lo:Int}{n:Nat}{g:TG}{tb:TS}{D:S5}{σ:L2.St}{H:Hp}(Pv:Nat->L2.St->Hp->Prop)(h0:Pv 0 σ H)
  (hs:∀ N:L2.St->Hp->Prop,(∀ i σ H,Pv i σ H->N σ H)->∀ i σ H,i<n->Pv i σ H->g (.int (lo+i)) σ H fun σ2 H2=>tb { D with nx:=Pv (i+1),ct:=Pv (i+1),bk:=N } σ2 H2) (hd:∀ i σ H,Pv i σ H->D.nx σ H) :
  ∃ W:Nat->Nat->L2.St->Hp->Prop,(∃ m,W 0 m σ H)/\∀ i m σ H,W i m σ H ->
    ((Itr lo n).stop i H/\D.nx σ H)\/((Itr lo n).go i H/\∃ N:L2.St->Hp->Prop,(∀ σ' H',N σ' H'->∃ m',m' < m/\W (i+1) m' σ' H')/\∀ x H',(Itr lo n).yld i H x H'->g x σ H' fun σ2 H2=>tb { D with nx:=N,ct:=N,bk:=D.nx } σ2 H2) :=
 Xv Pv h0 (hs D.nx hd) (fun σ H p=>hd n σ H p)
theorem zcm(S:Sea):V8 S (atV S)=S.cur:=by
 unfold V8 atV;rw[if_neg (by omega),if_neg (by omega)]
theorem zib{ca:CA}{H:Hp}{S:Sea}{E:XK}{k:Zx->Prop}{s:Zx}{nu:List Int}{n:Nat}(o:SOk nu n S)(h:S.cur=some s)(hk:k s):za2 ca H S (atV S) E k:=by
 have h1:=o.len;have h2:=o.lt (by rw[h];exact nofun)
 have h3:atV S=(S.led.length:Int)+1:=rfl;refine⟨Ym (by omega) (by omega),o.olen,?_⟩
 rw[if_neg (by omega),zcm]
 exact⟨fun z=>(by rw[h] at z;cases z),fun s' hs=>(by rw[h] at hs;cases hs;exact hk)⟩
theorem zgb{ca:CA}{A:SAd}{S:Sea}{H H':Hp}{t:Addr}{D:Sj}(SA:Z0 ca H A S)(h:Ti (fun x=>H x=none) H' t D):Ti (·∉A.fp) H' t D:=h.imp fun x hx=>SA.newOk x hx
noncomputable def Ij(H H':Hp):Prop:=Xt H H'/\∀ x c e f,H x=some (.ins c e f)->H' x=some (.ins c e f)
theorem Ij.dict{H:Hp}{d:Addr}{kvs kvs':List (Key×V)}(h:H d=some (.dK kvs)):Ij H (upd H d (.dK kvs')) :=
 ⟨.dict h,fun x c e f z=>by rw[Zh (Yt z h (by intro z;cases z))];exact z⟩
theorem ShAt.keepI{C:Addr}{ok:Addr->Prop}{H H':Hp}{q:Addr}{s:Zx}(k:Ij H H')(h:ShAt C ok H q s):ShAt C ok H' q s:=by
 obtain⟨dx,l1,l2,l3,l4,ts,ls,gts,a1,a2,a3,a4,a5,a6,a7,a8,o1,o2,o3,o4,o5,o6⟩:=h;exact⟨dx,l1,l2,l3,l4,ts,ls,gts,k.2 _ _ _ _ a1,k.1.1 _ _ a2,a3.mono k.1.2,k.1.1 _ _ a4,ILs.keepL k.1 a5,k.1.1 _ _ a6,k.1.1 _ _ a7,a8.keepL k.1,o1,o2,o3,o4,o5,o6⟩
theorem ShO.keepI{C:Addr}{ok:Addr->Prop}{H H':Hp}{v:V}{s:Option Zx}(k:Ij H H')(h:ShO C ok H v s):ShO C ok H' v s:=by
 cases s with
 | none=>exact h
 | some s=>obtain⟨q,e,h⟩:=h;exact⟨q,e,h.keepI k⟩
theorem ShL.keepI{C:Addr}{ok:Addr->Prop}{H H':Hp}(k:Ij H H'):∀ {vs:List V} {ss:List Zx},ShL C ok H vs ss->ShL C ok H' vs ss
 | _,_,.nil=>.nil
 | _,_,.cons h r=>.cons (h.keepI k) (ShL.keepI k r)
theorem Th.keepI{C:Addr}{ok:Addr->Prop}{H H':Hp}(k:Ij H H'):∀ {vs:List V} {ss:List (Tt×Option Zx)},Th C ok H vs ss->Th C ok H' vs ss
 | _,_,.nil=>.nil
 | _,_,.cons h hu hs r=>.cons (k.1.2 _ _ h) (k.1.2 _ _ hu) (hs.keepI k) (Th.keepI k r)
theorem Z0.dictW{ca:CA}{A:SAd}{S:Sea}{H:Hp}{d:Addr}{kvs kvs':List (Key×V)}(h:Z0 ca H A S)(hd:H d=some (.dK kvs))(n:d∉A.fp):Z0 ca (upd H d (.dK kvs')) A S:=by
 have k:=Ij.dict hd (kvs':=kvs');have hn:∀ x∈A.fp,∀ o,H x=some o->upd H d (.dK kvs') x=some o:=fun x hx o e=>by rw[Zh (fun z=>n (by rw[<- z];exact hx))];exact e
 obtain⟨⟨dx,v,a1,a2⟩,b,c,⟨kvs0,d1,d2⟩,⟨vs,f1,f2⟩,⟨us,g1,g2⟩,nd,np⟩:=h;have hp:A.p∈A.fp:=by simp[SAd.fp]
 have hdr:A.dr∈A.fp:=by simp[SAd.fp]
 have hlr:A.lr∈A.fp:=by simp[SAd.fp]
 have hld:A.ld∈A.fp:=by simp[SAd.fp]
 have hda:A.da∈A.fp:=by simp[SAd.fp]
 have hls:A.ls∈A.fp:=by simp[SAd.fp]
 have hlt:A.lt∈A.fp:=by simp[SAd.fp]
 obtain⟨⟨dxr,kvr,r1,r2,r3⟩,ndr⟩:=b;obtain⟨⟨dxl,l1⟩,l2,l3⟩:=id c;refine⟨⟨dx,v,hn _ hp _ a1,a2.keepI k⟩,⟨⟨dxr,kvr,k.2 _ _ _ _ r1,hn _ hdr _ r2,r3.mono k.1.2⟩,ndr⟩,c.keep (fun o e=>?_) (hn _ hlr) (hn _ hld) k.1.2,⟨kvs0,hn _ hda _ d1,d2⟩,⟨vs,hn _ hls _ f1,f2.keepI k⟩,⟨us,hn _ hlt _ g1,g2.keepI k⟩,nd,np⟩
 rw[l1] at e
 cases e;exact k.2 _ _ _ _ l1
theorem FrN.dictW{A:SAd}{H:Hp}{d:Addr}{kvs kvs':List (Key×V)}(hd:H d=some (.dK kvs)){b:Addr}{o:HO}(e:H b=some o)(h:∀ k,o≠.dK k):upd H d (.dK kvs') b=some o:=by
 rw[Zh (Yt e hd (by intro z;exact h _ z))];exact e
theorem Qb.dictW{K:PySem.W.Frag}{A:SAd}{H:Hp}{d b:Addr}{kvs kvs':List (Key×V)}{xs:List V}(h:Qb K A H b xs)(hd:H d=some (.dK kvs)):Qb K A (upd H d (.dK kvs')) b xs:=by
 rcases h with ⟨h|⟨o,h⟩,n⟩|h
 ·exact .inl ⟨.inl (FrN.dictW (A:=A) hd h (by intro k z;cases z)),n⟩
 ·exact .inl ⟨.inr ⟨o,FrN.dictW (A:=A) hd h (by intro k z;cases z)⟩,n⟩
 ·exact .inr h
theorem Kd.dictW{A:SAd}{H:Hp}{d t lc ln:Addr}{cs nu:List Int}{kvs kvs':List (Key×V)}(h:Kd A H t lc ln cs nu)(hd:H d=some (.dK kvs)):Kd A (upd H d (.dK kvs')) t lc ln cs nu:=by
 have k:=Xt.dict hd (kvs':=kvs');obtain⟨⟨a1,a2,a3,a4,a5,a6,a7,a8,a9⟩,o⟩:=h;exact⟨⟨k.2 _ _ a1,k.1 _ _ a2,k.1 _ _ a3,a4,a5,a6,a7,a8,a9⟩,o⟩
end G

namespace G
open PySem PySem.Spec PyProof.Rows L2
theorem RelB.why{mb:Bool}{P:Pg}{S:Sea}{nu:List Int}{n:Nat}(r:RelB mb P S)(o:SOk nu n S)(x m:P3):Vx P x m=whyS S.led x.1 x.2.1 x.2.2 m.1 m.2.1 m.2.2 (pIn S.out (atV S) x) S.rest:=by
 unfold Vx pIn;rw[r.rows,<- o.led,r.out,r.rest,r.at o]
end G

namespace L2
open PySem PySem.Spec PyProof.Rows
theorem fnS{N P:List Str}{sc:Scope}(a:sc.kind=.function:=by rfl)(b:sc.isCoroutine=false:=by rfl)(c:sc.isGenerator=false:=by rfl)(d:N.Nodup:=by decide +kernel)(e:N.take P.length=P:=by rfl)(f:∀ x∈P,sc.names.lookup x=some .local\/sc.names.lookup x=some .cell:=by decide +kernel)(g:∀ y∈sc.names,y.2≠.free:=by decide +kernel):Zl N P sc:=⟨a,b,c,d,e,f,g⟩
section
variable{X:Cx}{k j:Nat}{C:Addr}{ps:List Str}{sp:Sp}{E:XK}{x m:Str}{p pos pos' apos:Pos}{e o a b:Expr}{es:List Expr}{ta tb te:TE}{t:TA}{r:R2}
theorem pS(i:Nat)(hN:X.N.Nodup)(he:PE X e te)(hi:X.N[i]?=some x:=by rfl)(hx:Loc X.env.scope x:=by first|exact Or.inl rfl|exact Or.inr rfl)(hs:swapsWith e (some (.Name x pos')) pos.line X.env=pure false:=by rfl)(hf:Dq X i x:=by first|exact⟨.inl rfl,Wr⟩|exact⟨.inr rfl,Wr⟩|assumption|exact⟨.inl rfl,by assumption⟩|exact⟨.inr rfl,by assumption⟩) :
  PS X (.Assign [.Name x pos'] e pos) (Bs te (Wt i)):=zg4 hN hi hx he hs hf
theorem pN(i:Nat)(hN:X.N.Nodup)(hi:X.N[i]?=some x:=by rfl)(hx:Loc X.env.scope x:=by first|exact Or.inl rfl|exact Or.inr rfl)(hf:Dq X i x:=by first|exact⟨.inl rfl,Wr⟩|exact⟨.inr rfl,Wr⟩|assumption|exact⟨.inl rfl,by assumption⟩|exact⟨.inr rfl,by assumption⟩):PG X (.Name x pos) (Wt i):=To hN hi hx hf
theorem pI(hr:IxR X r)(ha:PE X a ta)(hb:PE X b tb)(hs:zaf b:=by exact fun _ _=>rfl):PE X (.Subscript a b pos) (tOp r ta tb):=zi3 hr ha hb hs
theorem pD(hu:X.A.units+1<cLine)(ho:PE X a ta)(hi:PE X b tb)(hs:zha b:=by exact fun _ _=>rfl):PE X (.Subscript a b pos) (zgj ta tb):=zfl hu ho hi hs
theorem pF(D:Z9 X.prog X.w X.K X.mg X.base x k ps sp)(hr:Vm j X.A)(ha:PA X (e :: es) t)(hk:k<=j:=by decide)(hx:Vu (CX1 X.prog X.w) X E:=by exact Zk)(hg:Gl X x:=by rfl)(hdb:(x == ("__debug__":Str))=false:=by decide)
  (he:starEach (e :: es) X.env=(false,eval e X.env) :: starEach es X.env:=by rfl) (hpl:(backTo pos (starEach es X.env)).any (·.1)=false:=by rfl):PE X (.Call (.Name x p) (e :: es) [] pos) (zda sp [] E t):=zai D (hr.mono hk) hx hg ha hdb he hpl
theorem iL(K:PySem.W.Frag)(h:X.K=K:=by rfl):IxR X (Hq K):=zdv h
theorem iU(K:PySem.W.Frag)(h:X.K=K:=by rfl):IxR X (zhj K):=zfv h
theorem cL(K:PySem.W.Frag)(h:X.K=K:=by rfl):Ux X (.builtin "len") (fun xs H Q=>∃ p ys,xs=[.ref p]/\(SqL K H p ys\/SqT K H p ys)/\Q (.int ys.length) H):=Hy h
end
theorem cT{X:Cx}{x:Str}{scope:Scope}{cl:List (Str×Addr)}(ys:List Str)(js:List Nat)(a:closureFor scope X.env=pure cl:=by rfl)(b:scope.kind=.function:=by rfl)(c:∀ y∈scope.names,y.2=.local->scope.names.lookup y.1=some .local:=by decide +kernel)(d:∀ y∈scope.names,y.2≠.cell:=by decide +kernel)(e:scope.names.lookup x=some .local:=by rfl)(f:(x :: ys).Nodup:=by decide +kernel)(g:js.map (X.N[·]?)=ys.map some:=by rfl)
  (h:Hw (fun y=>X.env.kindOf y=some .cell/\(relabel scope X.env).names.lookup y=some .cell/\cl.lookup y=X.env.cells.lookup y) ys:=by repeat' (first|exact True.intro|apply And.intro|rfl)) (i:Hw (fun p=>X.env.cells.lookup p.1=some p.2) cl:=by repeat' (first|exact True.intro|apply And.intro|rfl)) (j:∀ y∈scope.names,y.2=.free->y.1∈ys:=by decide +kernel):zah X x scope cl ys js:=⟨a,b,c,d,e,f,g,h,i,j⟩
noncomputable abbrev LkF(K:PySem.W.Frag)(f:Addr)(x q:Str)(st:Stmt)(oc kV dc pm cd ct:Value)(od an:Option Addr)(sl:Array (Option Value)):Prop:=K.lookup f=some ⟨oc,od,.func (PySem.W.fnOf x q (Sl st) (Zt st) (Zj st) .none kV dc pm an cd ct),sl⟩
noncomputable abbrev NsB(K:PySem.W.Frag)(x:Str)(f:Addr):Prop:=PySem.W.nsIn K mainGlobals x=some (some (.ref f))
noncomputable abbrev FdB(K:PySem.W.Frag)(c:Addr)(x:Str)(f:Addr):Prop:=PySem.W.findIn K (.ref c) x=some (some (.ref f))
noncomputable abbrev BnA(x q:Str)(st:Stmt)(ps:List Str):Prop:=∀ (kV doc pm:Value) (an:Option Addr) (cdv ct:Value) (us:List Value),us.length=ps.length->bindArgs (PySem.W.fnOf x q (Sl st) (Zt st) (Zj st) .none kV doc pm an cdv ct) ⟨us,[]⟩=pure (ps.zip us)
noncomputable abbrev BnE(x q:Str)(st:Stmt)(ps:List Str)(us:List Value):Prop:=∀ (kV doc pm:Value) (an:Option Addr) (cdv ct:Value),bindArgs (PySem.W.fnOf x q (Sl st) (Zt st) (Zj st) .none kV doc pm an cdv ct) ⟨us,[]⟩=pure (ps.zip us)
section
variable{x q a b c d e g:Str}{st:Stmt}
theorem bn1(h:∀ u,BnE x q st [a] [u]:=by intros _ _ _ _ _ _ _;rfl):BnA x q st [a]:=fun _ _ _ _ _ _ us hl=>match us,hl with|[_],_=>h _ _ _ _ _ _ _
theorem bn2(h:∀ u v,BnE x q st [a,b] [u,v]:=by intros _ _ _ _ _ _ _ _;rfl):BnA x q st [a,b]:=fun _ _ _ _ _ _ us hl=>match us,hl with|[_,_],_=>h _ _ _ _ _ _ _ _
theorem bn3(h:∀ u v w,BnE x q st [a,b,c] [u,v,w]:=by intros _ _ _ _ _ _ _ _ _;rfl):BnA x q st [a,b,c]:=fun _ _ _ _ _ _ us hl=>match us,hl with|[_,_,_],_=>h _ _ _ _ _ _ _ _ _
theorem bn4(h:∀ u v w y,BnE x q st [a,b,c,d] [u,v,w,y]:=by intros _ _ _ _ _ _ _ _ _ _;rfl):BnA x q st [a,b,c,d]:=fun _ _ _ _ _ _ us hl=>match us,hl with|[_,_,_,_],_=>h _ _ _ _ _ _ _ _ _ _
theorem bn5(h:∀ u v w y z,BnE x q st [a,b,c,d,e] [u,v,w,y,z]:=by intros _ _ _ _ _ _ _ _ _ _ _;rfl):BnA x q st [a,b,c,d,e]:=fun _ _ _ _ _ _ us hl=>match us,hl with|[_,_,_,_,_],_=>h _ _ _ _ _ _ _ _ _ _ _
end
section
variable{K:PySem.W.Frag}{mg:Str->Option Value}{x y q m:Str}{k:Nat}{ps:List Str}{sp:Sp}{C:Addr}{st:Stmt}{f:Addr}{fd:FuncData}
theorem dMk(P:Program)(w:World)(base:Heap)(F:Fun K x q st f fd)(ok:Z6 P w K mg base (CX1 P w) k f fd ps sp)(b:mg y=some (.ref f))(hb:BnA x q st ps:=by first|exact bn1|exact bn2|exact bn3|exact bn4|exact bn5):Z9 P w K mg base y k ps sp:=⟨f,fd,ok,b,F.kp,F.binds hb⟩
theorem mMk(P:Program)(w:World)(base:Heap)(F:Fun K x q st f fd)(ok:Z6 P w K mg base (CX1 P w) k f fd ps sp)(b:zc9 K C m f)(hb:BnA x q st ps:=by first|exact bn1|exact bn2|exact bn3|exact bn4|exact bn5):Zu P w K mg base C m k ps sp:=⟨f,fd,ok,b,F.binds hb⟩
theorem nMk(P:Program)(w:World)(base:Heap)(F:Fun K x q st f fd)(ok:Z6 P w K mg base (CX1 P w) k f fd ps sp)(b:Mk K C f)(c:mg y=some (.ref C))(hb:BnA x q st ps:=by first|exact bn1|exact bn2|exact bn3|exact bn4|exact bn5):S7 P w K mg base y C k ps sp:=⟨f,fd,ok,b,c,F.binds hb⟩
end
section
variable{X:Cx}{elt iter:Expr}{x:Str}{px pos:Pos}{ifs:List Expr}{scope:Scope}{cl:List (Str×Addr)}{ys:List Str}{js:List Nat}
theorem Ik{pins:List (Addr×Obj)}{σ:St}{H:Hp}{s:Shared}{tt:TT}{te:TE}{it:Addr}{fp:List Addr}{tn:Nat->Heap->Prop}{J:It}{W:Nat->Nat->List V->Hp->Prop}{m0:Nat}{Q:VK}{E:Value->Shared->Prop}{RR:Value->Addr->Result->Shared->Prop}
  (hcm:X.calm=true) (c:zah X x scope cl ys js) (ht:∀ pn s₀ H₀ fp C,PTs (Yp X pn (x :: ys) scope cl s₀ H₀ fp C) ifs tt) (hgt:∀ pn s₀ H₀ fp C,PG (Yp X pn (x :: ys) scope cl s₀ H₀ fp C) (.Name x px) (Wt 0)) (he:∀ pn s₀ H₀ fp C,PE (Yp X pn (x :: ys) scope cl s₀ H₀ fp C) elt te)
  (I:Inv X pins σ H s) (T:Dv X.prog X.w X.K (.Name x px) J fp it tn) (st0:tn 0 s.heap) (hf:∀ b∈fp,FpOk X pins H b) (w0:W 0 m0 [] H)
  (turn:∀ i m ys H,W i m ys H->(J.stop i H/\ys.length<=sizeLine/\∀ p,H p=none->Q (.ref p) (upd H p (.lst ys))) \/
   (J.go i H/\ys.length<sizeLine/\∃ N:List V->Hp->Prop,(∀ ys' H',N ys' H'->∃ m',m' < m/\W (i+1) m' ys' H')/\∀ x H',J.yld i H x H'->tt (cs js σ x) H' fun b H2=>if b=true then te (cs js σ x) H2 fun y H3=>N (ys++[y]) H3 else N ys H2))
  (hRR:∀ D C s' m,s'.heap.Ns C m->(∀ h',Heap.SameBut C s'.heap h'->∃ H',Inv X pins σ H' { s' with heap:=h' }/\Q (.ref D) H')->(∃ H',Inv X pins σ H' s'/\Q (.ref D) H'/\H' C=none)->s.heap.objs.size<=C->RR (.ref D) C (.ok .next) s') :
  wpAny (model X.prog X.w) X.A (newList []) (fun acc s₃=>wpAny (model X.prog X.w) X.A (newFunctionEnv scope X.env.globals cl [] X.env.qual none .none (some X.env)) (fun cenv s₄ =>
   codeAny (model X.prog X.w) X.A (.compStart (.ListComp elt [⟨.Name x px,iter,ifs,0⟩] scope pos) 0 (.ref it) acc { cenv with scope:=relabel scope X.env }) (RR acc cenv.locals) s₄) E s₃) E s :=
 Oj (xo:=[x]) (g:=Wt 0) hcm ⟨c.clos,c.kind,c.names,c.nocell,c.at_,c.free,c.only,c.vis⟩ ht hgt he I T st0 hf w0 (fun i m ys H w=>(turn i m ys H w).imp id fun ⟨a,b,N,n1,n2⟩=>⟨a,b,N,n1,fun y H' hy=>⟨⟨[some y],rfl,rfl⟩,n2 y H' hy⟩⟩) hRR
variable{wi:TI}{tt:TT}{te:TE}
theorem Ua(hcm:X.calm=true)(c:zah X x scope cl ys js)(hi:PI X (.Name x px) iter wi)(ht:∀ pn s₀ H₀ fp C,PTs (Yp X pn (x :: ys) scope cl s₀ H₀ fp C) ifs tt)(he:∀ pn s₀ H₀ fp C,PE (Yp X pn (x :: ys) scope cl s₀ H₀ fp C) elt te)
  (hx:∀ C,(compEnvC scope cl C X.env).scope.names.lookup x=some .local:=by intro _;rfl) (hs:∀ x,foldedSetIterable iter X.env x=pure x:=by intro _;rfl):PE X (.ListComp elt [⟨.Name x px,iter,ifs,0⟩] scope pos) (zgm wi js tt te):=by
 intro pins s σ H Q I h;rw[eval_ListComp];refine wpAny_comprehension_free (use:=none) rfl hs c.clos c.kind c.names (thn (hi pins s σ H _ I h) fun v s1 h1=>thn h1 fun itv s2 h2=>?_)
 obtain⟨it,fp,tn,J,H2,e,I2,T,st2,f2,W,⟨m0,w0⟩,turn⟩:=h2;subst e;exact Ik (RR:=fun acc C=>compPost (model X.prog X.w) X.A X.xe none (EP X pins σ Q) acc C) hcm c ht (fun _ _ _ _ C=>To (X:=Yp X _ (x :: ys) scope cl _ _ _ C) c.nd rfl (.inl (hx C)) ⟨.inr (hx C),Wr⟩) he I2 T st2 f2 w0 turn fun D C s' m hn hS _ _=>⟨m,hn,fun h' hs'=>let ⟨H',I',q⟩:=hS h' hs';⟨.ref D,H',I',rfl,q⟩⟩
theorem Te{y:Str}{py spos:Pos}{i:Nat}(hN:X.N.Nodup)(hy:X.N[i]?=some y)(hk:X.env.scope.names.lookup y=some .local)(hcm:X.calm=true)(c:zah X x scope cl ys js)(hi:PI X (.Name x px) iter wi)(ht:∀ pn s₀ H₀ fp C,PTs (Yp X pn (x :: ys) scope cl s₀ H₀ fp C) ifs tt)
  (he:∀ pn s₀ H₀ fp C,PE (Yp X pn (x :: ys) scope cl s₀ H₀ fp C) elt te)
  (hx:∀ C,(compEnvC scope cl C X.env).scope.names.lookup x=some .local:=by intro _;rfl) (hsw:swapsWith (.ListComp elt [⟨.Name x px,iter,ifs,0⟩] scope pos) (some (.Name y py)) spos.line X.env=pure true:=by rfl) (hs:∀ x,foldedSetIterable iter X.env x=pure x:=by intro _;rfl)
  (hf:Dq X i y:=by first|exact⟨.inr rfl,Wr⟩|assumption|exact⟨.inr rfl,by assumption⟩) :
  PS X (.Assign [.Name y py] (.ListComp elt [⟨.Name x px,iter,ifs,0⟩] scope pos) spos) (Bs (zgm wi js tt te) (Wt i)):=by
 intro pins s σ H D0 I h;rw[exec_Assign_Name_used _ _ _ _ hsw];refine wpAny_bind (wpAny_standAt (wpAny_bind ?_));show wpAny _ X.A (do let _ <- comprehension (.ListComp elt [⟨.Name x px,iter,ifs,0⟩] scope pos) scope X.env _ (newList []) false (eval iter X.env) (some (assign (.Name y py) X.env))) _ _ s
 refine wpAny_bind (wpAny_mono (wpAny_comprehension_free (use:=some (assign (.Name y py) X.env)) (Q:=fun _ s'=>SP X pins D0 .next s') rfl hs c.clos c.kind c.names
  (thn (hi pins s σ H _ I h) fun v s1 h1=>thn h1 fun itv s2 h2=>?_)) (fun _ s' hq=>wpAny_pure (wpAny_pure hq)) fun _ _ e=>e)
 obtain⟨it,fp,tn,J,H2,e,I2,T,st2,f2,W,⟨m0,w0⟩,turn⟩:=h2;subst e;refine Ik (Q:=fun x H1=>D0.nx (σ.set i (some x)) H1) (RR:=fun acc C=>compPost (model X.prog X.w) X.A X.xe (some (assign (.Name y py) X.env)) (fun _ s'=>SP X pins D0 .next s') acc C) hcm c ht (fun _ _ _ _ C=>To (X:=Yp X _ (x :: ys) scope cl _ _ _ C) c.nd rfl (.inl (hx C)) ⟨.inr (hx C),Wr⟩) he I2 T st2 f2 w0 turn fun D C s' m hn _ hS hC=>?_
 obtain⟨H',I',q,fC⟩:=hS;show wpAny _ X.A (assign (.Name y py) X.env (.ref D)) _ _ _;have ltC:∀ b o,s2.heap.get? b=some o->b≠C:=fun b o e=>z1k (z1c (Heap.lt_size e) hC)
 have neL:C≠X.env.locals:=by
  obtain⟨_,⟨o,_,_,ho,_⟩,_⟩:=I2.loc;exact Ne.symm (ltC _ o ho)
 have neK:∀ z a,X.env.cells.lookup z=some a->a≠C:=fun z a e=>by
  obtain⟨_,o,ho,_⟩:=I2.cell z a e;exact ltC a o ho
 refine wpAny_assign_Name (Mf I' hN hy (.inl hk) (v:=.ref D) (show RelV (.ref D) (.ref D) from rfl) (fun s4 I4 ⟨a,hs4,ha⟩=>?_) hf)
 have naC:C≠a:=by
  rcases ha with ha|ha
  ·rw[ha];exact neL
  ·exact Ne.symm (neK _ _ ha)
 refine⟨m,hn.sameBut hs4 naC,fun h5 hs5=>⟨_,H',?_,q⟩⟩
 refine I4.turned (t':=s4.toks) (it:=C) (fun b o hb e=>hs5.extBut b o hb e) fC neL (.inr (z09 I2.sz hC)) neK fun p hp=>?_
 obtain⟨e,_⟩:=I2.pin p hp;exact ltC _ _ e
end
end L2

namespace G
open PySem PySem.Spec PyProof.Rows L2
end G

namespace G
open PySem PySem.Spec PyProof.Rows L2
end G

namespace G
open PySem PySem.Spec PyProof.Rows L2
inductive RwL(H:Hp):List Addr->List (List Row)->Prop where
 | nil:RwL H [] []
 | cons {l:Addr} {ls:List Addr} {ts:List V} {rs:List Row} {Rs:List (List Row)} (h:H l=some (.lst ts)) (t:Yb H ts (rs.map row4)) (n:RwL H ls Rs):RwL H (l :: ls) (rs :: Rs)
theorem RwL.same{H H':Hp}(e:Same H H'):∀ {ls:List Addr} {Rs:List (List Row)},RwL H ls Rs->RwL H' ls Rs
 | _,_,.nil=>.nil
 | _,_,.cons h t n=>.cons (e _ _ h) (t.same e) (RwL.same e n)
theorem RwL.length{H:Hp}:∀ {ls:List Addr} {Rs:List (List Row)},RwL H ls Rs->ls.length=Rs.length
 | _,_,.nil=>rfl
 | _,_,.cons _ _ n=>by simp[RwL.length n]
theorem RwL.snoc{H:Hp}{l:Addr}{ts:List V}{rs:List Row}(h:H l=some (.lst ts))(t:Yb H ts (rs.map row4)):∀ {ls:List Addr} {Rs:List (List Row)},RwL H ls Rs->RwL H (ls++[l]) (Rs++[rs])
 | _,_,.nil=>.cons h t .nil
 | _,_,.cons h' t' n=>.cons h' t' (RwL.snoc h t n)
theorem RwL.getR{H:Hp}:∀ {ls:List Addr} {Rs:List (List Row)} {i:Nat} {rs:List Row},RwL H ls Rs->Rs[i]?=some rs->∃ l ts,ls[i]?=some l/\H l=some (.lst ts)/\Yb H ts (rs.map row4)
 | _,_,_,_,.nil,e=>by simp at e
 | _,_,0,_,.cons h t n,e=>by simp at e;subst e;exact⟨_,_,rfl,h,t⟩
 | _,_,i+1,rs,.cons h t n,e=>by
   obtain⟨l,ts,h1,h2⟩:=RwL.getR (i:=i) (rs:=rs) n (by simpa using e)
   exact⟨l,ts,by simpa using h1,h2⟩
inductive Fz(ca:CA)(vs:List V)(H:Hp)(Q:VK)(_:XK):Prop where
 | mk(A:SAd)(S:Sea)(_:vs=[.ref A.p])(_:Z0 ca H A S)(_:S.led.length<=900)(_:∀ l ls H',H' l=some (.lst (ls.map V.ref))->RwL H' ls S.led->Same H H'->H l=none->(∀ x∈ls,H x=none)->Q (.ref l) H')
inductive Il(K:PySem.W.Frag)(vs:List V)(H:Hp)(Q:VK)(_:XK):Prop where
 | mk(ok:Addr->Prop)(l d:Addr)(ls:List Addr)(P:Pg)(_:vs=[.ref l,.ref d])(_:H l=some (.lst (ls.map V.ref)))(_:PgAt ok H d P)(_:Ox P)(_:RwL H ls (P.over.map Z3))(_:∀ H',Same H H'->Q (.bl true) H')
end G

namespace L2
open PySem PySem.Spec PyProof.Rows
section
variable{X:Cx}{elt iter tg:Expr}{xo:List Str}{pos:Pos}{ifs:List Expr}{scope:Scope}{cl:List (Str×Addr)}{ys:List Str}{js:List Nat}{g:TG}{wi:TI}{tt:TT}{te:TE}
theorem Be{y:Str}{py spos:Pos}{i:Nat}(hN:X.N.Nodup)(hy:X.N[i]?=some y)(hk:X.env.scope.names.lookup y=some .local)(hcm:X.calm=true)(c:P8 X xo scope cl ys js)(hi:PI X tg iter wi)(ht:∀ pn s₀ H₀ fp C,PTs (Yp X pn (xo++ys) scope cl s₀ H₀ fp C) ifs tt)
  (hgt:∀ pn s₀ H₀ fp C,PG (Yp X pn (xo++ys) scope cl s₀ H₀ fp C) tg g) (he:∀ pn s₀ H₀ fp C,PE (Yp X pn (xo++ys) scope cl s₀ H₀ fp C) elt te)
  (hsw:swapsWith (.ListComp elt [⟨tg,iter,ifs,0⟩] scope pos) (some (.Name y py)) spos.line X.env=pure true:=by rfl) (hs:∀ x,foldedSetIterable iter X.env x=pure x:=by intro _;rfl)
  (hf:Dq X i y:=by first|exact⟨.inr rfl,Wr⟩|assumption|exact⟨.inr rfl,by assumption⟩) :
  PS X (.Assign [.Name y py] (.ListComp elt [⟨tg,iter,ifs,0⟩] scope pos) spos) (Bs (zec wi xo js g tt te) (Wt i)):=by
 intro pins s σ H D0 I h;rw[exec_Assign_Name_used _ _ _ _ hsw];refine wpAny_bind (wpAny_standAt (wpAny_bind ?_));show wpAny _ X.A (do let _ <- comprehension (.ListComp elt [⟨tg,iter,ifs,0⟩] scope pos) scope X.env _ (newList []) false (eval iter X.env) (some (assign (.Name y py) X.env))) _ _ s
 refine wpAny_bind (wpAny_mono (wpAny_comprehension_free (use:=some (assign (.Name y py) X.env)) (Q:=fun _ s'=>SP X pins D0 .next s') rfl hs c.clos c.kind c.names
  (thn (hi pins s σ H _ I h) fun v s1 h1=>thn h1 fun itv s2 h2=>?_)) (fun _ s' hq=>wpAny_pure (wpAny_pure hq)) fun _ _ e=>e)
 obtain⟨it,fp,tn,J,H2,e,I2,T,st2,f2,W,⟨m0,w0⟩,turn⟩:=h2;subst e;refine Oj (Q:=fun x H1=>D0.nx (σ.set i (some x)) H1) (RR:=fun acc C=>compPost (model X.prog X.w) X.A X.xe (some (assign (.Name y py) X.env)) (fun _ s'=>SP X pins D0 .next s') acc C) hcm c ht hgt he I2 T st2 f2 w0 turn fun D C s' m hn _ hS hC=>?_
 obtain⟨H',I',q,fC⟩:=hS;show wpAny _ X.A (assign (.Name y py) X.env (.ref D)) _ _ _;have ltC:∀ b o,s2.heap.get? b=some o->b≠C:=fun b o e=>z1k (z1c (Heap.lt_size e) hC)
 have neL:C≠X.env.locals:=by
  obtain⟨_,⟨o,_,_,ho,_⟩,_⟩:=I2.loc;exact Ne.symm (ltC _ o ho)
 have neK:∀ z a,X.env.cells.lookup z=some a->a≠C:=fun z a e=>by
  obtain⟨_,o,ho,_⟩:=I2.cell z a e;exact ltC a o ho
 refine wpAny_assign_Name (Mf I' hN hy (.inl hk) (v:=.ref D) (show RelV (.ref D) (.ref D) from rfl) (fun s4 I4 ⟨a,hs4,ha⟩=>?_) hf)
 have naC:C≠a:=by
  rcases ha with ha|ha
  ·rw[ha];exact neL
  ·exact Ne.symm (neK _ _ ha)
 refine⟨m,hn.sameBut hs4 naC,fun h5 hs5=>⟨_,H',?_,q⟩⟩
 refine I4.turned (t':=s4.toks) (it:=C) (fun b o hb e=>hs5.extBut b o hb e) fC neL (.inr (z09 I2.sz hC)) neK fun p hp=>?_
 obtain⟨e,_⟩:=I2.pin p hp;exact ltC _ _ e
end
end L2
namespace G
open PySem PySem.Spec PyProof.Rows L2
theorem RwL.drop{H:Hp}:∀ (k:Nat) {ls:List Addr} {Rs:List (List Row)},RwL H ls Rs->RwL H (ls.drop k) (Rs.drop k)
 | 0,_,_,h=>h
 | _+1,_,_,.nil=>.nil
 | k+1,_,_,.cons _ _ n=>RwL.drop k n
theorem RwL.has{H:Hp}:∀ {ls:List Addr} {Rs:List (List Row)} {i:Nat} {l:Addr},RwL H ls Rs->ls[i]?=some l->∃ ts rs,Rs[i]?=some rs/\H l=some (.lst ts)/\Yb H ts (rs.map row4)
 | _,_,_,_,.nil,e=>by simp at e
 | _,_,0,_,.cons h t n,e=>by simp at e;subst e;exact⟨_,_,rfl,h,t⟩
 | _,_,i+1,l,.cons h t n,e=>by
   obtain⟨ts,rs,h1,h2⟩:=RwL.has (i:=i) (l:=l) n (by simpa using e)
   exact⟨ts,rs,by simpa using h1,h2⟩
inductive ze3(K:PySem.W.Frag)(vs:List V)(H:Hp)(Q:VK)(_:XK):Prop where
 | mk(l:Addr)(ls:List Addr)(P:Pg)(_:vs=[.ref l,.int P.rest])(_:H l=some (.lst (ls.map V.ref)))(_:RwL H ls (P.over.map Z3))(_:Ox P)(_:∀ m kvs H',H' m=some (.dT kvs)->za5 kvs P->Same H H'->H m=none->Q (.ref m) H')
inductive Ea(K:PySem.W.Frag)(ca:CA)(vs:List V)(H:Hp)(Q:VK)(_:XK):Prop where
 | mk(A:SAd)(S:Sea)(d lf:Addr)(ls:List Addr)(P:Pg)(s:Zx)(nu:List Int)(n:Nat)(_:vs=[.ref A.p,.ref d,.ref lf])(_:Z0 ca H A S)(_:PgAt (·∉A.fp) H d P)(_:RelB false P S)(_:SOk nu n S)(_:S.cur=some s)(_:n<=900)(_:H lf=some (.lst (ls.map V.ref)))(_:RwL H ls S.led)(_:∀ H',Same H H'->Q (.bl true) H')
noncomputable def outP(P:Pg)(k:Int):List V:=((P.out.filter fun x=>decide (x.1=k)).map (·.2)).map V.int
theorem ze4(P:Pg)(k:Int):∀ x∈outP P k,oneV x:=fun x hx=>by
 unfold outP at hx
 obtain⟨n,_,rfl⟩:=z02.mp hx;exact .inr ⟨_,rfl⟩
theorem ze5{P:Pg}{k n:Int}:inV (.int n) (outP P k)=decide ((k,n)∈P.out):=by
 unfold outP;rw[K9];apply decide_eq_decide.mpr;rw[z02];constructor
 ·rintro⟨⟨a,b⟩,h,rfl⟩
  rw[z1t] at h
  have:=of_decide_eq_true h.2;simp only at this
  subst this;exact h.1
 ·exact fun h=>⟨(k,n),z1t.mpr ⟨h,z01 rfl⟩,rfl⟩
theorem zcn{P:Pg}{x m:P3}{rest:Int}(hr:rest=(P.rest:Int)):So (P.over.map Z3) m.1 m.2.1 m.2.2 (outP P ((P.over.length:Int)+1)) rest x=(Vx P x m).isEmpty:=by
 unfold So Vx;rw[ze5,hr]
end G

namespace K35
open PySem PySem.Spec PyProof.Rows L2 G
noncomputable def top(i:Nat):Stmt:=PySem.Challenge.pw_whistlebook_k35_whole_bars_read_again.main.body.getD i (.Pass ⟨0,0,0,0⟩)
structure Ad where
 zof:Addr
 zk2:Addr
 zlj:Addr
 zk3:Addr
 zla:Addr
 zk9:Addr
 zmv:Addr
 zlp:Addr
 zlb:Addr
 zmc:Addr
 zlv:Addr
 zlq:Addr
 znh:Addr
 zmt:Addr
 zky:Addr
 zli:Addr
 zki:Addr
 zkl:Addr
 zkk:Addr
 zkg:Addr
noncomputable abbrev ca(a:Ad):CA:=⟨a.zkg,a.zkk,a.zkl,a.zki,a.zk2,a.zlj,a.zk3,a.zla,a.zk9,a.zmv,a.zlp,a.zlb,a.zmc,a.zlv,a.zlq,a.znh,a.zmt,a.zky,a.zli⟩
structure Tx(K:PySem.W.Frag)(mg:Str->Option Value)(a:Ad):Prop where
 zk0:Cls K a.zki
 zl6:X2 K a.zki "rounds"
 zlu:X2 K a.zki "meetings"
 zkz:Cls K a.zkl
 zld:X2 K a.zkl "entries"
 zkt:Cls K a.zkk
 zlw:X2 K a.zkk "listed"
 zov:X2 K a.zkk "lists"
 zm0:X2 K a.zkk "given"
 zor:X2 K a.zkk "gaps"
 zkh:Cls K a.zkg
 zng:X2 K a.zkg "length"
 zoz:X2 K a.zkg "rest"
 zlf:X2 K a.zkg "roster"
 zlm:X2 K a.zkg "ledger"
 zl8:X2 K a.zkg "absent"
 znt:X2 K a.zkg "sheets"
 zk7:X2 K a.zkg "sheet"
 zlh:X2 K a.zkg "standing"
 zox:Qg K mg "NoSuchRound" a.zlb
 zqh:Qg K mg "OutOfRange" a.zk2
 zpv:Qg K mg "TooManyMatches" a.zk9
 zqn:Qg K mg "SameClub" a.zmv
 zqb:Qg K mg "KnownReferee" a.zlj
 zo6:Qg K mg "TooManyReferees" a.zk3
 zpr:Qg K mg "UnknownReferee" a.zla
 zqe:Qg K mg "NoSuchMatch" a.zlp
 zqi:Qg K mg "SeasonOver" a.zlv
 zqo:Qg K mg "DrawnUp" a.znh
 zp2:Qg K mg "TooManyDeeds" a.zli
 zp4:Qg K mg "NotDrawn" a.zmt
 zqk:Qg K mg "RoundOver" a.zmc
 zqd:Qg K mg "AwayAlready" a.zlq
 zow:Qg K mg "NothingToTakeBack" a.zky
 zpy:mg "max"=none
 zkq:mg "len"=none
 zot:mg "tuple"=none
 zlg:mg "list"=none
 zm4:mg "enumerate"=none
 zk8:mg "range"=none
 zql:mg "zip"=none
 zkx:mg "isinstance"=none
 zqf:mg "int"=none
 zp1:mg "bool"=none
 zqj:mg "str"=none
 zp0:mg "dict"=none
 zqg:mg "min"=none
 gc_BookError:mg "BookError"=some (.ref a.zof)
 gc_OutOfRange:mg "OutOfRange"=some (.ref a.zk2)
 gc_KnownReferee:mg "KnownReferee"=some (.ref a.zlj)
 gc_TooManyReferees:mg "TooManyReferees"=some (.ref a.zk3)
 gc_UnknownReferee:mg "UnknownReferee"=some (.ref a.zla)
 gc_TooManyMatches:mg "TooManyMatches"=some (.ref a.zk9)
 gc_SameClub:mg "SameClub"=some (.ref a.zmv)
 gc_NoSuchMatch:mg "NoSuchMatch"=some (.ref a.zlp)
 gc_NoSuchRound:mg "NoSuchRound"=some (.ref a.zlb)
 gc_RoundOver:mg "RoundOver"=some (.ref a.zmc)
 gc_SeasonOver:mg "SeasonOver"=some (.ref a.zlv)
 gc_AwayAlready:mg "AwayAlready"=some (.ref a.zlq)
 gc_DrawnUp:mg "DrawnUp"=some (.ref a.znh)
 gc_NotDrawn:mg "NotDrawn"=some (.ref a.zmt)
 gc_NothingToTakeBack:mg "NothingToTakeBack"=some (.ref a.zky)
 gc_TooManyDeeds:mg "TooManyDeeds"=some (.ref a.zli)
 gc_Ledger:mg "Ledger"=some (.ref a.zki)
 gc_Roster:mg "Roster"=some (.ref a.zkl)
 gc_Sheet:mg "Sheet"=some (.ref a.zkk)
 gc_Season:mg "Season"=some (.ref a.zkg)
 zl9:∃ t,mg "MOST_NUMBER"=some (.int 999 t)
 zlz:∃ t,mg "MOST_GRADE"=some (.int 9 t)
 zlt:∃ t,mg "MOST_CLUB"=some (.int 99 t)
 zlc:∃ t,mg "MOST_REFEREES"=some (.int 30 t)
 zlo:∃ t,mg "MOST_MATCHES"=some (.int 20 t)
 zl7:∃ t,mg "MOST_ROUNDS"=some (.int 60 t)
 zm5:∃ t,mg "MOST_REST"=some (.int 10 t)
 zl4:∃ t,mg "MOST_DEEDS"=some (.int 100 t)
end K35

set_option maxHeartbeats 64000000
namespace K35
open PySem PySem.Spec PyProof.Rows L2 G
local macro_rules | `(tactic| walk_at "rd")=>`(tactic| repeat (first|(refine⟨_,rfl,?_⟩)|(refine⟨_,_,rfl,rfl,?_⟩)|(refine And.intro (show CMul _ _ from Or.inr (And.intro (by decide) (by decide))) ?_)|(refine And.intro (show CMul _ _ from Or.inl (And.intro (by decide) (by decide))) ?_)|(refine And.intro (show CDiv _ _ from(And.intro (by decide) (by decide))) ?_)|(refine And.intro (show CPow _ _ from(And.intro (by decide) (And.intro (by decide) (by decide)))) ?_)|(refine And.intro (show (0:Int)<_ from(by decide)) ?_)))
local macro_rules | `(tactic| walk_at "if")=>`(tactic| dsimp only[Wt,List.set])
local macro_rules | `(tactic| walk_at "ar")=>`(tactic| (intro _ _ _ _ h;first|(cases h;subst_vars;rfl)|repeat (first|(obtain⟨h1,_⟩:=h;subst h1;rfl)|(obtain⟨_,h⟩:=h))))
section
variable{P:Program}{w:World}{K:PySem.W.Frag}{mg:Str->Option Value}{base:Heap}{a:Ad}{f:Addr}{fd:FuncData}
noncomputable abbrev Tv:Stmt:=top 2
theorem Oa:Zl ["number","club","ledger","rest","rested"] ["number","club","ledger","rest"] (Zj Tv):=fnS
theorem Gd(F:Fun K "met_lately" "met_lately" Tv f fd)(T:Tx K mg a)(zkp:Zu P w K mg base a.zki "over" 1 ["self"] (Mp a.zki))(zoa:Zu P w K mg base a.zki "met" 1 ["self","number","club"] (zgn a.zki)):Z6 P w K mg base (CX1 P w) 2 f fd ["number","club","ledger","rest"] (Cc a.zki):=by
 refine F.okX Oa (by walk_at "ar") fun _ _ _ _ H _ Q E hr h=>?_
 obtain⟨p,lr,ld,Rs,n,c,rest,rfl,LA,h⟩:=h;refine⟨_,(Zb (pS 4 Oa.nd (Zn (Mi rfl) (by rfl) T.zpy PyProof.Rows.boot_max (Za (Zv Rr (Yl (pv 2) T.zk0 zkp (hr.mono (by decide)) Zk) (pv 3)) (Za Zi Zd))))
 (Ze (Zm (Na Ra (Yy (pv 2) T.zk0 zoa (hr.mono (by decide)) Zk (Za (pv 0) (Za (pv 1) Zd))) (pv 4) (Zw _))))),?_⟩
 obtain⟨⟨dx,hp⟩,_,_⟩:=id LA;refine⟨_,rfl,p,dx,_,rfl,hp,Ni (by decide +kernel) (by decide +kernel),p,lr,ld,Rs,rfl,LA,_,rfl,_,_,rfl,rfl,_,_,rfl,?_⟩
 refine⟨_,rfl,p,dx,_,rfl,hp,Ni (by decide +kernel) (by decide +kernel),_,rfl,_,rfl,p,lr,ld,Rs,n,c,rfl,LA,fun H' s'=>⟨_,rfl,_,_,rfl,rfl,h H' s'⟩⟩
noncomputable abbrev Pm:Stmt:=top 3
theorem W6:Zl ["referee","match","out","ledger","rest","number","grade","club","home","guest","asked","told"] ["referee","match","out","ledger","rest"] (Zj Pm):=fnS
theorem Im(F:Fun K "reasons" "reasons" Pm f fd)(T:Tx K mg a)(zml:Z9 P w K mg base "met_lately" 2 ["number","club","ledger","rest"] (Cc a.zki)):Z6 P w K mg base (CX1 P w) 3 f fd ["referee","match","out","ledger","rest"] (Mr K a.zki):=by
 refine F.okX W6 (by walk_at "ar") fun _ _ _ _ H _ Q E hr h=>?_
 obtain⟨t1,t2,p,lr,ld,Rs,n,g,c,h,gu,d,rest,o,rfl,h1,h2,LA,hq⟩:=h;refine⟨_,(Zb (pS 5 W6.nd (pI (iU K) (pv 0) Zi))
 (Zb (pS 6 W6.nd (pI (iU K) (pv 0) Zi))
 (Zb (pS 7 W6.nd (pI (iU K) (pv 0) Zi))
 (Zb (pS 8 W6.nd (pI (iU K) (pv 1) Zi))
 (Zb (pS 9 W6.nd (pI (iU K) (pv 1) Zi))
 (Zb (pS 10 W6.nd (pI (iU K) (pv 1) Zi))
 (Zb (pS 11 W6.nd (Ya Zd))
 (Zb (Z5 (X1 (pv 2))
  (Ze (Yu (pv 11) Zs))
  Zr)
 (Zb (Z5 (Zo Ra (pv 10) (pv 6) (Zw _))
  (Ze (Yu (pv 11) Zs))
  Zr)
 (Zb (Z5 (PW.pt (V0 (Zo W0 (pv 7) (pv 8) (Zw _)) (Ws (Zo W0 (pv 7) (pv 9) (Zw _)))))
  (Ze (Yu (pv 11) Zs))
  Zr)
 (Zb (Z5 (PW.pt (V0 (X1 (pF zml hr (Za (pv 5) (Za (pv 8) (Za (pv 3) (Za (pv 4) Zd)))))) (Ws (X1 (pF zml hr (Za (pv 5) (Za (pv 9) (Za (pv 3) (Za (pv 4) Zd)))))))))
  (Ze (Yu (pv 11) Zs))
  Zr)
 (Ze (Zm (pv 11)))))))))))))),?_⟩
 show let y1:TS:=_;let y2:TS:=Z2 _ y1;let y3:TS:=Z2 _ y2;let y4:TS:=Z2 _ y3;let y5:TS:=Z2 _ y4;let y6:TS:=Z2 _ y5;let y7:TS:=Z2 _ y6;let y8:TS:=Z2 _ y7;let y9:TS:=Z2 _ y8;let y10:TS:=Z2 _ y9;let y11:TS:=Z2 _ y10;Z2 _ y11 _ _ _;intro y1 y2 y3 y4 y5 y6 y7 y8 y9 y10 y11;refine⟨_,rfl,t1,_,_,_,rfl,rfl,SqT.of h1,(show atI [V.int n,V.int g,V.int c] 0=some _ from rfl),_,rfl,t1,_,_,_,rfl,rfl,SqT.of h1,(show atI [V.int n,V.int g,V.int c] 1=some _ from rfl),_,rfl,t1,_,_,_,rfl,rfl,SqT.of h1,(show atI [V.int n,V.int g,V.int c] 2=some _ from rfl),?_⟩
 refine⟨_,rfl,t2,_,_,_,rfl,rfl,SqT.of h2,(show atI [V.int h,V.int gu,V.int d] 0=some _ from rfl),_,rfl,t2,_,_,_,rfl,rfl,SqT.of h2,(show atI [V.int h,V.int gu,V.int d] 1=some _ from rfl),_,rfl,t2,_,_,_,rfl,rfl,SqT.of h2,(show atI [V.int h,V.int gu,V.int d] 2=some _ from rfl),?_⟩
 refine⟨by show 0<=sizeLine;decide,fun l hl=>?_⟩
 have s1:=Zf (o:=.lst []) hl;have q1:upd H l (.lst []) l=some (.lst (([]:List Str).map V.str)):=Zc;generalize upd H l (.lst [])=H1 at s1 q1
 walk_at "if";have b1:=Mt o "away";have b2:=Mt (decide (g<d)) "grade";have b3:=Mt (decide (c=h)||decide (c=gu)) "club"
 refine Sn (b:=o) (H0:=H) (Rv fun Q q=>⟨_,rfl,_,rfl,q⟩) hl s1 q1 (by decide) rfl (fun H2 s2 q2 _=>?_)
 rw[List.nil_append] at q2
 refine Sn (b:=decide (g<d)) (H0:=H) (Rv fun Q q=>⟨_,rfl,_,rfl,_,_,rfl,rfl,_,rfl,q⟩) hl s2 q2 (by omega) rfl (fun H3 s3 q3 _=>?_)
 refine Sn (b:=decide (c=h)||decide (c=gu)) (H0:=H) (Rv (Qt (fun Q q=>⟨_,rfl,_,rfl,rfl,_,rfl,Qs▸q⟩) (fun Q q=>⟨_,rfl,_,rfl,rfl,_,rfl,Qs▸q⟩))) hl s3 q3 (by rw[z0w];omega) rfl (fun H4 s4 q4 _=>?_)
 refine Sn (b:=Sm Rs n h rest||Sm Rs n gu rest) (H0:=H) (Cd (fun Q q=>⟨_,rfl,_,rfl,_,rfl,_,rfl,p,lr,ld,Rs,n,h,rest,rfl,LA.same s4,fun H5 s5=>⟨_,rfl,q H5 s5⟩⟩) (fun H5 s5 Q q=>⟨_,rfl,_,rfl,_,rfl,_,rfl,p,lr,ld,Rs,n,gu,rest,rfl,LA.same (s4.trans s5),fun H6 s6=>⟨_,rfl,q H6 s6⟩⟩)) hl s4 q4 (by rw[z0w,z0w];omega) rfl (fun H5 s5 q5 _=>?_)
 refine⟨_,rfl,hq l H5 ?_ s5 hl⟩;unfold whyS;rw[q5,z2l,z2l]
noncomputable abbrev Wv:Stmt:=Z4 (top 24) 0
theorem O0:Zl ["self"] ["self"] (Zj Wv):=fnS
theorem O1(F:Fun K "__init__" "Ledger.__init__" Wv f fd)(T:Tx K mg a):Z6 P w K mg base (CX1 P w) 1 f fd ["self"] (Er a.zki):=by
 refine F.okX O0 (by walk_at "ar") fun _ _ _ _ H _ Q E hr h=>?_
 obtain⟨p,dx,rfl,hp,h⟩:=h;refine⟨_,(Zb (Xb (K:=K) rfl (pv 0) (Ya Zd) rfl)
 (Ze (Xb (K:=K) rfl (pv 0) Nd rfl))),?_⟩
 refine⟨by show 0<=sizeLine;decide,fun lr hlr=>?_⟩
 have np:p≠lr:=Zg hp hlr;refine⟨_,rfl,p,a.zki,dx,[],rfl,(by rw[Zh np];exact hp),T.zk0,T.zl6,(by decide),?_⟩
 intro ld hld;have n1:ld≠p:=fun z=>by rw[z,Zc] at hld;cases hld
 have n2:ld≠lr:=fun z=>by rw[z,Zh (Ne.symm np),Zc] at hld;cases hld
 have hld0:H ld=none:=by rw[Zh n1,Zh n2] at hld;exact hld
 refine⟨_,rfl,p,a.zki,dx,[("rounds",.ref lr)],rfl,(by rw[Zh (Ne.symm n1),Zc];rfl),T.zk0,T.zlu,(by show 1<1000;decide),?_⟩
 rw[zjh];refine h lr ld _ ⟨⟨dx,Zc⟩,⟨[],?_,.nil⟩,⟨[],?_,fun n c=>rfl,z1j _⟩⟩ (fun b o e hb=>?_) hlr hld0 (Ne.symm n2)
 ·rw[Zh (Ne.symm np),Zh (Ne.symm n2),Zh (Ne.symm np),Zc]
 ·rw[Zh n1,Zc]
 ·rw[Zh hb,Zh (Zg e hld0),Zh hb,Zh (Zg e hlr)];exact e
noncomputable abbrev Ub:Stmt:=Z4 (top 24) 1
theorem Xw:Zl ["self","rows","at","home","guest","grade","referee"] ["self","rows"] (Zj Ub):=fnS
theorem Kk(F:Fun K "write" "Ledger.write" Ub f fd)(T:Tx K mg a):Z6 P w K mg base (CX1 P w) 1 f fd ["self","rows"] (Jy a.zki):=by
 refine F.okX Xw (by walk_at "ar") fun _ _ _ _ H _ Q E hr h=>?_
 obtain⟨p,lr,ld,Rs,b,ts,rs,rfl,LA,hb,nb,tl,hl,hl2,h⟩:=h;have hu:=Wm hr;refine⟨_,(Zb (Yu (Zp (K:=K) rfl (pv 0) rfl) (Y7 (Jr (K:=K) rfl) (by rfl) T.zot PyProof.Rows.boot_tuple (Za (pv 1) Zd)))
 (Zb (pS 2 Xw.nd (Zn (cL K) (by rfl) T.zkq PySem.boot_len (Za (Zp (K:=K) rfl (pv 0) rfl) Zd)))
 (Ze (Y6 PassesOwn.leaving rfl (Yh (K:=K) rfl (pv 1)) (Wg (K:=K) (n:=4) rfl rfl (Zy (pN 3 Xw.nd) (Zy (pN 4 Xw.nd) (Zy (pN 5 Xw.nd) (Zy (pN 6 Xw.nd) Wf)))))
  (Ze (Z5 (Zo V1 (pv 6) Y5 (Zw _))
   (Zb (Ys hu (Zp (K:=K) rfl (pv 0) rfl) (Ye (Za (pv 6) (Za (pv 3) Zd))) (pv 2) rfl)
   (Ze (Ys hu (Zp (K:=K) rfl (pv 0) rfl) (Ye (Za (pv 6) (Za (pv 4) Zd))) (pv 2) rfl)))
   Zr)))))),?_⟩
 obtain⟨⟨dx,hp⟩,⟨rr,hlr,rl⟩,⟨kvs,hd,mt,kl⟩⟩:=LA;have hlen:ts.length=rs.length:=by rw[tl.length,z0t]
 have nrd:lr≠ld:=Yt hlr hd (by intro z;cases z)
 have nrp:p≠lr:=Yt hp hlr (by intro z;cases z)
 have npd:p≠ld:=Yt hp hd (by intro z;cases z)
 have nbd:b≠ld:=Yt hb hd (by intro z;cases z)
 refine⟨_,rfl,p,a.zki,dx,_,_,rfl,hp,T.zk0,T.zl6,Rh,lr,rr,rfl,hlr,_,rfl,b,ts,rfl,.inl ⟨SqL.of hb,fun t ht=>⟨rr,(by rw[Zh (Zg hlr ht)];exact hlr),T9 (by rw[rl.length];omega),?_⟩⟩⟩
 have ntr:t≠lr:=Ne.symm (Zg hlr ht);have k1:∀ x o,H x=some o->x≠lr->upd (upd H t (.tup ts)) lr (.lst (rr++[.ref t])) x=some o:=fun x o e n=>by rw[Zh n,Zh (Zg e ht)];exact e
 have t1:∀ x xs,H x=some (.tup xs)->upd (upd H t (.tup ts)) lr (.lst (rr++[.ref t])) x=some (.tup xs):=fun x xs e=>k1 x _ e (Yt e hlr (by intro z;cases z))
 have r1:upd (upd H t (.tup ts)) lr (.lst (rr++[.ref t])) lr=some (.lst (rr++[.ref t])):=Zc;have rl1:Ru (upd (upd H t (.tup ts)) lr (.lst (rr++[.ref t]))) (rr++[.ref t]) (Rs++[rs]):=(rl.mono t1).snoc (by rw[Zh ntr,Zc]) (tl.mono t1)
 have tl1:=tl.mono t1;generalize upd (upd H t (.tup ts)) lr (.lst (rr++[.ref t]))=H1 at k1 t1 r1 rl1 tl1
 have hp1:=k1 _ _ hp nrp;have hb1:=k1 _ _ hb nb;have hd1:=k1 _ _ hd (Ne.symm nrd);refine⟨_,rfl,p,a.zki,dx,_,_,rfl,hp1,T.zk0,T.zl6,Rh,lr,_,rfl,.inl (SqL.of r1),?_⟩;have hN:(((rr++[V.ref t]).length:Nat):Int)=((Rs.length+1:Nat):Int):=by rw[z0w,rl.length];rfl
 rw[hN];refine⟨_,rfl,b,rfl,⟨_,SqL.of hb1⟩,Wb (K:=K) (a:=b) (xs:=ts) (fun i σ H'=>(∃ v1 v2 v3 v4,σ=[some (.ref p),some (.ref b),some (.int ((Rs.length+1:Nat):Int)),v1,v2,v3,v4])/\(∀ x o,H1 x=some o->x≠ld->H' x=some o) /\
  ∃ kvs',H' ld=some (.dT kvs')/\Ca kvs' (Mq Rs rs i)/\kvs'.length<=2*(tot Rs+i)) ⟨⟨_,_,_,_,rfl⟩,fun _ _ e _=>e,kvs,hd1,by rw[zbv];exact mt,by omega⟩ (fun i σ H' _ ⟨_,k,_⟩=>SqL.of (k _ _ hb1 nbd)) ?_ ?_⟩
 ·rintro i x σ H' hx ⟨⟨v1,v2,v3,v4,rfl⟩,k2,kvs',hd2,mt2,kl2⟩
  obtain⟨tr,r,rfl,hr3,htr⟩:=zdw tl1 hx;have hi:i<rs.length:=(z0v.mp hr3).1;have htr2:=k2 _ _ htr (Yt htr hd1 (by intro z;cases z))
  refine⟨tr,_,rfl,SqT.of htr2,rfl,_,_,rfl,_,_,rfl,_,_,rfl,_,_,rfl,rfl,?_⟩;refine⟨_,rfl,rfl,_,rfl,?_⟩;cases hw:r.w with
  | none =>
    refine iteF ?_;exact⟨⟨_,_,_,_,rfl⟩,k2,kvs',hd2,by rw[zbw hr3 hw];exact mt2,by omega⟩
  | some w =>
    refine iteT ?_;have hp2:=k2 _ _ hp1 npd;refine⟨_,rfl,_,rfl,p,a.zki,dx,_,_,rfl,hp2,T.zk0,T.zlu,Qv,_,rfl,_,rfl,sz2,fun t2 ht2=>⟨ld,_,rfl,DPut.t (k:=[Sum.inl w,Sum.inl r.h]) (by rw[Zh (Zg hd2 ht2)];exact hd2) Zc ((z24 (z16 (show _<=200000 by omega) (by decide)) Td)),?_⟩⟩
    have k3:∀ x o,H1 x=some o->x≠ld->upd (upd H' t2 (.tup [oV (some w),.int r.h])) ld (.dT (putK kvs' [Sum.inl w,Sum.inl r.h] (.int ((Rs.length+1:Nat):Int)))) x=some o:=fun x o e n=>by
     have:=k2 x o e n;rw[Zh n,Zh (Zg this ht2)];exact this
    have hd3:upd (upd H' t2 (.tup [oV (some w),.int r.h])) ld (.dT (putK kvs' [Sum.inl w,Sum.inl r.h] (.int ((Rs.length+1:Nat):Int)))) ld=some (.dT (putK kvs' [Sum.inl w,Sum.inl r.h] (.int ((Rs.length+1:Nat):Int)))):=Zc;have l3:=Y1 kvs' ([Sum.inl w,Sum.inl r.h]:List Key) (.int ((Rs.length+1:Nat):Int));generalize upd (upd H' t2 (.tup [oV (some w),.int r.h])) ld (.dT (putK kvs' [Sum.inl w,Sum.inl r.h] (.int ((Rs.length+1:Nat):Int))))=H3 at k3 hd3
    have hp3:=k3 _ _ hp1 npd;refine⟨_,rfl,_,rfl,p,a.zki,dx,_,_,rfl,hp3,T.zk0,T.zlu,Qv,_,rfl,_,rfl,sz2,fun t4 ht4=>⟨ld,_,rfl,DPut.t (k:=[Sum.inl w,Sum.inl r.g]) (by rw[Zh (Zg hd3 ht4)];exact hd3) Zc ((z24 (z16 (show _<=200000 by omega) (by decide)) Td)),?_⟩⟩
    refine⟨⟨_,_,_,_,rfl⟩,fun x o e n=>?_,_,Zc,?_,?_⟩
    ·have:=k3 x o e n
     rw[Zh n,Zh (Zg this ht4)];exact this
    ·rw[<- zbx hr3 hw]
     exact(mt2.put w r.h _ (Nat.succ_pos _)).put w r.g _ (Nat.succ_pos _)
    ·have:=Y1 (putK kvs' ([Sum.inl w,Sum.inl r.h]:List Key) (.int ((Rs.length+1:Nat):Int))) ([Sum.inl w,Sum.inl r.g]:List Key) (.int ((Rs.length+1:Nat):Int))
     omega
 ·rintro σ H' ⟨⟨v1,v2,v3,v4,rfl⟩,k2,kvs',hd2,mt2,kl2⟩
  rw[hlen] at mt2 kl2
  rw[zdz] at mt2
  refine h H' ⟨⟨dx,k2 _ _ hp1 npd⟩,⟨_,k2 _ _ r1 nrd,rl1.mono fun x xs e=>k2 _ _ e (Yt e hd1 (by intro z;cases z))⟩,kvs',hd2,mt2,by rw[zdy];exact kl2⟩ fun x o e n1 n2=>k2 x o (k1 x o e n1) n2
noncomputable abbrev U2:Stmt:=Z4 (top 24) 2
theorem Io:Zl ["self"] ["self"] (Zj U2):=fnS
theorem Ip(F:Fun K "over" "Ledger.over" U2 f fd)(T:Tx K mg a):Z6 P w K mg base (CX1 P w) 1 f fd ["self"] (Mp a.zki):=by
 refine F.okX Io (by walk_at "ar") fun _ _ _ _ H _ Q E hr h=>?_
 obtain⟨p,lr,ld,Rs,rfl,LA,h⟩:=h;refine⟨_,(Ze (Zm (Zn (cL K) (by rfl) T.zkq PySem.boot_len (Za (Zp (K:=K) rfl (pv 0) rfl) Zd)))),?_⟩
 obtain⟨⟨dx,hp⟩,⟨rr,hlr,rl⟩,_⟩:=LA;refine⟨_,rfl,p,a.zki,dx,_,_,rfl,hp,T.zk0,T.zl6,Rh,lr,_,rfl,.inl (SqL.of hlr),?_⟩;rw[rl.length];exact h
noncomputable abbrev Uc:Stmt:=Z4 (top 24) 3
theorem Kl:Zl ["self","at"] ["self","at"] (Zj Uc):=fnS
theorem Km(F:Fun K "facts" "Ledger.facts" Uc f fd)(T:Tx K mg a):Z6 P w K mg base (CX1 P w) 1 f fd ["self","at"] (zao a.zki a.zlb):=by
 refine F.okX Kl (by walk_at "ar") fun _ _ _ _ H _ Q E hr h=>?_
 obtain⟨p,lr,ld,Rs,i,rfl,LA,si,h1,h2⟩:=h;refine⟨_,(Zb (Z5 (PW.pt (V0 (Zo G4 (pv 1) Zi (Zw _)) (Ws (Zo Ra (pv 1) (Zn (cL K) (by rfl) T.zkq PySem.boot_len (Za (Zp (K:=K) rfl (pv 0) rfl) Zd)) (Zw _)))))
  (Ze (Xf Xe rfl T.zox rfl (Za (W9 (Z1 (Xr (by decide +kernel)) (Z1 (W2 (pv 1)) (Z1 (Xr (by decide +kernel)) W8))) (by decide)) Zd)))
  Zr)
 (Ze (Zm (Y7 (Yq (K:=K) rfl) (by rfl) T.zlg PyProof.Rows.boot_list (Za (pI (iL K) (Zp (K:=K) rfl (pv 0) rfl) (Zv Rr (pv 1) Zi)) Zd))))),?_⟩
 obtain⟨⟨dx,hp⟩,⟨rr,hlr,rl⟩,_⟩:=LA;refine⟨_,rfl,_,_,rfl,rfl,_,rfl,?_⟩;refine itD (fun hc=>?_) (fun hc=>?_)
 ·refine iteT ?_
  exact⟨_,rfl,.inl ⟨_,rfl,si⟩,fun z=>⟨sz1,h1 (.inl hc)⟩⟩
 refine⟨_,rfl,_,rfl,p,a.zki,dx,_,_,rfl,hp,T.zk0,T.zl6,Rh,lr,_,rfl,.inl (SqL.of hlr),_,_,rfl,rfl,_,rfl,?_⟩;rw[rl.length];refine itD (fun hc2=>?_) (fun hc2=>?_)
 ·exact⟨_,rfl,.inl ⟨_,rfl,si⟩,fun z=>⟨sz1,h1 (.inr hc2)⟩⟩
 obtain⟨k,rfl⟩:∃ k:Nat,i=(k:Int)+1:=⟨(i-1).toNat,by omega⟩
 have hk:k<Rs.length:=by omega
 obtain⟨t,xs,e1,e2,e3⟩:=rl.getR (z0u hk);refine⟨_,rfl,p,a.zki,dx,_,_,rfl,hp,T.zk0,T.zl6,Rh,_,rfl,_,_,rfl,rfl,lr,_,_,_,rfl,rfl,SqL.of hlr,(show atI rr ((k:Int)+1-1)=some (.ref t) by rw[show (k:Int)+1-1=(k:Int) by omega];exact Z8 e1),t,xs,rfl,.inr (SqT.of e2),fun l hl=>h2 k _ rfl (z0u hk) l xs hl e3⟩
noncomputable abbrev Tw:Stmt:=Z4 (top 24) 4
theorem Ge:Zl ["self","number","club"] ["self","number","club"] (Zj Tw):=fnS
theorem Gf(F:Fun K "met" "Ledger.met" Tw f fd)(T:Tx K mg a):Z6 P w K mg base (CX1 P w) 1 f fd ["self","number","club"] (zgn a.zki):=by
 refine F.okX Ge (by walk_at "ar") fun _ _ _ _ H _ Q E hr h=>?_
 obtain⟨p,lr,ld,Rs,n,c,rfl,LA,h⟩:=h;have hu:=Wm hr;refine⟨_,(Ze (Zm (zdi hu (Zp (K:=K) rfl (pv 0) rfl) (Ye (Za (pv 1) (Za (pv 2) Zd))) Zi ⟨rfl,rfl,rfl,rfl⟩))),?_⟩;obtain⟨⟨dx,hp⟩,_,⟨kvs,hd,mt,kl⟩⟩:=LA;refine⟨_,rfl,p,a.zki,dx,_,_,rfl,hp,T.zk0,T.zlu,Qv,ld,rfl,.inr ⟨kvs,.inl hd⟩,_,rfl,_,rfl,sz2,fun t ht=>⟨_,DGet.t (k:=[Sum.inl n,Sum.inl c]) (by rw[Zh (Zg hd ht)];exact hd) Zc,?_⟩⟩
 have e:((valV kvs ([Sum.inl n,Sum.inl c]:List Key)).getD (.int 0))=.int (metS Rs n c:Nat):=by
  rw[mt n c];split
  ·rename_i z;rw[z];rfl
  ·rfl
 rw[e];exact h _ (Zf ht)
noncomputable abbrev U3:Stmt:=top 26
theorem Iq:Zl ["value","least","most"] ["value","least","most"] (Zj U3):=fnS
theorem Ir(F:Fun K "check_range" "check_range" U3 f fd)(T:Tx K mg a):Z6 P w K mg base (CX1 P w) 1 f fd ["value","least","most"] (Nn a.zk2):=by
 refine F.okX Iq (by walk_at "ar") fun _ _ _ _ H _ Q E hr h=>?_
 obtain⟨v,lo,m,rfl,s1,s2,s3,h⟩:=h;refine⟨_,(Ze (Z5 (PW.pt (V0 (Zo G4 (pv 0) (pv 1) (Zw _)) (Ws (Zo Ra (pv 0) (pv 2) (Zw _)))))
  (Ze (Xf Xe rfl T.zqh rfl (Za (W9 (Z1 (W2 (pv 0)) (Z1 (Xr (by decide +kernel)) (Z1 (W2 (pv 1)) (Z1 (Xr (by decide +kernel)) (Z1 (W2 (pv 2)) W8))))) (by decide)) Zd)))
  Zr)),?_⟩
 walk_at "rd";refine itD (fun h1=>?_) (fun h1=>?_)
 ·rw[if_pos (Or.inl h1)] at h
  refine iteT ?_;walk_at "rd";refine⟨.inl ⟨_,rfl,s1⟩,_,rfl,.inl ⟨_,rfl,s2⟩,_,rfl,.inl ⟨_,rfl,s3⟩,fun z=>⟨sz1,h⟩⟩
 ·walk_at "rd"
  refine itD (fun h2=>?_) (fun h2=>?_)
  ·rw[if_pos (Or.inr h2)] at h
   walk_at "rd";refine⟨.inl ⟨_,rfl,s1⟩,_,rfl,.inl ⟨_,rfl,s2⟩,_,rfl,.inl ⟨_,rfl,s3⟩,fun z=>⟨sz1,h⟩⟩
  ·rw[if_neg (fun z=>z.elim h1 h2)] at h
   exact h
noncomputable abbrev U4:Stmt:=top 36
theorem Q4:Zl ["matches","count"] ["matches"] (Zj U4):=fnS
theorem Iu(F:Fun K "check_count" "check_count" U4 f fd)(T:Tx K mg a):Z6 P w K mg base (CX1 P w) 1 f fd ["matches"] (Cs K (ca a)):=by
 refine F.okX Q4 (by walk_at "ar") fun _ _ _ _ H _ Q E hr h=>?_
 obtain⟨b,ts,rfl,hs,hl,h1,h2⟩:=h;refine⟨_,(Zb (pS 1 Q4.nd (Zn (cL K) (by rfl) T.zkq PySem.boot_len (Za (pv 0) Zd)))
 (Ze (Z5 (Zo Ra (pv 1) (Wu rfl T.zlo) (Zw _))
  (Ze (Xf Xe rfl T.zpv rfl (Za (W9 (Z1 (W2 (pv 1)) (Z1 (Xr (by decide +kernel)) (Z1 (W2 (Wu rfl T.zlo)) W8))) (by decide)) Zd)))
  Zr))),?_⟩
 refine⟨_,rfl,b,_,rfl,.inl hs,?_⟩;walk_at "rd";refine itD (fun hc=>?_) (fun hc=>?_)
 ·walk_at "rd"
  exact⟨.inl ⟨_,rfl,Ym (by omega) (by omega)⟩,.inl ⟨_,rfl,Yj (by decide)⟩,fun z=>⟨sz1,h1 (by omega)⟩⟩
 ·exact h2 (by omega)
noncomputable abbrev Ud:Stmt:=top 37
theorem Vn:Zl ["matches","home","guest","grade"] ["matches"] (Zj Ud):=fnS
theorem Kn(F:Fun K "check_ranges" "check_ranges" Ud f fd)(T:Tx K mg a)(zks:Z9 P w K mg base "check_range" 1 ["value","least","most"] (Nn a.zk2)):Z6 P w K mg base (CX1 P w) 2 f fd ["matches"] (Fw K (ca a)):=by
 refine F.okX Vn (by walk_at "ar") fun _ _ _ _ H _ Q E hr h=>?_
 obtain⟨b,ts,Ms,rfl,hs,tl,sm,h1,h2⟩:=h;refine⟨_,(Ze (Y6 PassesOwn.leaving rfl (Yh (K:=K) rfl (pv 0)) (Wg (K:=K) (n:=3) rfl rfl (Zy (pN 1 Vn.nd) (Zy (pN 2 Vn.nd) (Zy (pN 3 Vn.nd) Wf))))
  (Zb (Z7 (pF zks hr (Za (pv 1) (Za Zi (Za (Wu rfl T.zlt) Zd)))))
  (Zb (Z7 (pF zks hr (Za (pv 2) (Za Zi (Za (Wu rfl T.zlt) Zd)))))
  (Ze (Z7 (pF zks hr (Za (pv 3) (Za Zi (Za (Wu rfl T.zlz) Zd)))))))))),?_⟩
 have hlen:ts.length=Ms.length:=by rw[tl.length,z0t]
 let jv1:Nat->L2.St->Hp->Prop:=fun i σ H'=>H'=H/\(∃ v1 v2 v3,σ=[some (.ref b),v1,v2,v3])/\∀ m∈Ms.take i,¬ badM m
 refine⟨_,rfl,b,rfl,⟨_,hs⟩,Wb (K:=K) (a:=b) (xs:=ts) jv1 ⟨rfl,⟨_,_,_,rfl⟩,by simp⟩ (fun i σ H' _ ⟨e,_⟩=>e▸hs) ?_ ?_⟩
 ·rintro i x σ H' hx ⟨rfl,⟨v1,v2,v3,rfl⟩,hi⟩
  obtain⟨t,m,rfl,hm,ht⟩:=Nk tl hx;have hmem:=z05 hm;obtain⟨s1,s2,s3⟩:=sm m hmem;have bad:badM m->E (.ref a.zk2) none H':=fun hb=>h1 ⟨m,hmem,hb⟩
  refine⟨t,_,rfl,SqT.of ht,rfl,_,_,rfl,_,_,rfl,_,_,rfl,rfl,?_⟩;refine⟨_,rfl,_,1,99,rfl,s1,Yj (by decide),Yj (by decide),?_⟩
  refine Hu (fun b1=>bad (by unfold badM;omega)) (fun b1=>?_)
  refine⟨_,rfl,_,1,99,rfl,s2,Yj (by decide),Yj (by decide),?_⟩
  refine Hu (fun b2=>bad (by unfold badM;omega)) (fun b2=>?_)
  refine⟨_,rfl,_,1,9,rfl,s3,Yj (by decide),Yj (by decide),?_⟩
  refine Hu (fun b3=>bad (by unfold badM;omega)) (fun b3=>?_)
  exact⟨rfl,⟨_,_,_,rfl⟩,Fv hm hi (by unfold badM;omega)⟩
 ·rintro σ H' ⟨rfl,⟨v1,v2,v3,rfl⟩,hi⟩
  rw[hlen,z1b] at hi
  exact h2 fun ⟨m,hm,hb⟩=>hi m hm hb
noncomputable abbrev U5:Stmt:=top 38
theorem Ue:Zl ["matches","home","guest","grade"] ["matches"] (Zj U5):=fnS
theorem Iv(F:Fun K "check_clubs" "check_clubs" U5 f fd)(T:Tx K mg a):Z6 P w K mg base (CX1 P w) 1 f fd ["matches"] (Ct K (ca a)):=by
 refine F.okX Ue (by walk_at "ar") fun _ _ _ _ H _ Q E hr h=>?_
 obtain⟨b,ts,Ms,rfl,hs,tl,sm,h1,h2⟩:=h;refine⟨_,(Ze (Y6 PassesOwn.leaving rfl (Yh (K:=K) rfl (pv 0)) (Wg (K:=K) (n:=3) rfl rfl (Zy (pN 1 Ue.nd) (Zy (pN 2 Ue.nd) (Zy (pN 3 Ue.nd) Wf))))
  (Ze (Z5 (Zo W0 (pv 1) (pv 2) (Zw _))
   (Ze (Xf Xe rfl T.zqn rfl (Za (W9 (Z1 (Xr (by decide +kernel)) (Z1 (W2 (pv 1)) (Z1 (Xr (by decide +kernel)) W8))) (by decide)) Zd)))
   Zr)))),?_⟩
 have hlen:ts.length=Ms.length:=by rw[tl.length,z0t]
 let jv2:Nat->L2.St->Hp->Prop:=fun i σ H'=>H'=H/\(∃ v1 v2 v3,σ=[some (.ref b),v1,v2,v3])/\∀ m∈Ms.take i,¬ (m.1=m.2.1)
 refine⟨_,rfl,b,rfl,⟨_,hs⟩,Wb (K:=K) (a:=b) (xs:=ts) jv2 ⟨rfl,⟨_,_,_,rfl⟩,by simp⟩ (fun i σ H' _ ⟨e,_⟩=>e▸hs) ?_ ?_⟩
 ·rintro i x σ H' hx ⟨rfl,⟨v1,v2,v3,rfl⟩,hi⟩
  obtain⟨t,m,rfl,hm,ht⟩:=Nk tl hx;have hmem:=z05 hm;obtain⟨s1,s2,s3⟩:=sm m hmem;refine⟨t,_,rfl,SqT.of ht,rfl,_,_,rfl,_,_,rfl,_,_,rfl,rfl,?_⟩;refine⟨_,rfl,_,rfl,rfl,_,rfl,?_⟩;refine itV (fun he=>?_) (fun he=>?_)
  ·exact⟨_,rfl,.inl ⟨_,rfl,s1⟩,fun z=>⟨sz1,h1 ⟨m,hmem,he⟩⟩⟩
  ·exact⟨rfl,⟨_,_,_,rfl⟩,Fv (p:=fun m=>m.1=m.2.1) hm hi he⟩
 ·rintro σ H' ⟨rfl,⟨v1,v2,v3,rfl⟩,hi⟩
  rw[hlen,z1b] at hi
  exact h2 fun ⟨m,hm,hb⟩=>hi m hm hb
noncomputable abbrev Pn:Stmt:=top 39
theorem Ay:Zl ["matches"] ["matches"] (Zj Pn):=fnS
theorem Az(F:Fun K "checked" "checked" Pn f fd)(T:Tx K mg a)(zn4:Z9 P w K mg base "check_count" 1 ["matches"] (Cs K (ca a)))(znf:Z9 P w K mg base "check_ranges" 2 ["matches"] (Fw K (ca a)))(zny:Z9 P w K mg base "check_clubs" 1 ["matches"] (Ct K (ca a))):Z6 P w K mg base (CX1 P w) 3 f fd ["matches"] (J3 K (ca a)):=by
 refine F.okX Ay (by walk_at "ar") fun _ _ _ _ H _ Q E hr h=>?_
 obtain⟨b,ts,Ms,rfl,hs,tl,sm,hl,h1,h2,h3,h4⟩:=h;refine⟨_,(Zb (Z7 (pF zn4 hr (Za (pv 0) Zd)))
 (Zb (Z7 (pF znf hr (Za (pv 0) Zd)))
 (Zb (Z7 (pF zny hr (Za (pv 0) Zd)))
 (Ze (Zm (Y7 (Yq (K:=K) rfl) (by rfl) T.zlg PyProof.Rows.boot_list (Za (pv 0) Zd))))))),?_⟩
 have hlen:ts.length=Ms.length:=by rw[tl.length,z0t]
 refine⟨_,rfl,b,ts,rfl,hs,by omega,fun hc=>h1 (by omega),fun hc=>?_⟩
 refine⟨_,rfl,b,ts,Ms,rfl,hs,tl,sm,fun hb=>h2 (by omega) hb,fun hb=>?_⟩
 refine⟨_,rfl,b,ts,Ms,rfl,hs,tl,sm,fun hb2=>h3 (by omega) hb hb2,fun hb2=>?_⟩
 exact⟨_,rfl,b,ts,rfl,.inl hs,h4 (by omega) hb hb2⟩
noncomputable abbrev Ww:Stmt:=Z4 (top 41) 0
theorem O2:Zl ["self"] ["self"] (Zj Ww):=fnS
theorem O3(F:Fun K "__init__" "Roster.__init__" Ww f fd)(T:Tx K mg a):Z6 P w K mg base (CX1 P w) 1 f fd ["self"] (zat (ca a)):=by
 refine F.okX O2 (by walk_at "ar") fun _ _ _ _ H _ Q E hr h=>?_
 obtain⟨p,dx,rfl,hp,h⟩:=h;refine⟨_,(Ze (Xb (K:=K) rfl (pv 0) Jl rfl)),?_⟩;intro d hd;exact⟨_,rfl,p,a.zkl,dx,[],rfl,(by rw[Zh (Zg hp hd)];exact hp),T.zkz,T.zld,(by decide),h d hd⟩
noncomputable abbrev Wi:Stmt:=Z4 (top 41) 1
theorem Pw:Zl ["self","number","grade","club"] ["self","number","grade","club"] (Zj Wi):=fnS
theorem Px(F:Fun K "check_new" "Roster.check_new" Wi f fd)(T:Tx K mg a)(zks:Z9 P w K mg base "check_range" 1 ["value","least","most"] (Nn a.zk2)):Z6 P w K mg base (CX1 P w) 2 f fd ["self","number","grade","club"] (Oo (ca a)):=by
 refine F.okX Pw (by walk_at "ar") fun _ _ _ _ H _ Q E hr h=>?_
 obtain⟨p,d,R,n,g,c,rfl,RA,sm,h⟩:=h;have hu:=Wm hr;refine⟨_,(Zb (Z7 (pF zks hr (Za (pv 1) (Za Zi (Za (Wu rfl T.zl9) Zd)))))
 (Zb (Z7 (pF zks hr (Za (pv 2) (Za Zi (Za (Wu rfl T.zlz) Zd)))))
 (Zb (Z7 (pF zks hr (Za (pv 3) (Za Zi (Za (Wu rfl T.zlt) Zd)))))
 (Zb (Z5 (S6 (Qq hu (pv 1) (Zp (K:=K) rfl (pv 0) rfl)))
  (Ze (Xf Xe rfl T.zqb rfl (Za (W9 (Z1 (Xr (by decide +kernel)) (Z1 (W2 (pv 1)) (Z1 (Xr (by decide +kernel)) W8))) (by decide)) Zd)))
  Zr)
 (Ze (Z5 (Zo zc4 (Zn zbp (by rfl) T.zkq PySem.boot_len (Za (Zp (K:=K) rfl (pv 0) rfl) Zd)) (Wu rfl T.zlc) (Zw _))
  (Ze (Xf Xe rfl T.zo6 rfl (Za (W9 (Z1 (Xr (by decide +kernel)) (Z1 (W2 (Wu rfl T.zlc)) (Z1 (Xr (by decide +kernel)) W8))) (by decide)) Zd)))
  Zr)))))),?_⟩
 obtain⟨sn,sg,sc⟩:=sm;obtain⟨⟨dx,kvs,hp,hd,en⟩,nd⟩:=id RA;have bad:∀ {A B:Prop},(badI n g c->(if badI n g c then A else B)->A):=fun hb z=>by rw[if_pos hb] at z;exact z
 refine⟨_,rfl,n,1,999,rfl,sn,Yj (by decide),Yj (by decide),?_⟩
 refine Hu (fun b1=>bad (by unfold badI;omega) h) (fun b1=>?_)
 refine⟨_,rfl,g,1,9,rfl,sg,Yj (by decide),Yj (by decide),?_⟩
 refine Hu (fun b2=>bad (by unfold badI;omega) h) (fun b2=>?_)
 refine⟨_,rfl,c,1,99,rfl,sc,Yj (by decide),Yj (by decide),?_⟩
 refine Hu (fun b3=>bad (by unfold badI;omega) h) (fun b3=>?_)
 rw[if_neg (by unfold badI;omega)] at h
 refine⟨_,rfl,_,rfl,p,a.zkl,dx,_,_,rfl,hp,T.zkz,T.zld,Vw,d,_,rfl,DGet.k (k:=Sum.inl n) hd,_,rfl,?_⟩;rw[en.isSome nd];refine itD (fun hn=>?_) (fun hn=>?_)
 ·rw[if_pos hn] at h
  exact⟨_,rfl,.inl ⟨_,rfl,sn⟩,fun z=>⟨sz1,h⟩⟩
 rw[if_neg hn] at h
 refine⟨_,rfl,p,a.zkl,dx,_,_,rfl,hp,T.zkz,T.zld,Vw,d,_,rfl,hd,_,_,rfl,rfl,_,rfl,?_⟩;rw[en.length];refine itD (fun hz=>?_) (fun hz=>?_)
 ·rw[if_pos (by omega)] at h
  exact⟨.inl ⟨_,rfl,Yj (by decide)⟩,fun z=>⟨sz1,h⟩⟩
 rw[if_neg (by omega)] at h
 exact h
noncomputable abbrev Xy:Stmt:=Z4 (top 41) 2
theorem Qi:Zl ["self","number"] ["self","number"] (Zj Xy):=fnS
theorem Qj(F:Fun K "check_known" "Roster.check_known" Xy f fd)(T:Tx K mg a):Z6 P w K mg base (CX1 P w) 1 f fd ["self","number"] (Ts (ca a)):=by
 refine F.okX Qi (by walk_at "ar") fun _ _ _ _ H _ Q E hr h=>?_
 obtain⟨p,d,R,n,rfl,RA,sn,h⟩:=h;have hu:=Wm hr;refine⟨_,(Ze (Z5 (S6 (Mm hu (pv 1) (Zp (K:=K) rfl (pv 0) rfl)))
  (Ze (Xf Xe rfl T.zpr rfl (Za (W9 (Z1 (Xr (by decide +kernel)) (Z1 (W2 (pv 1)) (Z1 (Xr (by decide +kernel)) W8))) (by decide)) Zd)))
  Zr)),?_⟩
 obtain⟨⟨dx,kvs,hp,hd,en⟩,nd⟩:=id RA;refine⟨_,rfl,_,rfl,p,a.zkl,dx,_,_,rfl,hp,T.zkz,T.zld,Vw,d,_,rfl,DGet.k (k:=Sum.inl n) hd,_,rfl,?_⟩;rw[en.isSome nd];by_cases hn:n∈R.map (·.1)
 ·rw[z01 hn]
  rw[if_pos hn] at h
  exact iteF h
 ·rw[z07 hn]
  rw[if_neg hn] at h
  exact iteT ⟨_,rfl,.inl ⟨_,rfl,sn⟩,fun z=>⟨sz1,h⟩⟩
noncomputable abbrev Tz:Stmt:=Z4 (top 41) 3
theorem Gg:Zl ["self","number","grade","club"] ["self","number","grade","club"] (Zj Tz):=fnS
theorem Gh(F:Fun K "add" "Roster.add" Tz f fd)(T:Tx K mg a)(zk5:Zu P w K mg base a.zkl "check_new" 2 ["self","number","grade","club"] (Oo (ca a))):Z6 P w K mg base (CX1 P w) 3 f fd ["self","number","grade","club"] (zej (ca a)):=by
 refine F.okX Gg (by walk_at "ar") fun _ _ _ _ H _ Q E hr h=>?_
 obtain⟨p,d,R,n,g,c,rfl,RA,sm,hl,h⟩:=h;have hu:=Wm hr;refine⟨_,(Zb (Z7 (Yy (pv 0) T.zkz zk5 (hr.mono (by decide)) Zk (Za (pv 1) (Za (pv 2) (Za (pv 3) Zd)))))
 (Ze (Ys hu (Zp (K:=K) rfl (pv 0) rfl) (pv 1) (Ye (Za (pv 2) (Za (pv 3) Zd))) rfl))),?_⟩
 obtain⟨⟨dx,kvs,hp,hd,en⟩,nd⟩:=id RA;refine⟨_,rfl,p,dx,_,rfl,hp,Xm.no (by decide +kernel),_,rfl,_,rfl,_,rfl,p,d,R,n,g,c,rfl,RA,sm,?_⟩
 refine it2 h (fun _ z=>z) fun hb h=>it2 h (fun _ z=>z) fun hn h=>it2 h (fun _ z=>z) fun hz h=>?_
 refine⟨_,rfl,_,rfl,sz2,fun t ht=>?_⟩
 have ntp:p≠t:=Zg hp ht;have ntd:d≠t:=Zg hd ht;have npd:p≠d:=Yt hp hd (by intro z;cases z)
 refine⟨_,rfl,p,a.zkl,dx,_,_,rfl,(by rw[Zh ntp];exact hp),T.zkz,T.zld,Vw,_,rfl,d,_,rfl,DPut.k (k:=Sum.inl n) (by rw[Zh ntd];exact hd) (T9 (by rw[en.length];exact hl)),?_⟩
 rw[zb7 (en.val_none hn)];refine h _ ⟨⟨dx,_,(by rw[Zh npd,Zh ntp];exact hp),Zc,?_⟩,?_⟩ fun b o e hb=>(by rw[Zh hb,Zh (Zg e ht)];exact e)
 ·refine Vv.snoc (by rw[Zh (Ne.symm ntd)];exact Zc) (en.mono fun b xs e=>?_)
  rw[Zh (Yt e hd (by intro z;cases z)),Zh (Zg e ht)];exact e
 ·rw[z0y]
  exact Ej nd hn
noncomputable abbrev Vo:Stmt:=Z4 (top 41) 4
theorem M5:Zl ["self","number"] ["self","number"] (Zj Vo):=fnS
theorem M6(F:Fun K "strike" "Roster.strike" Vo f fd)(T:Tx K mg a):Z6 P w K mg base (CX1 P w) 1 f fd ["self","number"] (Ck (ca a)):=by
 refine F.okX M5 (by walk_at "ar") fun _ _ _ _ H _ Q E hr h=>?_
 obtain⟨p,d,R,n,g,c,rfl,RA,h⟩:=h;refine⟨_,(Ze (Z7 (zdj (Zp (K:=K) rfl (pv 0) rfl) (pv 1) ⟨rfl,rfl,rfl,rfl⟩))),?_⟩;obtain⟨⟨dx,kvs,hp,hd,en⟩,nd⟩:=id RA;have npd:p≠d:=Yt hp hd (by intro z;cases z)
 obtain⟨t,e1,e2⟩:=en.val_some nd (show (n,g,c)∈R++[(n,g,c)] by simp)
 have hn:n∉R.map (·.1):=by
  rw[z0y,List.nodup_append] at nd
  exact fun z=>nd.2.2 n z n (by simp) rfl
 refine⟨_,rfl,p,a.zkl,dx,_,_,rfl,hp,T.zkz,T.zld,Vw,d,rfl,.inl ⟨kvs,.inl hd⟩,_,rfl,kvs,Sum.inl n,_,hd,rfl,e1,?_⟩;refine h _ ⟨⟨dx,_,(by rw[Zh npd];exact hp),Zc,(en.unsnoc hn).mono fun b xs e=>?_⟩,?_⟩ fun b o e hb=>(by rw[Zh hb];exact e)
 ·rw[Zh (Yt e hd (by intro z;cases z))];exact e
 ·rw[z0y,List.nodup_append] at nd;exact nd.1
noncomputable abbrev Vc:Stmt:=Z4 (top 41) 6
theorem Nr:Zl ["self"] ["self"] (Zj Vc):=fnS
theorem Nt(F:Fun K "numbers" "Roster.numbers" Vc f fd)(T:Tx K mg a):Z6 P w K mg base (CX1 P w) 1 f fd ["self"] (Jw (ca a)):=by
 refine F.okX Nr (by walk_at "ar") fun _ _ _ _ H _ Q E hr h=>?_
 obtain⟨p,d,R,rfl,RA,h⟩:=h;refine⟨_,(Ze (Zm (Y7 (Ab rfl) (by rfl) T.zlg PyProof.Rows.boot_list (Za (Zp (K:=K) rfl (pv 0) rfl) Zd)))),?_⟩
 obtain⟨⟨dx,kvs,hp,hd,en⟩,nd⟩:=id RA;refine⟨_,rfl,p,a.zkl,dx,_,_,rfl,hp,T.zkz,T.zld,Vw,d,kvs,rfl,.inl hd,fun l hl=>?_⟩
 rw[en.keys];exact h l hl
noncomputable abbrev Ug:Stmt:=Z4 (top 41) 7
theorem Ko:Zl ["self","number"] ["self","number"] (Zj Ug):=fnS
theorem Kp(F:Fun K "entry" "Roster.entry" Ug f fd)(T:Tx K mg a)(zkn:Zu P w K mg base a.zkl "check_known" 1 ["self","number"] (Ts (ca a))):Z6 P w K mg base (CX1 P w) 2 f fd ["self","number"] (Cm (ca a)):=by
 refine F.okX Ko (by walk_at "ar") fun _ _ _ _ H _ Q E hr h=>?_
 obtain⟨p,d,R,n,rfl,RA,sn,h1,h2⟩:=h;have hu:=Wm hr;refine⟨_,(Zb (Z7 (Yy (pv 0) T.zkz zkn (hr.mono (by decide)) Zk (Za (pv 1) Zd)))
 (Ze (Zm (pD hu (Zp (K:=K) rfl (pv 0) rfl) (pv 1))))),?_⟩
 obtain⟨⟨dx,kvs,hp,hd,en⟩,nd⟩:=id RA;refine⟨_,rfl,p,dx,_,rfl,hp,Xm.no (by decide +kernel),_,rfl,p,d,R,n,rfl,RA,sn,?_⟩
 refine Hu (fun hn=>?_) (fun hn=>h1 hn)
 obtain⟨⟨m,g,c⟩,q,rfl⟩:=z02.mp hn;obtain⟨t,e1,e2⟩:=en.val_some nd q;exact⟨_,rfl,p,a.zkl,dx,_,_,rfl,hp,T.zkz,T.zld,Vw,_,rfl,d,_,rfl,(by rw[<- e1];exact DGet.k (k:=Sum.inl m) hd),h2 g c t q e2⟩
noncomputable abbrev Vp:Stmt:=Z4 (top 41) 10
theorem M7:Zl ["self","number"] ["self","number"] (Zj Vp):=fnS
theorem M8(F:Fun K "person" "Roster.person" Vp f fd)(T:Tx K mg a)(znn:Zu P w K mg base a.zkl "entry" 2 ["self","number"] (Cm (ca a))):Z6 P w K mg base (CX1 P w) 3 f fd ["self","number"] (Jx (ca a)):=by
 refine F.okX M7 (by walk_at "ar") fun _ _ _ _ H _ Q E hr h=>?_
 obtain⟨p,d,R,n,rfl,RA,sn,h1,h2⟩:=h;refine⟨_,(Ze (Zm (Zv (Cn (K:=K) rfl) (Ye (Za (pv 1) Zd)) (Yy (pv 0) T.zkz znn (hr.mono (by decide)) Zk (Za (pv 1) Zd))))),?_⟩
 obtain⟨⟨dx,kvs,hp,hd,en⟩,nd⟩:=id RA;refine⟨_,rfl,sz1,fun t1 ht1=>?_⟩
 have s1:=Zf (o:=.tup [.int n]) ht1;have q1:upd H t1 (.tup [.int n]) t1=some (.tup [.int n]):=Zc;generalize upd H t1 (.tup [.int n])=H1 at s1 q1
 refine⟨_,rfl,p,dx,_,rfl,s1 _ _ hp,Xm.no (by decide +kernel),_,rfl,p,d,R,n,rfl,RA.same s1,sn,fun hn=>h1 hn H1 s1,fun g c t q ht=>?_⟩
 refine⟨t1,t,_,_,rfl,rfl,SqT.of q1,SqT.of ht,by simp,by show 1+2<=sizeLine;exact sz3,fun z=>absurd z (by simp),fun _ t2 ht2=>?_⟩
 exact h2 g c t2 _ q Zc (s1.trans (Zf ht2)) (s1.free ht2)
noncomputable abbrev Nu:Stmt:=top 5
theorem zco:Zl ["people","match","out","ledger","rest"] ["people","match","out","ledger","rest"] (Zj Nu):=fnS
theorem zcp(F:Fun K "takers" "takers" Nu f fd)(T:Tx K mg a)(zln:Z9 P w K mg base "reasons_bars" 3 ["referee","match","out","ledger","rest"] (Mr K a.zki)):Z6 P w K mg base (CX1 P w) 4 f fd ["people","match","out","ledger","rest"] (Ju K a.zki):=by
 refine F.okX zco (by walk_at "ar") fun _ _ _ _ H _ Q E hr h=>?_
 obtain⟨lp,lo,tm,p,lr,ld,Rs,ts,Ms,os,h,gu,d,rest,rfl,hp,tl,ho,hoo,ht,LA,hl,hq⟩:=h;refine⟨_,(Ze (Zm (Ua rfl (cT ["match","ledger","rest","out"] [1,3,4,2]) (Yh (K:=K) rfl (pv 0)) (fun _ _ _ _ _=>Pf (Wa (Ff (K:=K) rfl (zai zln (hr.mono (by decide)) D7 rfl (Za (pv 0) (Za (pv 1) (Za (Na (Jp (K:=K) rfl) (pI (iU K) (pv 0) Zi) (pv 4) (by with_unfolding_all rfl)) (Za (pv 2) (Za (pv 3) Zd)))))) (fun _=>rfl)))) (fun _ _ _ _ _=>(pI (iU K) (pv 0) Zi))))),?_⟩
 have hlen:ts.length=Ms.length:=by rw[tl.length,z0t]
 refine⟨_,rfl,lp,rfl,⟨_,SqL.of hp⟩,?_⟩;refine Wq (K:=K) (a:=lp) (xs:=ts) (fun i ys H'=>Same H H'/\ys=((Ms.take i).filter (So Rs h gu d os rest)).map fun m=>V.int m.1) ⟨Same.refl _,rfl⟩ (fun i ys H' _ ⟨s,_⟩=>SqL.of (s _ _ hp)) (by rw[hlen];exact szN hl) (fun i ys H' ⟨_,e⟩=>by rw[e,z0t];exact z09 (z1n _ _) (z1z _ _)) ?_ ?_
 ·rintro i x ys H' hx ⟨sm,rfl⟩
  obtain⟨t,m,rfl,hm,htt⟩:=Nk tl hx;have htt':=sm _ _ htt;refine⟨_,rfl,_,rfl,_,rfl,t,_,_,_,rfl,rfl,SqT.of htt',(show atI (pV m) 0=some _ from rfl),_,rfl,lo,os,rfl,.inl (SqL.of (sm _ _ ho)),rfl,z2w.mpr (fun y hy=>zd0 (hoo y hy)),_,rfl,_,rfl,t,tm,p,lr,ld,Rs,m.1,m.2.1,m.2.2,h,gu,d,rest,inV (.int m.1) os,rfl,htt',sm _ _ ht,LA.same sm,fun l H2 hl2 s2 _=>?_⟩
  refine⟨_,.inl ⟨_,SqL.of hl2,rfl⟩,?_⟩;have e:((whyS Rs m.1 m.2.1 m.2.2 h gu d (inV (.int m.1) os) rest).map V.str).isEmpty=So Rs h gu d os rest m:=by unfold So;rw[List.isEmpty_map]
  have hys:∀ ys',((Ms.take (i+1)).filter (So Rs h gu d os rest)).map (fun m=>V.int m.1)=((Ms.take i).filter (So Rs h gu d os rest)).map (fun m=>V.int m.1)++ys'↔ys'=if So Rs h gu d os rest m then [V.int m.1] else []:=fun ys'=>by
   rw[z2a,hm,z2c,z0y,z2h];cases q:So Rs h gu d os rest m<;>simp[q,eq_comm]
  dsimp only;rw[e];refine itB (fun hb=>?_) (fun hb=>?_)
  ·rw[Bool.not_not] at hb
   refine⟨_,rfl,t,_,_,_,rfl,rfl,SqT.of (s2 _ _ htt'),(show atI (pV m) 0=some _ from rfl),sm.trans s2,?_⟩
   exact((hys [V.int m.1]).mpr (by rw[hb];rfl)).symm
  ·rw[Bool.not_not] at hb
   refine⟨sm.trans s2,?_⟩;have:=(hys []).mpr (by rw[hb];rfl)
   rw[z2j] at this
   exact this.symm
 ·rintro ys H' ⟨sm,rfl⟩ l hl'
  rw[hlen,z1b];exact hq l _ Zc (sm.trans (Zf hl')) (sm.free hl')
noncomputable abbrev Uh:Stmt:=top 43
theorem Vq:Zl ["given","taken","place","number"] ["given"] (Zj Uh):=fnS
theorem Kq(F:Fun K "places_taken" "places_taken" Uh f fd)(T:Tx K mg a):Z6 P w K mg base (CX1 P w) 1 f fd ["given"] (zar K):=by
 refine F.okX Vq (by walk_at "ar") fun _ _ _ _ H _ Q E hr h=>?_
 obtain⟨b,gs,rfl,hb,ho,hinj,hl,h⟩:=h;have hu:=Wm hr;refine⟨_,(Zb (pS 1 Vq.nd Jl)
 (Zb (Y6 PassesOwn.leaving rfl (zfy (K:=K) rfl rfl T.zm4 (Za (pv 0) Zd)) (Wg (K:=K) (n:=2) rfl rfl (Zy (pN 2 Vq.nd) (Zy (pN 3 Vq.nd) Wf)))
  (Ze (Z5 (Zo V1 (pv 3) Y5 (Zw _))
   (Ze (Ys hu (pv 1) (pv 3) (pv 2) rfl))
   Zr)))
 (Ze (Zm (pv 1))))),?_⟩
 have line:100<sizeLine:=by rw[sizeLine_eq];decide
 intro d hd
 let jv1:Nat->L2.St->Hp->Prop:=fun i σ' H'=>(∃ u v,σ'=[some (.ref b),some (.ref d),u,v])/\Same H H'/\∃ kvs,H' d=some (.dK kvs)/\kvs.length<=i/\(∀ (n:Int) (j:Nat),j<i->gs[j]?=some (.int n)->valV kvs (Sum.inl n:Key)=some (.int (j:Nat)))/\(∀ n:Int,(∀ j:Nat,j<i->gs[j]?≠some (.int n))->valV kvs (Sum.inl n:Key)=none)
 refine⟨_,rfl,b,rfl,⟨gs,SqL.of (Zf hd _ _ hb)⟩,zd8 (xs:=gs) jv1
  ⟨⟨none,none,rfl⟩,Zf hd,[],Zc,z03 _,fun n j hj=>absurd hj (Nat.not_lt_zero _),fun n _=>rfl⟩ (fun i σ' H' hi p=>SqL.of (p.2.1 _ _ hb)) (fun i x t σ' H' hx p htn=>?_) (fun σ' H' p=>?_)⟩
 ·obtain⟨⟨u,v,rfl⟩,hs,kvs,hk,hkl,h1,h2⟩:=p
  have s2:=hs.trans (Zf (o:=.tup [.int (i:Nat),x]) htn);have hk2:=Zf (o:=.tup [.int (i:Nat),x]) htn _ _ hk;refine⟨t,_,rfl,SqT.of Zc,rfl,_,_,rfl,_,_,rfl,rfl,?_⟩;generalize upd H' t (.tup [.int (i:Nat),x])=H2 at s2 hk2
  have hi:i<gs.length:=(z0v.mp hx).1;refine V4 (b:=!decide (x=.non)) (fun Q k=>⟨_,rfl,rfl,_,rfl,k⟩) ?_
  rcases ho x (z05 hx) with rfl|⟨n,rfl⟩
  ·refine iteF (Zz ⟨⟨_,_,rfl⟩,s2,kvs,hk2,by omega,fun n j hj hg=>?_,fun n hn=>h2 n fun j hj=>hn j (by omega)⟩)
   by_cases e:j=i
   ·subst e;rw[hx] at hg;cases hg
   ·exact h1 n j (by omega) hg
  ·refine iteT ⟨_,rfl,_,rfl,_,rfl,d,_,rfl,DPut.k (k:=Sum.inl n) hk2 (by omega),⟨_,_,rfl⟩,?_,_,Zc,?_,fun m j hj hg=>?_,fun m hm=>?_⟩
   ·exact Yc hd s2
   ·exact z09 (Y1 kvs _ _) (by omega)
   ·rw[V2]
    by_cases e:j=i
    ·subst e
     rw[hx] at hg;cases hg
     rw[if_pos rfl]
    ·have hne:¬ ((Sum.inl m:Key)=Sum.inl n):=fun z=>by
      rw[Sum.inl.inj z] at hg
      exact e (hinj j i n hg hx)
     rw[if_neg hne];exact h1 m j (by omega) hg
   ·have hne:¬ ((Sum.inl m:Key)=Sum.inl n):=fun z=>by
     rw[Sum.inl.inj z] at hm
     exact hm i (by omega) hx
    rw[V2,if_neg hne];exact h2 m fun j hj=>hm j (by omega)
 ·obtain⟨⟨u,v,rfl⟩,hs,kvs,hk,hkl,h1,h2⟩:=p
  exact⟨_,rfl,h d kvs H' hk ⟨fun n j hj=>h1 n j (z0v.mp hj).1 hj,fun n hn=>h2 n fun j _=>hn j⟩ hs hd⟩
noncomputable abbrev T1:Stmt:=top 44
theorem X4:Zl ["may","taken","start","into","waiting","done","place","number"] ["may","taken","start"] (Zj T1):=fnS
theorem Gi(F:Fun K "steps_into" "steps_into" T1 f fd)(T:Tx K mg a):Z6 P w K mg base (CX1 P w) 1 f fd ["may","taken","start"] (zef K):=by
 refine F.okX X4 (by walk_at "ar") fun _ _ _ _ H _ Q E hr h=>?_
 obtain⟨l,d,ls,rows,kvs,gs,p,rfl,hl,il,hrl,hd,tk,FP,hp,h⟩:=h;have hu:=Wm hr;refine⟨_,(Zb (pS 3 X4.nd (zac (Sd (pv 2) Y5 zab) rfl rfl (by simp) (by decide)))
 (Zb (pS 4 X4.nd (Ya (Za (pv 2) Zd)))
 (Zb (pS 5 X4.nd Zi)
 (Zb (Du PassesOwn.leaving (Zo G4 (pv 5) (Zn (cL K) (by rfl) T.zkq PySem.boot_len (Za (pv 4) Zd)) (Zw _))
  (Zb (pS 6 X4.nd (pI (iL K) (pv 4) (pv 5)))
  (Zb (pS 5 X4.nd (Zv Xc (pv 5) Zi))
  (Ze (Y6 PassesOwn.leaving rfl (Yh (K:=K) rfl (pI (iL K) (pv 0) (pv 6))) (pN 7 X4.nd)
   (Ze (Z5 (PW.pt (Jf (S6 (Qq hu (pv 7) (pv 1))) (O9 (S6 (Mm hu (pD hu (pv 1) (pv 7)) (pv 3))))))
    (Zb (Ys hu (pv 3) (pD hu (pv 1) (pv 7)) (Ye (Za (pv 6) (Za (pv 7) Zd))) rfl)
    (Ze (Yu (pv 4) (pD hu (pv 1) (pv 7)))))
    Zr)))))))
 (Ze (Zm (pv 3))))))),?_⟩
 show let y1:TS:=_;let y2:TS:=Z2 _ y1;let y3:TS:=_;let y4:TS:=Z2 (zc0 _ (Z2 _ y2)) y3;let y5:TS:=Z2 _ y4;let y6:TS:=Z2 _ y5;Z2 _ y6 _ _ _;intro y1 y2 y3 y4 y5 y6;have line0:200<sizeLine:=by rw[sizeLine_eq];decide
 intro ld hld;refine⟨_,rfl,Zc,[(Sum.inl (p:Int),.non)],rfl,(by show 1<=15;decide),?_⟩
 have s0:Same H (upd (upd H ld (.dK [])) ld (.dK (Rt [] [(Sum.inl (p:Int),.non)]))):=Yc hld (Zf hld);have q0:upd (upd H ld (.dK [])) ld (.dK (Rt [] [(Sum.inl (p:Int),.non)])) ld=some (.dK [((Sum.inl (p:Int):Key),V.non)]):=Zc;generalize upd (upd H ld (.dK [])) ld (.dK (Rt [] [(Sum.inl (p:Int),.non)]))=H1 at s0 q0
 refine⟨_,rfl,sz1,fun ln hln=>?_⟩
 have s1:=Zf (o:=.lst [.int p]) hln;have e1:upd H1 ln (.lst [.int p]) ln=some (.lst (R9 [p])):=Zc;have q1:=s1 _ _ q0;have s01:=s0.trans s1;have nln:ld≠ln:=Zg q0 hln;have fln:H ln=none:=s0.free hln;generalize upd H1 ln (.lst [.int p])=H2 at s1 e1 q1 s01
 have hbound:∀ line:List Nat,line.Nodup->(∀ c∈line,c<rows.length)->line.length<=rows.length:=fun line nd hc=>by
  have:=nd.length_le_of_subset (l₂:=List.range rows.length) fun c hcc=>z15.mpr (hc c hcc)
  rw[z19] at this;exact this
 refine⟨fun m σ' H'=>∃ (line:List Nat) (dep:Nat->Nat) (fr:Nat->Option (Nat×Int)) (into:List (Key×V)) (dn:Nat) (v6 v7:Option V),m=rows.length-dn/\dn<=line.length/\σ'=[some (.ref l),some (.ref d),some (.int p),some (.ref ld),some (.ref ln),some (.int (dn:Nat)),v6,v7]/\Same H H'/\H' ld=some (.dK into)/\H' ln=some (.lst (R9 line))/\X3 H' into line fr/\Bfs rows gs p line dep/\Done rows gs line dep dn/\Sf rows gs p line dep fr/\(∀ q∈line,q<rows.length)/\∀ here,line[dn]?=some here->∀ x∈line,dep x<=dep here+1,
  ⟨_,[p],fun _=>0,fun _=>none,_,0,_,_,rfl,z1j _,rfl,s01,q1,e1,Ai _ _,zb2 rows gs p,fun i q hi=>absurd hi (Nat.not_lt_zero _),Aj,by simpa using hp,fun here _ x _=>z1j _⟩,?_⟩
 rintro m σ Ha ⟨line,dep,fr,into,dn,v6,v7,rfl,hdn,rfl,sa,hda,hna,io,B,Dn,fo,hlt,near⟩;have hll:=hbound _ B.nodup hlt;have hnl:(R9 line).length=line.length:=by unfold R9;rw[z0t]
 refine⟨_,rfl,_,rfl,ln,_,rfl,.inl (SqL.of hna),_,_,rfl,rfl,_,rfl,?_⟩;rw[hnl];by_cases hlt2:dn<line.length
 ·rw[z01 (show ((dn:Nat):Int)<(line.length:Nat) by omega)]
  refine iteT ?_;obtain⟨here,hh⟩:∃ here,line[dn]?=some here:=⟨_,z0u hlt2⟩
  have hhm:=z05 hh;have hhere:=hlt here hhm;have hhv:(R9 line)[dn]?=some (.int (here:Nat)):=by unfold R9;rw[z0x,hh];rfl
  refine⟨fun σ' H'=>∃ (line:List Nat) (dep:Nat->Nat) (fr:Nat->Option (Nat×Int)) (into:List (Key×V)) (v6 v7:Option V),dn+1<=line.length/\σ'=[some (.ref l),some (.ref d),some (.int p),some (.ref ld),some (.ref ln),some (.int ((dn+1:Nat):Int)),v6,v7]/\Same H H'/\H' ld=some (.dK into)/\H' ln=some (.lst (R9 line))/\X3 H' into line fr/\Bfs rows gs p line dep/\Done rows gs line dep (dn+1)/\Sf rows gs p line dep fr/\(∀ q∈line,q<rows.length)/\∀ here,line[dn+1]?=some here->∀ x∈line,dep x<=dep here+1,
   fun σ' H' ⟨line,dep,fr,into,v6,v7,a1,a2,a3,a4,a5,a6,a7,a8,a9,a10,a11⟩=>⟨rows.length-(dn+1),by omega,line,dep,fr,into,dn+1,v6,v7,rfl,a1,a2,a3,a4,a5,a6,a7,a8,a9,a10,a11⟩,?_⟩
  have hr':rows[here]?=some (rows[here]'hhere):=z0u hhere;generalize (rows[here]'hhere)=r at hr'
  obtain⟨lr,e2,e3⟩:=il.getR hr';have hl':(ls.map V.ref)[here]?=some (.ref lr):=by rw[z0x,e2];rfl
  refine⟨_,rfl,_,rfl,ln,_,_,_,rfl,rfl,SqL.of hna,Z8 hhv,?_⟩;refine⟨_,rfl,_,_,rfl,rfl,?_⟩;refine⟨_,rfl,_,rfl,l,_,_,_,rfl,rfl,SqL.of (sa _ _ hl),Z8 hl',lr,rfl,⟨_,SqL.of (sa _ _ e3)⟩,?_⟩
  let jv2:Nat->L2.St->Hp->Prop:=fun j σ' H'=>∃ (line:List Nat) (dep:Nat->Nat) (fr:Nat->Option (Nat×Int)) (into:List (Key×V)) (v7:Option V),σ'=[some (.ref l),some (.ref d),some (.int p),some (.ref ld),some (.ref ln),some (.int ((dn+1:Nat):Int)),some (.int (here:Nat)),v7]/\Same H H'/\H' ld=some (.dK into)/\H' ln=some (.lst (R9 line))/\X3 H' into line fr/\Bfs rows gs p line dep/\Done rows gs line dep dn/\Sf rows gs p line dep fr/\(∀ q∈line,q<rows.length)/\line[dn]?=some here/\(∀ x∈line,dep x<=dep here+1)/\∀ n∈r.take j,∀ q':Nat,gs[q']?=some (.int n)->q'∈line
  refine Wb (K:=K) (a:=lr) (xs:=r.map V.int) jv2
   ⟨line,dep,fr,into,_,rfl,sa,hda,hna,io,B,Dn,fo,hlt,hh,near here hh,by simp⟩ (fun j σ' H' _ ⟨_,_,_,_,_,_,z,_⟩=>SqL.of (z _ _ e3)) ?_ ?_
  ·rintro j y σ' Hx hy ⟨line,dep,fr,into,w7,rfl,sx,hdx,hnx,io,B,Dn,fo,hlt,hh,near,pr⟩
   have hj:j<r.length:=by have:=(z0v.mp hy).1;rw[z0t] at this;exact this
   have hhm:=z05 hh;have hrj:r[j]?=some (r[j]'hj):=z0u hj;have etk:r.take (j+1)=r.take j++[r[j]'hj]:=z1p hj;generalize (r[j]'hj)=n at hrj etk
   have ey:y=.int n:=by rw[z0x,hrj] at hy;exact(Option.some.inj hy).symm
   subst ey;have hnr:=z05 hrj;have hll:=hbound _ B.nodup hlt;have prev:(∀ q':Nat,gs[q']?=some (.int n)->q'∈line)->∀ m∈r.take (j+1),∀ q':Nat,gs[q']?=some (.int m)->q'∈line:=fun k m hm=>by
    rw[etk] at hm
    rcases z06.mp hm with z|z
    ·exact pr m z
    ·rw[z0z.mp z];exact k
   rcases tk.iff n with ⟨q',hq',hv⟩|⟨hno,hv⟩
   ·by_cases hin:q'∈line
    ·refine V4 (b:=false) (fun Q k=>?_) (iteF (Zz ⟨line,dep,fr,into,_,rfl,sx,hdx,hnx,io,B,Dn,fo,hlt,hh,near,prev fun q2 h2=>by rw[FP.inj q2 q' n h2 hq'];exact hin⟩))
     refine⟨_,rfl,_,rfl,d,_,rfl,DGet.k (k:=Sum.inl n) (sx _ _ hd),_,rfl,?_⟩;rw[hv];refine iteT ⟨_,rfl,_,rfl,d,_,rfl,hv▸DGet.k (k:=Sum.inl n) (sx _ _ hd),_,rfl,ld,_,rfl,DGet.k (k:=Sum.inl (q':Int)) hdx,_,rfl,?_⟩;rw[(io.has q').mpr hin];exact k
    ·have hnin:(valV into (Sum.inl (q':Int):Key)).isSome=false:=by
      rw[Bool.eq_false_iff];exact fun z=>hin ((io.has q').mp z)
     have hq'l:q' < rows.length:=by
      have:=(z0v.mp hq').1;rw[FP.len] at this;exact this
     have ha:adjN rows gs here n q':=⟨⟨r,hr',hnr⟩,hq'⟩;obtain⟨B',old,all⟩:=B.app (dn:=dn) hh near ha hin;refine V4 (b:=true) (fun Q k=>?_) (iteT ?_)
     ·refine⟨_,rfl,_,rfl,d,_,rfl,DGet.k (k:=Sum.inl n) (sx _ _ hd),_,rfl,?_⟩
      rw[hv];refine iteT ⟨_,rfl,_,rfl,d,_,rfl,hv▸DGet.k (k:=Sum.inl n) (sx _ _ hd),_,rfl,ld,_,rfl,DGet.k (k:=Sum.inl (q':Int)) hdx,_,rfl,?_⟩;rw[hnin];exact k
     ·refine⟨_,rfl,_,rfl,sz2,fun t ht=>?_⟩
      have t1:=Zf (o:=.tup [.int (here:Nat),.int n]) ht;have st:=sx.trans t1;have hdt:=t1 _ _ hdx;have hnt:=t1 _ _ hnx;have et:upd Hx t (.tup [.int (here:Nat),.int n]) t=some (.tup [.int (here:Nat),.int n]):=Zc;have iot:=io.same t1;generalize upd Hx t (.tup [.int (here:Nat),.int n])=Ht at t1 st hdt hnt et iot
      refine⟨_,rfl,_,rfl,_,rfl,d,_,rfl,hv▸DGet.k (k:=Sum.inl n) (st _ _ hd),ld,_,rfl,DPut.k (k:=Sum.inl (q':Int)) hdt ?_,?_⟩
      ·have:=io.len;omega
      have sd:Same H (upd Ht ld (.dK (putK into (Sum.inl (q':Int)) (.ref t)))):=Yc hld st;have ed:upd Ht ld (.dK (putK into (Sum.inl (q':Int)) (.ref t))) ld=some (.dK (putK into (Sum.inl (q':Int)) (.ref t))):=Zc;have en:upd Ht ld (.dK (putK into (Sum.inl (q':Int)) (.ref t))) ln=some (.lst (R9 line)):=by rw[Zh (Ne.symm nln)];exact hnt
      have iod:X3 (upd Ht ld (.dK (putK into (Sum.inl (q':Int)) (.ref t)))) (putK into (Sum.inl (q':Int)) (.ref t)) (line++[q']) (Lu fr q' (here,n)) :=
       (iot.app hin et).mono fun c xs e=>by rw[Zh (Yt e hdt (fun z=>nomatch z))];exact e
      generalize upd Ht ld (.dK (putK into (Sum.inl (q':Int)) (.ref t)))=Hd at sd ed en iod
      have hsz:(R9 line).length<sizeLine:=by unfold R9;rw[z0t];omega
      refine⟨_,rfl,ln,_,rfl,en,_,rfl,_,rfl,d,_,rfl,hv▸DGet.k (k:=Sum.inl n) (sd _ _ hd),_,en,hsz,line++[q'],V6 dep q' (dep here+1),Lu fr q' (here,n),putK into (Sum.inl (q':Int)) (.ref t),_,rfl,Yc fln sd,?_,?_,?_,B',Dn.app ?_ ⟨_,rfl⟩ old,fo.app hin B.memp hhm ha,?_,?_,?_,?_⟩
      ·rw[Zh nln];exact ed
      ·rw[Zc];unfold R9;rw[z0y];rfl
      ·exact iod.mono fun c xs e=>by rw[Zh (Yt e en (fun z=>nomatch z))];exact e
      ·have:=(z0v.mp hh).1;omega
      ·intro q hq
       rcases z06.mp hq with z|z
       ·exact hlt q z
       ·rw[z0z.mp z];exact hq'l
      ·rw[z1w (z0v.mp hh).1];exact hh
      ·intro x hx
       rw[old here hhm];exact all x hx
      ·intro m hm q2 h2
       rw[etk] at hm
       rcases z06.mp hm with z|z
       ·exact z1m _ (pr m z q2 h2)
       ·rw[z0z.mp z] at h2
        rw[FP.inj q2 q' n h2 hq'];exact z1f _ (z0z.mpr rfl)
   ·refine V4 (b:=false) (fun Q k=>?_) (iteF (Zz ⟨line,dep,fr,into,_,rfl,sx,hdx,hnx,io,B,Dn,fo,hlt,hh,near,prev fun q2 h2=>absurd h2 (hno q2)⟩))
    refine⟨_,rfl,_,rfl,d,_,rfl,DGet.k (k:=Sum.inl n) (sx _ _ hd),_,rfl,?_⟩;rw[hv];exact iteF k
  ·rintro σ' Hx ⟨line,dep,fr,into,w7,rfl,sx,hdx,hnx,io,B,Dn,fo,hlt,hh,near,pr⟩
   rw[z0t,z1b] at pr
   have hlt3:=(z0v.mp hh).1;refine⟨line,dep,fr,into,_,_,by omega,rfl,sx,hdx,hnx,io,B,fun i q hi hq n q' ha=>?_,fo,hlt,fun here2 hh2 x hx=>?_⟩
   ·by_cases e:i=dn
    ·rw[e,hh] at hq;cases hq
     obtain⟨⟨r2,h1,h2⟩,h3⟩:=ha;rw[hr'] at h1;cases h1
     have hm:=pr n h2 q' h3;exact⟨hm,near q' hm⟩
    ·exact Dn i q (by omega) hq n q' ha
   ·have:=B.sorted dn (dn+1) here here2 (by omega) hh hh2
    have:=near x hx;omega
 ·rw[z07 (show ¬ (((dn:Nat):Int)<(line.length:Nat)) by omega)]
  refine iteF ⟨_,rfl,?_⟩;have e:dn=line.length:=by omega
  subst e;exact h ld into line dep fr Ha hda io B Dn fo hlt sa hld
noncomputable abbrev Ui:Stmt:=top 45
theorem Qc:Zl ["numbers","taken","number"] ["numbers","taken"] (Zj Ui):=fnS
theorem Kr(F:Fun K "free_referee" "free_referee" Ui f fd)(T:Tx K mg a):Z6 P w K mg base (CX1 P w) 1 f fd ["numbers","taken"] (Fp K):=by
 refine F.okX Qc (by walk_at "ar") fun _ _ _ _ H _ Q E hr h=>?_
 obtain⟨l,d,r,kvs,rfl,hl,hd,h⟩:=h;have hu:=Wm hr;refine⟨_,(Zb (Y6 PassesOwn.leaving rfl (Yh (K:=K) rfl (pv 0)) (pN 2 Qc.nd)
  (Ze (Z5 (S6 (Mm hu (pv 2) (pv 1)))
   (Ze (Zm (pv 2)))
   Zr)))
 (Ze (Zm Y5))),?_⟩
 let jv3:Nat->L2.St->Hp->Prop:=fun i σ' H'=>(∃ u,σ'=[some (.ref l),some (.ref d),u])/\H'=H/\∀ n∈r.take i,(valV kvs (Sum.inl n:Key)).isSome=true
 refine⟨_,rfl,l,rfl,⟨_,SqL.of hl⟩,Wb (xs:=r.map V.int) jv3
  ⟨⟨none,rfl⟩,rfl,by simp⟩ (fun i σ' H' hi p=>by rw[p.2.1];exact SqL.of hl) (fun i x σ' H' hx p=>?_) (fun σ' H' p=>?_)⟩
 ·obtain⟨⟨u,rfl⟩,rfl,hp⟩:=p
  have hi:i<r.length:=by have:=(z0v.mp hx).1;rw[z0t] at this;exact this
  have e:x=.int (r[i]'hi):=by
   rw[z0x,z0u hi] at hx
   exact(Option.some.inj hx).symm
  subst e;refine V4 (b:=!(valV kvs (Sum.inl (r[i]'hi):Key)).isSome) (fun Q k=>⟨_,rfl,_,rfl,d,_,rfl,DGet.k (k:=Sum.inl (r[i]'hi)) hd,_,rfl,k⟩) ?_
  cases hv:valV kvs (Sum.inl (r[i]'hi):Key) with
  | none=>exact iteT ⟨_,rfl,h (some (r[i]'hi)) (fun n hn=>by cases hn;exact⟨z1s hi,hv⟩) (fun z=>nomatch z)⟩
  | some y =>
    refine iteF (Zz ⟨⟨_,rfl⟩,rfl,fun n hn=>?_⟩)
    rw[z1p hi] at hn
    rcases z06.mp hn with z|z
    ·exact hp n z
    ·rw[z0z.mp z,hv];rfl
 ·obtain⟨⟨u,rfl⟩,rfl,hp⟩:=p
  rw[z0t,z1b] at hp
  exact h none (fun n z=>nomatch z) fun _=>hp
noncomputable abbrev Nv:Stmt:=top 46
theorem Po:Zl ["into","place","number","steps","step"] ["into","place","number"] (Zj Nv):=fnS
theorem zcq(F:Fun K "traced" "traced" Nv f fd)(T:Tx K mg a):Z6 P w K mg base (CX1 P w) 1 f fd ["into","place","number"] (Ci K):=by
 refine F.okX Po (by walk_at "ar") fun _ _ _ _ H _ Q E hr h=>?_
 obtain⟨t,q,p,w,rows,gs,into,line,dep,fr,rfl,ht,io,fo,d0,hp,hq,hdq,h⟩:=h;have hu:=Wm hr;refine⟨_,(Zb (pS 3 Po.nd (Ya (Za (Ye (Za (pv 1) (Za (pv 2) Zd))) Zd)))
 (Zb (pS 4 Po.nd (pD hu (pv 0) (pv 1)))
 (Zb (Du PassesOwn.leaving (Zo V1 (pv 4) Y5 (Zw _))
  (Zb (Yu (pv 3) (pv 4))
  (Ze (pS 4 Po.nd (pD hu (pv 0) (pI (iU K) (pv 4) Zi))))))
 (Zb (Z7 (zdm PySem.F.plainAttrs_list PySem.F.slot_list_reverse PySem.F.type_list_reverse B9 (pv 3)))
 (Ze (Zm (pv 3))))))),?_⟩
 have line0:200<sizeLine:=by rw[sizeLine_eq];decide
 have get:∀ {H':Hp},Same H H'->∀ k:Nat,DGet H' t (.int (k:Nat)) (valV into (Sum.inl (k:Int):Key)):=fun {H'} hs k=>.inl ⟨into,Sum.inl (k:Int),ht.imp (hs _ _) (fun ⟨o,e⟩=>⟨o,hs _ _ e⟩),rfl,rfl⟩
 have fr0:∀ c∈line,fr c=none->c=p:=fun c hc hf=>by
  by_cases e:c=p
  ·exact e
  ·obtain⟨par,n,h1,_⟩:=fo.2 c hc e
   rw[hf] at h1;cases h1
 have some_of:∀ c∈line,∃ v,valV into (Sum.inl (c:Int):Key)=some v:=fun c hc=>z14.mp ((io.has c).mpr hc)
 refine⟨_,rfl,_,rfl,sz2,fun m hm=>⟨sz1,fun lt hlt=>?_⟩⟩
 have s1:=Zf (o:=.tup [.int (q:Nat),oV w]) hm;have e1:upd H m (.tup [.int (q:Nat),oV w]) m=some (.tup (Uy (q,w))):=Zc;generalize upd H m (.tup [.int (q:Nat),oV w])=H1 at s1 e1 hlt
 have s2:=Zf (o:=.lst [V.ref m]) hlt;have e2:upd H1 lt (.lst [V.ref m]) lt=some (.lst [V.ref m]):=Zc;have e3:=s2 _ _ e1;have s3:=s1.trans s2;have hltn:H lt=none:=s1.free hlt;generalize upd H1 lt (.lst [V.ref m])=H2 at s2 e2 e3 s3
 obtain⟨v0,hv0⟩:=some_of q hq;refine⟨_,rfl,_,rfl,t,v0,rfl,hv0▸get s3 q,?_⟩;refine⟨fun mm σ' H'=>∃ (cur:Nat) (st:List (Nat×Option Int)) (ts:List V) (v:V),mm=dep cur/\cur∈line/\valV into (Sum.inl (cur:Int):Key)=some v/\σ'=[some (.ref t),some (.int (q:Nat)),some (oV w),some (.ref lt),some v]/\Same H H'/\H' lt=some (.lst ts)/\Yb H' ts (st.reverse.map Uy)/\Ch rows gs cur st q w/\st.length+dep cur=dep q+1,
  ⟨_,q,[(q,w)],_,v0,rfl,hq,hv0,rfl,s3,e2,.cons e3 .nil,.one q w,by show 1+dep q=_;omega⟩,?_⟩
 rintro mm σ' Ha ⟨cur,st,ts,v,rfl,hc,hv,rfl,sa,hta,htl,hch,hlen⟩;have htsl:ts.length=st.length:=by have:=htl.length;rw[z0t,List.length_reverse] at this;exact this
 refine⟨_,rfl,rfl,_,rfl,?_⟩;cases hf:fr cur with
 | none =>
   have hcp:=fr0 cur hc hf;subst hcp;have hvn:=io.none cur hc hf;rw[hv] at hvn
   cases hvn;refine iteF ?_;refine⟨_,rfl,.inl ⟨rfl,_,SqL.of hta⟩,lt,ts,rfl,rfl,hta,_,rfl,?_⟩;refine h lt ts.reverse st _ Zc ?_ hch (by omega) (Yc hltn sa) hltn
   have hr:=htl.reverse;rw[<- List.map_reverse,List.reverse_reverse] at hr
   exact hr.mono fun c xs e=>by rw[Zh (Yt e hta (fun z=>nomatch z))];exact e
 | some x =>
   obtain⟨par,n⟩:=x;obtain⟨tt,h1,h2⟩:=io.some cur hc par n hf;rw[hv] at h1
   cases h1;have hcp:cur≠p:=fun z=>by rw[z,fo.1] at hf;cases hf
   obtain⟨par',n',h3,h4,h5,h6⟩:=fo.2 cur hc hcp;rw[hf] at h3
   cases h3;obtain⟨v',hv'⟩:=some_of par h4;refine iteT ?_;refine⟨fun σ' H'=>∃ (st:List (Nat×Option Int)) (ts:List V),σ'=[some (.ref t),some (.int (q:Nat)),some (oV w),some (.ref lt),some v']/\Same H H'/\H' lt=some (.lst ts)/\Yb H' ts (st.reverse.map Uy)/\Ch rows gs par st q w/\st.length+dep par=dep q+1,
    fun σ' H' ⟨st,ts,a1,a2,a3,a4,a5,a6⟩=>⟨dep par,by omega,par,st,ts,v',rfl,h4,hv',a1,a2,a3,a4,a5,a6⟩,?_⟩
   have s4:Same H (upd Ha lt (.lst (ts++[V.ref tt]))):=Yc hltn sa;refine⟨_,rfl,lt,_,rfl,hta,_,rfl,_,hta,by omega,?_⟩
   refine⟨_,rfl,_,rfl,tt,_,_,_,rfl,rfl,SqT.of (s4 _ _ h2),rfl,t,v',rfl,hv'▸get s4 par,(par,some n) :: st,ts++[V.ref tt],rfl,s4,Zc,?_,.step h5 hch,?_⟩
   ·rw[z2u,z0y]
    exact(htl.mono fun c xs e=>by rw[Zh (Yt e hta (fun z=>nomatch z))];exact e).snoc (s4 _ _ h2)
   ·rw[z1h];omega
noncomputable abbrev Jd:Stmt:=top 47
theorem Q5:Zl ["may","given","place","taken","into","reached","number"] ["may","given","place"] (Zj Jd):=fnS
theorem ze6(F:Fun K "chain" "chain" Jd f fd)(T:Tx K mg a)(zno:Z9 P w K mg base "places_taken" 1 ["given"] (zar K))(zoi:Z9 P w K mg base "steps_into" 1 ["may","taken","start"] (zef K))(zne:Z9 P w K mg base "free_referee" 1 ["numbers","taken"] (Fp K))(zo9:Z9 P w K mg base "traced" 1 ["into","place","number"] (Ci K)):Z6 P w K mg base (CX1 P w) 2 f fd ["may","given","place"] (Eu K):=by
 refine F.okX Q5 (by walk_at "ar") fun _ _ _ _ H _ Q E hr h=>?_
 obtain⟨l,lg,ls,rows,nu,gs,p,rfl,hl,il,mo,hg,FP,hp,hgp,h⟩:=h;refine⟨_,(Zb (pS 3 Q5.nd (pF zno hr (Za (pv 1) Zd)))
 (Zb (pS 4 Q5.nd (pF zoi hr (Za (pv 0) (Za (pv 3) (Za (pv 2) Zd)))))
 (Zb (Y6 PassesOwn.leaving rfl (zfz (pv 4)) (pN 5 Q5.nd)
  (Zb (pS 6 Q5.nd (pF zne hr (Za (pI (iL K) (pv 0) (pv 5)) (Za (pv 3) Zd))))
  (Ze (Z5 (Zo V1 (pv 6) Y5 (Zw _))
   (Ze (Zm (pF zo9 hr (Za (pv 4) (Za (pv 5) (Za (pv 6) Zd))))))
   Zr))))
 (Ze (Zm (pF zo9 hr (Za (pv 4) (Za (Zn (zb5 rfl) (by rfl) T.zpy PyProof.Rows.boot_max (Za (pv 4) Zd)) (Za Y5 Zd))))))))),?_⟩
 have hrl:rows.length<=100:=z09 mo.few (by decide)
 refine⟨_,rfl,lg,gs,rfl,hg,FP.one,FP.inj,by rw[FP.len];exact hrl,fun d kvs H1 hd1 tk s1 hdn=>?_⟩
 refine⟨_,rfl,_,rfl,_,rfl,l,d,ls,rows,kvs,gs,p,rfl,s1 _ _ hl,il.same s1,hrl,hd1,tk,FP,hp,fun t into line dep fr H2 ht io B Dn fo hlt s2 htn=>?_⟩
 have hbound:line.length<=rows.length:=by
  have:=B.nodup.length_le_of_subset (l₂:=List.range rows.length) fun c hcc=>z15.mpr (hlt c hcc)
  rw[z19] at this;exact this
 have hd2:=s2 _ _ hd1;have s02:=s1.trans s2;have hfree:∀ q n,(∃ r,rows[q]?=some r/\n∈r)->valV kvs (Sum.inl n:Key)=none->Oh rows gs q n:=fun q n hr hv=>⟨hr,fun j hj=>by rw[tk.has n j hj] at hv;cases hv⟩
 have hdep:∀ q∈line,dep q<=100:=fun q hq=>by
  obtain⟨pre,hc,hlp⟩:=fo.back B.d0 (dep q) q q none [(q,none)] rfl hq (.one q none);have nd:=hc.nodup fun k hk=>by
   rw[z0w,hlp];have:=(B.full Dn hk).2;show dep q+1<=k+1;omega
  have hlt':=hc.lt FP hp;have:=nd.length_le_of_subset (l₂:=List.range rows.length) fun x hx=>by
   obtain⟨s,hs,rfl⟩:=z02.mp hx;exact z15.mpr (hlt' s hs)
  rw[z0t,z19,z0w,hlp] at this
  omega
 have htH:H t=none:=s1.free htn;refine⟨_,rfl,t,into,rfl,ht,fun o=>?_⟩
 have e0:upd H2 t (.frz o (.dK into)) t=some (.frz o (.dK into)):=Zc;have s3:Same H (upd H2 t (.frz o (.dK into))):=Yc htH s02;have hd3:upd H2 t (.frz o (.dK into)) d=some (.dK kvs):=by rw[Zh (Zg hd1 htn)];exact hd2
 have io3:X3 (upd H2 t (.frz o (.dK into))) into line fr:=io.mono fun c xs e=>by rw[Zh (Yt e ht (fun z=>nomatch z))];exact e
 generalize upd H2 t (.frz o (.dK into))=H3 at e0 s3 hd3 io3
 have hil:into.length=line.length:=io.len;have key:∀ (i:Nat) (k:Key) (v:V),into[i]?=some (k,v)->∃ q:Nat,line[i]?=some q/\k=Sum.inl (q:Int):=fun i k v e=>by
  have:=congrArg (·[i]?) io.keys
  simp only[z0x,e,z12] at this
  cases hq:line[i]? with
  | none=>rw[hq] at this;cases this
  | some q=>rw[hq] at this;exact⟨q,rfl,Option.some.inj this⟩
 let jv4:Nat->L2.St->Hp->Prop:=fun i σ' H'=>(∃ u v,σ'=[some (.ref l),some (.ref lg),some (.int p),some (.ref d),some (.ref t),u,v])/\H'=H3/\∀ (j q:Nat),j<i->line[j]?=some q->¬ Tp rows gs q
 refine zeb (a:=t) (o:=o) (kvs:=into) jv4 ⟨⟨none,none,rfl⟩,rfl,fun j q hj=>absurd hj (Nat.not_lt_zero _)⟩ (fun i σ' H' _ p=>by rw[p.2.1];exact e0) (fun i k v σ' H' hk hP=>?_) (fun σ' H' hP=>?_)
 ·obtain⟨⟨u,v',rfl⟩,rfl,hno⟩:=hP
  obtain⟨q,hq,rfl⟩:=key i k v hk;have hqm:=z05 hq;have hqr:rows[q]?=some (rows[q]'(hlt q hqm)):=z0u (hlt q hqm);generalize (rows[q]'(hlt q hqm))=r at hqr
  obtain⟨lr,e2,e3⟩:=il.getR hqr;have hl':(ls.map V.ref)[q]?=some (.ref lr):=by rw[z0x,e2];rfl
  refine⟨_,rfl,_,rfl,l,_,_,_,rfl,rfl,SqL.of (s3 _ _ hl),Z8 hl',_,rfl,lr,d,r,kvs,rfl,s3 _ _ e3,hd3,fun w hw1 hw2=>?_⟩
  walk_at "if";refine V4 (b:=!decide (oV w=.non)) (fun Q k=>⟨_,rfl,rfl,_,rfl,k⟩) ?_
  cases w with
  | none =>
    refine iteF (Zz ⟨⟨_,_,rfl⟩,rfl,fun j q2 hj hq2=>?_⟩)
    by_cases e:j=i
    ·rw[e,hq] at hq2
     cases hq2;rintro⟨n,⟨r2,h1,h2⟩,h3⟩;rw[hqr] at h1;cases h1
     have:=hw2 rfl n h2;rw[tk.not n h3] at this;cases this
    ·exact hno j q2 (by omega) hq2
  | some n =>
    obtain⟨hn1,hn2⟩:=hw1 n rfl;refine iteT ⟨_,rfl,_,rfl,_,rfl,t,q,p,some n,rows,gs,into,line,dep,fr,rfl,.inr ⟨o,e0⟩,io3,fo,B.d0,B.memp,hqm,hdep q hqm,fun lt ts st H4 h1 h2 h3 h4 s4 hltn=>?_⟩
    have hf:=hfree q n ⟨r,hqr,hn1⟩ hn2;have Di:Done rows gs line dep i:=fun j x hj=>Dn j x (z24 hj (z0v.mp hq).1)
    exact h lt ts st q (some n) H4 h1 h2 (Af B Di hq hno hf h3 h4) (s3.trans s4) (s3.free hltn)
 ·obtain⟨⟨u,v',rfl⟩,rfl,hno⟩:=hP
  have hpos:0<line.length:=List.length_pos_of_mem B.memp;refine⟨_,rfl,⟨_,rfl,t,into,line.map fun q:Nat=>(q:Int),rfl,.inr ⟨o,e0⟩,by rw[io.keys,z2m];rfl,by rw[z0t];exact hpos,fun M hM hmax=>?_⟩⟩
  obtain⟨e,he,rfl⟩:=z02.mp hM;refine⟨t,e,p,none,rows,gs,into,line,dep,fr,rfl,.inr ⟨o,e0⟩,io3,fo,B.d0,B.memp,he,hdep e he,fun lt ts st H4 h1 h2 h3 h4 s4 hltn=>?_⟩
  refine h lt ts st e none H4 h1 h2 (Ag B Dn (fun q hq=>?_) (fun q hq=>?_) h3 h4) (s3.trans s4) (s3.free hltn)
  ·obtain⟨j,hj,e2⟩:=z13 hq
   exact hno j q (by omega) (by rw[z0u hj,e2])
  ·have:=hmax _ (z02.mpr ⟨q,hq,rfl⟩)
   omega
noncomputable abbrev Pp:Stmt:=top 48
theorem Ry:Zl ["given","steps","behind","place","number"] ["given","steps"] (Zj Pp):=fnS
theorem A0(F:Fun K "stepped" "stepped" Pp f fd)(T:Tx K mg a):Z6 P w K mg base (CX1 P w) 1 f fd ["given","steps"] (Mu K):=by
 refine F.okX Ry (by walk_at "ar") fun _ _ _ _ H _ Q E hr h=>?_
 obtain⟨b,c,xs,ts,st,rfl,hb,hc,ht,hst,ho,hl,hls,h⟩:=h;refine⟨_,(Zb (pS 2 Ry.nd (Y7 (Yq (K:=K) rfl) (by rfl) T.zlg PyProof.Rows.boot_list (Za (pv 0) Zd)))
 (Zb (Y6 PassesOwn.leaving rfl (Yh (K:=K) rfl (pv 1)) (Wg (K:=K) (n:=2) rfl rfl (Zy (pN 3 Ry.nd) (Zy (pN 4 Ry.nd) Wf)))
  (Ze (Mg (pv 4) (zg3 (pv 2) (pv 3) zdl))))
 (Ze (Zm (pv 2))))),?_⟩
 have htl:ts.length=st.length:=by have:=ht.length;rw[z0t] at this;exact this
 refine⟨_,rfl,b,_,rfl,.inl (SqL.of hb),fun l hln=>?_⟩
 let jv5:Nat->L2.St->Hp->Prop:=fun i σ' H'=>(∃ u v,σ'=[some (.ref b),some (.ref c),some (.ref l),u,v])/\H' l=some (.lst (Yw (st.take i) xs))/\(∀ a o,H a=some o->H' a=some o)
 refine⟨_,rfl,c,rfl,⟨ts,SqL.of (Zf hln _ _ hc)⟩,Wb (xs:=ts) jv5 ⟨⟨none,none,rfl⟩,Zc,Zf hln⟩ (fun i σ' H' hi p=>SqL.of (p.2.2 _ _ hc)) (fun i x σ' H' hx p=>?_) (fun σ' H' p=>?_)⟩
 ·obtain⟨⟨u,v,rfl⟩,hl2,hs⟩:=p
  have hi:i<st.length:=by rw[<- htl];exact(z0v.mp hx).1
  obtain⟨t,e1,e2⟩:=zji ht (z0u hi);rw[hx] at e1
  cases e1;refine⟨t,_,rfl,SqT.of (hs _ _ e2),rfl,_,_,rfl,_,_,rfl,rfl,?_⟩;have hlen:(Yw (st.take i) xs).length=xs.length:=Wh _ _;have hp:(st[i]'hi).1<xs.length:=hst _ (z1s hi);have e3:Yw (st.take (i+1)) xs=(Yw (st.take i) xs).set (st[i]'hi).1 (oV (st[i]'hi).2):=by
   rw[z1p hi,Fo];rfl
  refine⟨_,rfl,_,rfl,_,rfl,l,_,_,(st[i]'hi).1,rfl,rfl,hl2,(show ixN _ (((st[i]'hi).1:Nat):Int)=some _ by unfold ixN;rw[if_pos (by omega),if_pos (by omega),z1a]),⟨_,_,rfl⟩,?_,fun a o q=>?_⟩
  ·rw[e3];exact Zc
  ·rw[Zh (Zg q hln)];exact hs a o q
 ·obtain⟨⟨u,v,rfl⟩,hl2,hs⟩:=p
  rw[htl,z1b] at hl2
  exact⟨_,rfl,h l H' hl2 hs hln⟩
noncomputable abbrev Dc:Stmt:=top 50
theorem Je:Zl ["may","given","place"] ["may"] (Zj Dc):=fnS
theorem zgc(F:Fun K "fill" "fill" Dc f fd)(T:Tx K mg a)(zmr:Z9 P w K mg base "stepped" 1 ["given","steps"] (Mu K))(zou:Z9 P w K mg base "chain" 2 ["may","given","place"] (Eu K)):Z6 P w K mg base (CX1 P w) 3 f fd ["may"] (zd3 K):=by
 refine F.okX Je (by walk_at "ar") fun _ _ _ _ H _ Q E hr h=>?_
 obtain⟨l,ls,rows,nu,rfl,hl,il,mo,h⟩:=h;refine⟨_,(Zb (Te (i:=1) Je.nd rfl rfl rfl (cT [] []) (Yh (K:=K) rfl (pv 0)) (fun _ _ _ _ _=>V3) (fun _ _ _ _ _=>Y5))
 (Zb (Y6 PassesOwn.leaving rfl (Xh rfl T.zk8 (Za (Zn (cL K) (by rfl) T.zkq PySem.boot_len (Za (pv 0) Zd)) Zd)) (pN 2 Je.nd)
  (Ze (pS 1 Je.nd (pF zmr hr (Za (pv 1) (Za (pF zou hr (Za (pv 0) (Za (pv 1) (Za (pv 2) Zd)))) Zd))))))
 (Ze (Zm (pv 1))))),?_⟩
 have hlen:=il.length;have hrl:rows.length<=100:=z09 mo.few (by decide)
 refine⟨_,rfl,l,rfl,⟨_,SqL.of hl⟩,?_⟩;refine Wq (K:=K) (a:=l) (xs:=ls.map V.ref) (fun i ys H'=>H'=H/\ys=(rows.take i).map fun _=>V.non) ⟨rfl,by simp⟩ (fun i ys H' _ z=>by rw[z.1];exact SqL.of hl) (szN (by rw[z0t];omega)) (fun i ys H' z=>by rw[z.2,z0t,z2p];omega) ?_ ?_
 ·rintro i x ys H' hx ⟨rfl,rfl⟩
  have hi:i<rows.length:=by
   have:=(z0v.mp hx).1;rw[z0t] at this;omega
  unfold tYes;dsimp only;rw[if_pos rfl];refine⟨rfl,?_⟩;rw[z1p hi,z0y];rfl
 ·rintro ys H' ⟨rfl,rfl⟩ lg hlg
  rw[z0t,hlen,z1b];have s1:=Zf (o:=.lst (rows.map fun _=>V.non)) hlg
  have e1:upd H' lg (.lst (rows.map fun _=>V.non)) lg=some (.lst (rows.map fun _=>V.non)):=Zc
  generalize upd H' lg (.lst (rows.map fun _=>V.non))=H1 at s1 e1
  refine⟨_,rfl,l,_,rfl,.inl (SqL.of (s1 _ _ hl)),_,rfl,by omega,by rw[z0t];omega,?_⟩
  rw[z0t,hlen,z1a]
  let jv6:Nat->L2.St->Hp->Prop:=fun i σ' Hx=>∃ (lg:Addr) (gs:List V) (v2:Option V),σ'=[some (.ref l),some (.ref lg),v2]/\Same H' Hx/\Hx lg=some (.lst gs)/\Tq rows gs i/\H' lg=none
  refine Xv jv6 ⟨lg,_,_,rfl,s1,e1,Ga rows,hlg⟩ ?_ ?_
  ·rintro i σ' Hx hi ⟨lg,gs,v2,rfl,sx,hgx,F,hn⟩
   rw[z18];refine⟨_,rfl,⟨_,rfl,_,rfl,_,rfl,l,lg,ls,rows,nu,gs,i,rfl,sx _ _ hl,il.same sx,mo,hgx,F.fill,hi,F.non (z03 _) hi,fun lt ts st e w H2 h1 h2 c s2 hltn=>?_⟩⟩
   refine⟨lg,lt,gs,ts,st,rfl,s2 _ _ hgx,h1,h2,fun s hs=>?_,F.fill.one,by rw[F.fill.len];omega,?_,fun l' H3 h3 s3 hl'=>?_⟩
   ·rw[F.fill.len];exact c.ch.lt F.fill hi s hs
   ·have:=c.len F.fill hi;omega
   ·exact⟨l',_,_,rfl,(sx.trans s2).trans s3,h3,F.step hi c,(sx.trans s2).free hl'⟩
  ·rintro σ' Hx ⟨lg,gs,v2,rfl,sx,hgx,F,hn⟩
   exact⟨_,rfl,h lg gs Hx hgx F.fill F.last sx hn⟩
noncomputable abbrev Rz:Stmt:=top 51
theorem Bf:Zl ["given","number"] ["given","number"] (Zj Rz):=fnS
theorem Bg(F:Fun K "place_of" "place_of" Rz f fd)(T:Tx K mg a):Z6 P w K mg base (CX1 P w) 1 f fd ["given","number"] (Fm K):=by
 refine F.okX Bf (by walk_at "ar") fun _ _ _ _ H _ Q E hr h=>?_
 obtain⟨b,xs,n,rfl,hb,ho,hl,h⟩:=h;refine⟨_,(Ze (Zm (Ds (Zo (Jp (K:=K) rfl) (pv 1) (pv 0) (by with_unfolding_all rfl)) (zi7 PySem.F.plainAttrs_list PySem.F.slot_list_index PySem.F.type_list_index zd6 (pv 0) (Za (pv 1) Zd)) Y5))),?_⟩
 have fl:xs.all Rf=true:=z2w.mpr fun x hx=>by rcases ho x hx with rfl|⟨_,rfl⟩<;>rfl
 refine⟨_,rfl,_,rfl,b,xs,rfl,.inl (SqL.of hb),rfl,fl,_,rfl,?_⟩;have key:=@zd7 xs n ho;show if inV (V.int n) xs=true then _ else _
 cases hp:W3 xs n with
 | none =>
   rw[hp] at h
   have hno:¬ inV (V.int n) xs=true:=fun z=>by
    obtain⟨j,hj⟩:=key.mp z;have:=List.find?_eq_none.mp hp j (z15.mpr (z0v.mp hj).1);exact this (z01 hj)
   rw[if_neg hno];exact h H (Same.refl H)
 | some j =>
   rw[hp] at h
   obtain⟨h1,h2,h3⟩:=List.find?_range_eq_some.mp hp;have hj:xs[j]?=some (.int n):=of_decide_eq_true h1;rw[if_pos (key.mpr ⟨j,hj⟩)];refine⟨_,rfl,?_,_,rfl,b,xs,.int n,j,rfl,rfl,hb,rfl,fl,⟨_,hj,(Ja (.inr ⟨_,rfl⟩)).mpr rfl⟩,fun m z hm hz=>?_,h H (Same.refl H)⟩
   ·exact .inl ⟨rfl,xs,SqL.of hb⟩
   ·have:=h3 m hm
    have hne:¬ z=.int n:=fun q=>by
     rw[q] at hz
     rw[z01 hz] at this
     cases this
    cases hb2:eqV z (.int n) with
    | false=>rfl
    | true=>exact absurd ((Ja (ho z (z05 hz))).mp hb2) hne
noncomputable abbrev Vd:Stmt:=Z4 (top 53) 0
theorem Nw:Zl ["self","listed","lists","given","gaps"] ["self","listed","lists","given","gaps"] (Zj Vd):=fnS
theorem Ny(F:Fun K "__init__" "Sheet.__init__" Vd f fd)(T:Tx K mg a):Z6 P w K mg base (CX1 P w) 1 f fd ["self","listed","lists","given","gaps"] (Np (ca a)):=by
 refine F.okX Nw (by walk_at "ar") fun _ _ _ _ H _ Q E hr h=>?_
 obtain⟨q,dx,l1,l2,l3,l4,rfl,hq,h⟩:=h;refine⟨_,(Zb (Xb (K:=K) rfl (pv 0) (pv 1) rfl)
 (Zb (Xb (K:=K) rfl (pv 0) (pv 2) rfl)
 (Zb (Xb (K:=K) rfl (pv 0) (pv 3) rfl)
 (Ze (Xb (K:=K) rfl (pv 0) (pv 4) rfl))))),?_⟩
 refine⟨_,rfl,_,rfl,q,a.zkk,dx,[],rfl,hq,T.zkt,T.zlw,(by decide),?_⟩
 refine⟨_,rfl,_,rfl,q,a.zkk,dx,[("listed",.ref l1)],rfl,Zc,T.zkt,T.zov,(by show 1<1000;decide),?_⟩
 rw[zj7];refine⟨_,rfl,_,rfl,q,a.zkk,dx,_,rfl,Zc,T.zkt,T.zm0,(by show 2<1000;decide),?_⟩
 rw[zj8];refine⟨_,rfl,_,rfl,q,a.zkk,dx,_,rfl,Zc,T.zkt,T.zor,(by show 3<1000;decide),?_⟩
 rw[zj9];refine h _ ?_;rw[K7,K7,K7];rfl
noncomputable abbrev Uj:Stmt:=Z4 (top 53) 1
theorem Ks:Zl ["self","lists"] ["self","lists"] (Zj Uj):=fnS
theorem Kt(F:Fun K "barred" "Sheet.barred" Uj f fd)(T:Tx K mg a)(znc:S7 P w K mg base "Sheet" a.zkk 1 ["self","listed","lists","given","gaps"] (Np (ca a))):Z6 P w K mg base (CX1 P w) 3 f fd ["self","lists"] (Co (ca a)):=by
 refine F.okX Ks (by walk_at "ar") fun _ _ _ _ H _ Q E hr h=>?_
 obtain⟨ok,q,l2,ls,rows,s,rfl,SA,hl2,il,ok2,okl,no,h⟩:=h;refine⟨_,(Ze (Zm (Ek znc (hr.mono (by decide)) Zk rfl (Za (Zp (K:=K) rfl (pv 0) rfl) (Za (pv 1) (Za (Zp (K:=K) rfl (pv 0) rfl) (Za (Zp (K:=K) rfl (pv 0) rfl) Zd))))))),?_⟩
 obtain⟨dx,m1,m2,m3,m4,ts,ms,gts,a1,a2,a3,a4,a5,a6,a7,a8,o1,o2,o3,o4,o5,o6⟩:=id SA;refine⟨_,rfl,q,a.zkk,dx,_,_,rfl,a1,T.zkt,T.zlw,Sa,_,rfl,_,rfl,q,a.zkk,dx,_,_,rfl,a1,T.zkt,T.zm0,Qx,_,rfl,q,a.zkk,dx,_,_,rfl,a1,T.zkt,T.zor,Ew,?_⟩;intro q' dx' hq' hdx' ne;refine⟨q',dx',m1,l2,m3,m4,rfl,Zc,fun H' e=>⟨rfl,?_⟩⟩
 obtain⟨s1,q1⟩:=Oq (C:=a.zkk) (l1:=m1) (l2:=l2) (l3:=m3) (l4:=m4) hq' hdx' ne;rw[<- e] at s1 q1
 exact h q' H' ⟨dx',m1,l2,m3,m4,ts,ls,gts,q1,s1 _ _ a2,a3.same s1,s1 _ _ hl2,il.same s1,s1 _ _ a6,s1 _ _ a7,a8.keep (fun _ _ _ z=>s1 _ _ z) (fun _ _ z=>s1 _ _ z),no _ hq',o2,ok2,o4,o5,okl⟩ s1 hq'
noncomputable abbrev Wj:Stmt:=Z4 (top 53) 2
theorem X6:Zl ["self","number","lists","place","gap","steps"] ["self","number","lists"] (Zj Wj):=fnS
theorem Py(F:Fun K "fallen_out" "Sheet.fallen_out" Wj f fd)(T:Tx K mg a)(zlr:Zu P w K mg base a.zkk "where" 2 ["self","number"] (Mv (ca a)))(zmr:Z9 P w K mg base "stepped" 1 ["given","steps"] (Mu K))(zou:Z9 P w K mg base "chain" 2 ["may","given","place"] (Eu K))(znc:S7 P w K mg base "Sheet" a.zkk 1 ["self","listed","lists","given","gaps"] (Np (ca a))):Z6 P w K mg base (CX1 P w) 3 f fd ["self","number","lists"] (Cp (ca a)):=by
 refine F.okX X6 (by walk_at "ar") fun _ _ _ _ H _ Q E hr h=>?_
 obtain⟨ok,q,l2,ls,rows,nu,s,n,p,rfl,SA,hl2,il,ok2,okl,no,mo,ho,hgp,hun,FP,hgz,h⟩:=h;refine⟨_,(Zb (pS 3 X6.nd (Yy (pv 0) T.zkt zlr (hr.mono (by decide)) Zk (Za (pv 1) Zd)))
 (Zb (pS 4 X6.nd (pF zmr hr (Za (Zp (K:=K) rfl (pv 0) rfl) (Za (Ya (Za (Ye (Za (pv 3) (Za Y5 Zd))) Zd)) Zd))))
 (Zb (pS 5 X6.nd (pF zou hr (Za (pv 2) (Za (pv 4) (Za (pv 3) Zd)))))
 (Ze (Zm (Ek znc (hr.mono (by decide)) Zk rfl (Za (Zp (K:=K) rfl (pv 0) rfl) (Za (pv 2) (Za (pF zmr hr (Za (pv 4) (Za (pv 5) Zd))) (Za (Zv Jo (Zp (K:=K) rfl (pv 0) rfl) (Ya (Za (Ye (Za (pv 1) (Za (pv 5) Zd))) Zd))) Zd)))))))))),?_⟩
 obtain⟨dx,m1,m2,m3,m4,ts,ms,gts,a1,a2,a3,a4,a5,a6,a7,a8,o1,o2,o3,o4,o5,o6⟩:=id SA;have hrl:rows.length<=100:=z09 mo.few (by decide)
 have hgl:s.gv.length<=100:=by have:=FP.len;rw[z2k] at this;omega
 have hpl:p<s.gv.length:=(z0v.mp hgp).1;have hpr:p<rows.length:=by have:=FP.len;rw[z2k] at this;omega
 have hplace:W3 s.gv n=some p:=by
  unfold W3;rw[List.find?_eq_some_iff_getElem];refine⟨z01 hgp,p,by rw[z19];exact hpl,by rw[List.getElem_range],fun j hj=>?_⟩
  rw[List.getElem_range,Bool.not_eq_true',decide_eq_false_iff_not];exact fun z=>absurd (hun j z) (by omega)
 refine⟨_,rfl,q,dx,_,rfl,a1,U0 (by decide +kernel) (by decide +kernel) (by decide +kernel) (by decide +kernel),_,rfl,ok,q,s,n,rfl,SA,ho,hgl,fun H1 s1=>?_⟩
 rw[hplace,show oN (some p)=V.int (p:Nat) from rfl]
 have SA1:=SA.same s1;refine⟨_,rfl,q,a.zkk,dx,_,_,rfl,s1 _ _ a1,T.zkt,T.zm0,Qx,_,rfl,sz2,fun t1 ht1=>⟨sz1,fun lx hlx=>?_⟩⟩
 have s2:=Zf (o:=.tup [.int (p:Nat),.non]) ht1;have q2:upd H1 t1 (.tup [.int (p:Nat),.non]) t1=some (.tup (Uy (p,none))):=Zc;generalize upd H1 t1 (.tup [.int (p:Nat),.non])=H2 at s2 q2 hlx
 have s3:=Zf (o:=.lst [V.ref t1]) hlx;have q3:upd H2 lx (.lst [V.ref t1]) lx=some (.lst [V.ref t1]):=Zc;have q23:=s3 _ _ q2;generalize upd H2 lx (.lst [V.ref t1])=H3 at s3 q3 q23
 have s13:=s1.trans (s2.trans s3);refine⟨m3,lx,s.gv,[V.ref t1],[(p,none)],rfl,s13 _ _ a6,q3,.cons q23 .nil,fun st hst=>by rw[z0z.mp hst];exact hpl,ho,hgl,by show 1<=100;decide,fun lg H4 hg4 s4 f4=>?_⟩
 have s14:=s13.trans s4;have hg4:H4 lg=some (.lst (s.gv.set p .non)):=hg4;refine⟨_,rfl,_,rfl,_,rfl,l2,lg,ls,rows,nu,s.gv.set p .non,p,rfl,s14 _ _ hl2,il.same s14,mo,hg4,FP,hpr,by rw[z1y hpl],fun lt us st e w H5 hlt tl CR s5 f5=>?_⟩
 have s15:=s14.trans s5;have hst100:st.length<=100:=z09 (CR.len FP hpr) hrl;refine⟨_,rfl,q,a.zkk,dx,_,_,rfl,s15 _ _ a1,T.zkt,T.zlw,Sa,_,rfl,_,rfl,_,rfl,lg,lt,s.gv.set p .non,us,st,rfl,s5 _ _ hg4,hlt,tl,fun x hx=>?_,FP.one,by rw[FP.len];exact hrl,hst100,fun l3 H6 h6 s6 f6=>?_⟩
 ·rw[FP.len];exact CR.ch.lt FP hpr x hx
 have s16:=s15.trans s6;refine⟨_,rfl,q,a.zkk,dx,_,_,rfl,s16 _ _ a1,T.zkt,T.zor,Ew,_,rfl,_,rfl,sz2,fun t2 ht2=>⟨sz1,fun ly hly=>?_⟩⟩
 have s7:=Zf (o:=.tup [.int n,.ref lt]) ht2;have q7:upd H6 t2 (.tup [.int n,.ref lt]) t2=some (.tup [.int n,.ref lt]):=Zc;generalize upd H6 t2 (.tup [.int n,.ref lt])=H7 at s7 q7 hly
 have s8:=Zf (o:=.lst [V.ref t2]) hly;have q8:upd H7 ly (.lst [V.ref t2]) ly=some (.lst [V.ref t2]):=Zc;have q78:=s8 _ _ q7;generalize upd H7 ly (.lst [V.ref t2])=H8 at s8 q8 q78
 have s18:=s16.trans (s7.trans s8);refine⟨m4,ly,gts,[V.ref t2],rfl,rfl,s18 _ _ a7,q8,by have:=a8.length;show gts.length+1<=sizeLine;have:=Td;omega,fun l4 hl4=>?_⟩
 have s9:=Zf (o:=.lst (gts++[V.ref t2])) hl4;have q9:upd H8 l4 (.lst (gts++[V.ref t2])) l4=some (.lst (gts++[V.ref t2])):=Zc;generalize upd H8 l4 (.lst (gts++[V.ref t2]))=H9 at s9 q9
 have s19:=s18.trans s9;intro q' dx' hq' hdx' ne;refine⟨q',dx',m1,l2,l3,l4,rfl,Zc,fun H' e'=>⟨rfl,?_⟩⟩
 obtain⟨s10,q10⟩:=Oq (C:=a.zkk) (l1:=m1) (l2:=l2) (l3:=l3) (l4:=l4) hq' hdx' ne;rw[<- e'] at s10 q10
 have s:=s19.trans s10;have s6x:=s7.trans (s8.trans (s9.trans s10));have s5x:=s6.trans s6x;refine h q' st e w H' ⟨dx',m1,l2,l3,l4,ts,ls,gts++[V.ref t2],q10,s _ _ a2,a3.same s,s _ _ hl2,il.same s,s6x _ _ h6,s10 _ _ q9,?_,no _ (s19.free hq'),o2,ok2,no _ (s15.free f6),no _ (s18.free hl4),okl⟩ CR s (s19.free hq');exact(a8.keep (fun _ _ _ z=>s _ _ z) (fun _ _ z=>s _ _ z)).snoc ((s9.trans s10) _ _ q78) (s5x _ _ hlt) (tl.same s5x) (no _ (s14.free f5))
noncomputable abbrev Vr:Stmt:=Z4 (top 53) 3
theorem M9:Zl ["self"] ["self"] (Zj Vr):=fnS
theorem Lb(F:Fun K "matches" "Sheet.matches" Vr f fd)(T:Tx K mg a):Z6 P w K mg base (CX1 P w) 1 f fd ["self"] (Lv (ca a)):=by
 refine F.okX M9 (by walk_at "ar") fun _ _ _ _ H _ Q E hr h=>?_
 obtain⟨ok,q,s,rfl,SA,h⟩:=h;refine⟨_,(Ze (Zm (Y7 (Yq (K:=K) rfl) (by rfl) T.zlg PyProof.Rows.boot_list (Za (Zp (K:=K) rfl (pv 0) rfl) Zd)))),?_⟩
 obtain⟨dx,m1,m2,m3,m4,ts,ms,gts,a1,a2,a3,a4,a5,a6,a7,a8,o1,o2,o3,o4,o5,o6⟩:=id SA;refine⟨_,rfl,q,a.zkk,dx,_,_,rfl,a1,T.zkt,T.zlw,Sa,m1,_,rfl,.inl (SqL.of a2),fun l hl=>?_⟩
 exact h l ts _ Zc (a3.same (Zf hl)) (Zf hl) hl
noncomputable abbrev Ve:Stmt:=Z4 (top 53) 4
theorem Nz:Zl ["self","place"] ["self","place"] (Zj Ve):=fnS
theorem N1(F:Fun K "match_at" "Sheet.match_at" Ve f fd)(T:Tx K mg a)(zk1:Zu P w K mg base a.zkk "check_place" 1 ["self","place"] (Mw (ca a))):Z6 P w K mg base (CX1 P w) 2 f fd ["self","place"] (Lw (ca a)):=by
 refine F.okX Nz (by walk_at "ar") fun _ _ _ _ H _ Q E hr h=>?_
 obtain⟨ok,q,s,i,rfl,SA,si,h1,h2⟩:=h;refine⟨_,(Zb (Z7 (Yy (pv 0) T.zkt zk1 (hr.mono (by decide)) Zk (Za (pv 1) Zd)))
 (Ze (Zm (pI (iL K) (Zp (K:=K) rfl (pv 0) rfl) (pv 1))))),?_⟩
 obtain⟨dx,m1,m2,m3,m4,ts,ms,gts,a1,a2,a3,a4,a5,a6,a7,a8,o1,o2,o3,o4,o5,o6⟩:=id SA;refine⟨_,rfl,q,dx,_,rfl,a1,U0 (by decide +kernel) (by decide +kernel) (by decide +kernel) (by decide +kernel),_,rfl,ok,q,s,i,rfl,SA,si,?_⟩
 refine Hu (fun hc=>h1 hc) (fun hc=>?_)
 obtain⟨k,rfl⟩:∃ k:Nat,i=k:=⟨i.toNat,by omega⟩
 have hk:k<s.ms.length:=by omega
 have hm:s.ms[k]?=some (s.ms[k]'hk):=z0u hk;obtain⟨t,e1,e2⟩:=a3.getR (show (s.ms.map pV)[k]?=some (pV (s.ms[k]'hk)) by rw[z0x,hm];rfl)
 exact⟨_,rfl,q,a.zkk,dx,_,_,rfl,a1,T.zkt,T.zlw,Sa,_,rfl,m1,_,_,_,rfl,rfl,SqL.of a2,Z8 e1,h2 k _ t rfl hm e2⟩
noncomputable abbrev Su:Stmt:=Z4 (top 53) 5
theorem Dd:Zl ["self","place"] ["self","place"] (Zj Su):=fnS
theorem De(F:Fun K "may" "Sheet.may" Su f fd)(T:Tx K mg a)(zk1:Zu P w K mg base a.zkk "check_place" 1 ["self","place"] (Mw (ca a))):Z6 P w K mg base (CX1 P w) 2 f fd ["self","place"] (zaw (ca a)):=by
 refine F.okX Dd (by walk_at "ar") fun _ _ _ _ H _ Q E hr h=>?_
 obtain⟨ok,q,s,i,rfl,SA,si,hml,h1,h2⟩:=h;refine⟨_,(Zb (Z7 (Yy (pv 0) T.zkt zk1 (hr.mono (by decide)) Zk (Za (pv 1) Zd)))
 (Ze (Zm (Y7 (Yq (K:=K) rfl) (by rfl) T.zlg PyProof.Rows.boot_list (Za (pI (iL K) (Zp (K:=K) rfl (pv 0) rfl) (pv 1)) Zd))))),?_⟩
 obtain⟨dx,m1,m2,m3,m4,ts,ms,gts,a1,a2,a3,a4,a5,a6,a7,a8,o1,o2,o3,o4,o5,o6⟩:=id SA;refine⟨_,rfl,q,dx,_,rfl,a1,U0 (by decide +kernel) (by decide +kernel) (by decide +kernel) (by decide +kernel),_,rfl,ok,q,s,i,rfl,SA,si,?_⟩
 refine Hu (fun hc=>h1 hc) (fun hc=>?_)
 obtain⟨k,rfl⟩:∃ k:Nat,i=k:=⟨i.toNat,by omega⟩
 have hk:k<s.may.length:=by omega
 have hr':s.may[k]?=some (s.may[k]'hk):=z0u hk;obtain⟨lr,e2,e3⟩:=a5.getR hr';have hl':(ms.map V.ref)[k]?=some (.ref lr):=by rw[z0x,e2];rfl
 exact⟨_,rfl,q,a.zkk,dx,_,_,rfl,a1,T.zkt,T.zov,zek,_,rfl,m2,_,_,_,rfl,rfl,SqL.of a4,Z8 hl',lr,_,rfl,.inl (SqL.of e3),fun l hl=>h2 k _ rfl hr' l _ Zc (Zf hl) hl⟩
noncomputable abbrev X7:Stmt:=Z4 (top 53) 6
theorem Q6:Zl ["self","place"] ["self","place"] (Zj X7):=fnS
theorem Q7(F:Fun K "check_place" "Sheet.check_place" X7 f fd)(T:Tx K mg a):Z6 P w K mg base (CX1 P w) 1 f fd ["self","place"] (Mw (ca a)):=by
 refine F.okX Q6 (by walk_at "ar") fun _ _ _ _ H _ Q E hr h=>?_
 obtain⟨ok,q,s,i,rfl,SA,si,h⟩:=h;refine⟨_,(Ze (Z5 (PW.pt (V0 (Zo G4 (pv 1) Zi (Zw _)) (Ws (Zo zc4 (pv 1) (Zn (cL K) (by rfl) T.zkq PySem.boot_len (Za (Zp (K:=K) rfl (pv 0) rfl) Zd)) (Zw _)))))
  (Ze (Xf Xe rfl T.zqe rfl (Za (W9 (Z1 (Xr (by decide +kernel)) (Z1 (W2 (pv 1)) W8)) (by decide)) Zd)))
  Zr)),?_⟩
 obtain⟨dx,m1,m2,m3,m4,ts,ms,gts,a1,a2,a3,a4,a5,a6,a7,a8,o1,o2,o3,o4,o5,o6⟩:=id SA;have hts:ts.length=s.ms.length:=by rw[a3.length,z0t]
 refine⟨_,rfl,_,_,rfl,rfl,_,rfl,?_⟩;refine itD (fun hc=>?_) (fun hc=>?_)
 ·rw[if_pos (.inl hc)] at h
  refine iteT ?_;exact⟨_,rfl,.inl ⟨_,rfl,si⟩,fun z=>⟨sz1,h⟩⟩
 refine⟨_,rfl,_,rfl,q,a.zkk,dx,_,_,rfl,a1,T.zkt,T.zlw,Sa,m1,_,rfl,.inl (SqL.of a2),_,_,rfl,rfl,_,rfl,?_⟩;rw[hts];refine itD (fun hc2=>?_) (fun hc2=>?_)
 ·rw[if_pos (.inr hc2)] at h
  exact⟨_,rfl,.inl ⟨_,rfl,si⟩,fun z=>⟨sz1,h⟩⟩
 ·rw[if_neg (fun z=>z.elim hc hc2)] at h
  exact h
noncomputable abbrev T2:Stmt:=Z4 (top 53) 7
theorem Gj:Zl ["self"] ["self"] (Zj T2):=fnS
theorem Gk(F:Fun K "goes" "Sheet.goes" T2 f fd)(T:Tx K mg a):Z6 P w K mg base (CX1 P w) 1 f fd ["self"] (Jz (ca a)):=by
 refine F.okX Gj (by walk_at "ar") fun _ _ _ _ H _ Q E hr h=>?_
 obtain⟨ok,q,s,rfl,SA,h⟩:=h;refine⟨_,(Ze (Zm (Y7 (Yq (K:=K) rfl) (by rfl) T.zlg PyProof.Rows.boot_list (Za (Zp (K:=K) rfl (pv 0) rfl) Zd)))),?_⟩
 obtain⟨dx,m1,m2,m3,m4,ts,ms,gts,a1,a2,a3,a4,a5,a6,a7,a8,o1,o2,o3,o4,o5,o6⟩:=id SA;refine⟨_,rfl,q,a.zkk,dx,_,_,rfl,a1,T.zkt,T.zm0,Qx,m3,_,rfl,.inl (SqL.of a6),fun l hl=>?_⟩
 exact h l _ Zc (Zf hl) hl
noncomputable abbrev U6:Stmt:=Z4 (top 53) 8
theorem Iw:Zl ["self","number"] ["self","number"] (Zj U6):=fnS
theorem Iy(F:Fun K "where" "Sheet.where" U6 f fd)(T:Tx K mg a)(zo0:Z9 P w K mg base "place_of" 1 ["given","number"] (Fm K)):Z6 P w K mg base (CX1 P w) 2 f fd ["self","number"] (Mv (ca a)):=by
 refine F.okX Iw (by walk_at "ar") fun _ _ _ _ H _ Q E hr h=>?_
 obtain⟨ok,q,s,n,rfl,SA,ho,hgl,h⟩:=h;refine⟨_,(Ze (Zm (pF zo0 hr (Za (Zp (K:=K) rfl (pv 0) rfl) (Za (pv 1) Zd))))),?_⟩;obtain⟨dx,m1,m2,m3,m4,ts,ms,gts,a1,a2,a3,a4,a5,a6,a7,a8,o1,o2,o3,o4,o5,o6⟩:=id SA;exact⟨_,rfl,q,a.zkk,dx,_,_,rfl,a1,T.zkt,T.zm0,Qx,_,rfl,m3,s.gv,n,rfl,a6,ho,hgl,fun H' s'=>h H' s'⟩
noncomputable abbrev Uk:Stmt:=Z4 (top 53) 11
theorem Ku:Zl ["self"] ["self"] (Zj Uk):=fnS
theorem Kv(F:Fun K "chains" "Sheet.chains" Uk f fd)(T:Tx K mg a):Z6 P w K mg base (CX1 P w) 1 f fd ["self"] (J1 (ca a)):=by
 refine F.okX Ku (by walk_at "ar") fun _ _ _ _ H _ Q E hr h=>?_
 obtain⟨ok,q,s,rfl,SA,hgz,h⟩:=h;refine⟨_,(Ze (Zm (Cg rfl (P8.mk (xo:=["number","steps"]) (ys:=[]) (js:=[]) rfl rfl (by decide +kernel) (by decide +kernel) rfl (by repeat' (first|exact True.intro|apply And.intro|rfl)) (by repeat' (first|exact True.intro|apply And.intro|rfl)) (by decide +kernel)) (Yh (K:=K) rfl (Zp (K:=K) rfl (pv 0) rfl)) (fun _ _ _ _ _=>V3) (fun _ _ _ _ _=>(Wg (K:=K) (n:=2) rfl rfl (Zy (To (i:=0) (show List.Nodup [("number":Str),("steps":Str)] by decide +kernel) rfl (by first|exact Or.inl rfl|exact Or.inr rfl)) (Zy (To (i:=1) (show List.Nodup [("number":Str),("steps":Str)] by decide +kernel) rfl (by first|exact Or.inl rfl|exact Or.inr rfl)) Wf)))) (fun _ _ _ _ _=>(Ye (Za (pv 0) (Za (Y7 (Yq (K:=K) rfl) (by rfl) T.zlg PyProof.Rows.boot_list (Za (pv 1) Zd)) Zd))))))),?_⟩
 obtain⟨dx,m1,m2,m3,m4,ts,ms,gts,a1,a2,a3,a4,a5,a6,a7,a8,o1,o2,o3,o4,o5,o6⟩:=id SA;have hgts:=a8.length;refine⟨_,rfl,q,a.zkk,dx,_,_,rfl,a1,T.zkt,T.zor,Ew,m4,rfl,⟨_,SqL.of a7⟩,?_⟩;refine J2 (K:=K) (xs:=gts) (fun i ys H'=>Same H H'/\Wz (fun x=>H x=none) H' ys (s.gaps.take i)/\ys.length=i) ⟨Same.refl _,.nil,rfl⟩ (fun i ys H' _ ⟨s',_⟩=>SqL.of (s' _ _ a7)) (szN (by omega)) (fun i ys H' ⟨_,_,e⟩=>by omega) ?_ ?_
 ·rintro i x ys H' hx ⟨s1,gl,hyl⟩
  obtain⟨t,l,n,us,st,rfl,hgi,ht,hl,tl,_⟩:=a8.get hx;have ht1:=s1 _ _ ht;have hl1:=s1 _ _ hl;refine⟨t,_,rfl,SqT.of ht1,rfl,_,_,rfl,_,_,rfl,rfl,⟨[some (.int n),some (.ref l)],rfl,rfl⟩,?_⟩;unfold tYes;dsimp only;rw[if_pos rfl];refine⟨_,rfl,_,rfl,l,_,rfl,.inl (SqL.of hl1),fun l2 hl2=>?_⟩
  have s2:=Zf (o:=.lst us) hl2;have q2:upd H' l2 (.lst us) l2=some (.lst us):=Zc;have f2:H l2=none:=s1.free hl2;generalize upd H' l2 (.lst us)=H2 at s2 q2
  refine⟨sz2,fun t2 ht2=>?_⟩
  have s3:=Zf (o:=.tup [.int n,.ref l2]) ht2;have s23:=s2.trans s3;refine⟨s1.trans s23,?_,by rw[z0w,hyl];rfl⟩
  have e:s.gaps.take (i+1)=s.gaps.take i++[(n,st)]:=by rw[z2a,hgi];rfl
  rw[e];exact(gl.keep (fun _ _ _ z=>s23 _ _ z) (fun _ _ z=>s23 _ _ z)).snoc Zc (s3 _ _ q2) (tl.same (s1.trans s23)) f2
 ·rintro ys H' ⟨s1,gl,hyl⟩ l hl
  rw[hgts,z1b] at gl
  refine h l ys _ Zc ?_ (s1.trans (Zf hl)) (s1.free hl);exact(gl.imp (ok':=fun x=>H x=none/\x≠l) fun x ⟨o,e⟩ z=>⟨z,Zg e hl⟩).keep (fun _ _ _ z=>Zf hl _ _ z) (fun _ _ z=>Zf hl _ _ z)
noncomputable abbrev T3:Stmt:=Z4 (top 53) 12
theorem Gm:Zl ["self"] ["self"] (Zj T3):=fnS
theorem Gn(F:Fun K "rows" "Sheet.rows" T3 f fd)(T:Tx K mg a):Z6 P w K mg base (CX1 P w) 1 f fd ["self"] (Cq (ca a)):=by
 refine F.okX Gm (by walk_at "ar") fun _ _ _ _ H _ Q E hr h=>?_
 obtain⟨ok,q,s,rfl,SA,ho,hgl,hml,h⟩:=h;refine⟨_,(Ze (Zm (Cg rfl (P8.mk (xo:=["match","number"]) (ys:=[]) (js:=[]) rfl rfl (by decide +kernel) (by decide +kernel) rfl (by repeat' (first|exact True.intro|apply And.intro|rfl)) (by repeat' (first|exact True.intro|apply And.intro|rfl)) (by decide +kernel)) (zh0 (K:=K) rfl rfl T.zql (Za (Zp (K:=K) rfl (pv 0) rfl) (Za (Zp (K:=K) rfl (pv 0) rfl) Zd))) (fun _ _ _ _ _=>V3) (fun _ _ _ _ _=>(Wg (K:=K) (n:=2) rfl rfl (Zy (To (i:=0) (show List.Nodup [("match":Str),("number":Str)] by decide +kernel) rfl (by first|exact Or.inl rfl|exact Or.inr rfl)) (Zy (To (i:=1) (show List.Nodup [("match":Str),("number":Str)] by decide +kernel) rfl (by first|exact Or.inl rfl|exact Or.inr rfl)) Wf)))) (fun _ _ _ _ _=>(Zv (Cn (K:=K) rfl) (pv 0) (Ye (Za (pv 1) Zd))))))),?_⟩
 obtain⟨dx,m1,m2,m3,m4,ts,ms,gts,a1,a2,a3,a4,a5,a6,a7,a8,o1,o2,o3,o4,o5,o6⟩:=id SA;have hts:ts.length=s.ms.length:=by rw[a3.length,z0t]
 refine⟨_,rfl,q,a.zkk,dx,_,_,rfl,a1,T.zkt,T.zlw,Sa,_,rfl,q,a.zkk,dx,_,_,rfl,a1,T.zkt,T.zm0,Qx,m1,m3,rfl,⟨_,SqL.of a2⟩,⟨_,SqL.of a6⟩,?_⟩;refine zb8 (K:=K) (xs:=ts) (zs:=s.gv) (fun i ys H'=>Same H H'/\Yb H' ys (((Z3 s).take i).map row4)/\ys.length=i) ⟨Same.refl _,.nil,rfl⟩ (by omega) (fun i ys H' _ ⟨s',_⟩=>⟨SqL.of (s' _ _ a2),SqL.of (s' _ _ a6)⟩) (szN (by omega)) (fun i ys H' ⟨_,_,e⟩=>by omega) ?_ ?_
 ·rintro i x z t ys H' hx hz ⟨s1,tl,hyl⟩ ht
  obtain⟨tm,m,rfl,hm,htm⟩:=Nk a3 hx;have oz:=ho z (z05 hz);have s2:=s1.trans (Zf (o:=.tup [.ref tm,z]) ht);have tl2:=tl.same (Zf (o:=.tup [.ref tm,z]) ht);have q2:upd H' t (.tup [.ref tm,z]) t=some (.tup [.ref tm,z]):=Zc;generalize upd H' t (.tup [.ref tm,z])=H2 at s2 tl2 q2
  refine⟨t,_,rfl,SqT.of q2,rfl,_,_,rfl,_,_,rfl,rfl,⟨[some (.ref tm),some z],rfl,rfl⟩,?_⟩;unfold tYes;dsimp only;rw[if_pos rfl];refine⟨_,rfl,_,rfl,sz1,fun t1 ht1=>?_⟩
  have s3:=Zf (o:=.tup [z]) ht1;have q3:upd H2 t1 (.tup [z]) t1=some (.tup [z]):=Zc;generalize upd H2 t1 (.tup [z])=H3 at s3 q3
  refine⟨tm,t1,_,_,rfl,rfl,SqT.of ((s2.trans s3) _ _ htm),SqT.of q3,by unfold pV;simp,by show 3+1<=sizeLine;exact sz4,fun z=>absurd z (by simp),fun _ t2 ht2=>?_⟩
  have s4:=Zf (o:=.tup (pV m++[z])) ht2;refine⟨s2.trans (s3.trans s4),?_,by rw[z0w,hyl];rfl⟩
  rw[zb9 hm hz,z0y];refine((tl2.same s3).same s4).snoc ?_;rw[Zc,zh4 m oz];rfl
 ·rintro ys H' ⟨s1,tl,hyl⟩ l hl
  rw[hts,<- Nq hgl,z1b] at tl
  exact h l ys _ Zc (tl.same (Zf hl)) (s1.trans (Zf hl)) (s1.free hl)
noncomputable abbrev U7:Stmt:=top 54
theorem Iz:Zl ["listed","lists"] ["listed","lists"] (Zj U7):=fnS
theorem I9(F:Fun K "drawn_sheet" "drawn_sheet" U7 f fd)(T:Tx K mg a)(znc:S7 P w K mg base "Sheet" a.zkk 1 ["self","listed","lists","given","gaps"] (Np (ca a)))(zqm:Z9 P w K mg base "fill" 3 ["may"] (zd3 K)):Z6 P w K mg base (CX1 P w) 4 f fd ["listed","lists"] (zav (ca a)):=by
 refine F.okX Iz (by walk_at "ar") fun _ _ _ _ H _ Q E hr h=>?_
 obtain⟨ok,l1,l2,ts,ls,ms,rows,nu,rfl,hl1,tl,hl2,il,ok1,ok2,okl,no,mo,h⟩:=h;refine⟨_,(Ze (Zm (Ek znc (hr.mono (by decide)) Zk rfl (Za (pv 0) (Za (pv 1) (Za (pF zqm hr (Za (pv 1) Zd)) (Za (Ya Zd) Zd))))))),?_⟩
 refine⟨_,rfl,_,rfl,_,rfl,l2,ls,rows,nu,rfl,hl2,il,mo,fun l3 gv H1 h3 FP SP s1 f3=>?_⟩
 refine⟨by show 0<=sizeLine;decide,fun l4 hl4=>?_⟩
 have s2:=Zf (o:=.lst []) hl4;have q2:upd H1 l4 (.lst []) l4=some (.lst []):=Zc;generalize upd H1 l4 (.lst [])=H2 at s2 q2
 have s12:=s1.trans s2;intro q dx hq hdx ne;refine⟨q,dx,l1,l2,l3,l4,rfl,Zc,fun H' e=>⟨rfl,?_⟩⟩
 obtain⟨s3,q3⟩:=Oq (C:=a.zkk) (l1:=l1) (l2:=l2) (l3:=l3) (l4:=l4) hq hdx ne;rw[<- e] at s3 q3
 have s:=s12.trans s3;exact h q gv H' ⟨dx,l1,l2,l3,l4,ts,ls,[],q3,s _ _ hl1,tl.same s,s _ _ hl2,il.same s,s3 _ _ (s2 _ _ h3),s3 _ _ q2,.nil,no _ (s12.free hq),ok1,ok2,no _ f3,no _ (s1.free hl4),okl⟩ FP SP s (s12.free hq)
noncomputable abbrev Wx:Stmt:=Z4 (top 56) 0
theorem O4:Zl ["self","rounds","rest"] ["self","rounds","rest"] (Zj Wx):=fnS
theorem O5(F:Fun K "__init__" "Season.__init__" Wx f fd)(T:Tx K mg a)(zks:Z9 P w K mg base "check_range" 1 ["value","least","most"] (Nn a.zk2))(zp5:S7 P w K mg base "Roster" a.zkl 1 ["self"] (zat (ca a)))(zn9:S7 P w K mg base "Ledger" a.zki 1 ["self"] (Er a.zki)):Z6 P w K mg base (CX1 P w) 3 f fd ["self","rounds","rest"] (zaz (ca a)):=by
 refine F.okX O4 (by walk_at "ar") fun _ _ _ _ H _ Q E hr h=>?_
 obtain⟨p,dx,r,q,rfl,hp,sr,sq,h⟩:=h;refine⟨_,(Zb (Z7 (pF zks hr (Za (pv 1) (Za Zi (Za (Wu rfl T.zl7) Zd)))))
 (Zb (Z7 (pF zks hr (Za (pv 2) (Za Zi (Za (Wu rfl T.zm5) Zd)))))
 (Zb (Xb (K:=K) rfl (pv 0) (pv 1) rfl)
 (Zb (Xb (K:=K) rfl (pv 0) (pv 2) rfl)
 (Zb (Xb (K:=K) rfl (pv 0) (El zp5 (hr.mono (by decide)) Zk rfl) rfl)
 (Zb (Xb (K:=K) rfl (pv 0) (El zn9 (hr.mono (by decide)) Zk rfl) rfl)
 (Zb (Xb (K:=K) rfl (pv 0) Nd rfl)
 (Zb (Xb (K:=K) rfl (pv 0) (Ya Zd) rfl)
 (Zb (Xb (K:=K) rfl (pv 0) Y5 rfl)
 (Ze (Xb (K:=K) rfl (pv 0) (Ya Zd) rfl))))))))))),?_⟩
 show let y1:TS:=_;let y2:TS:=Z2 _ y1;let y3:TS:=Z2 _ y2;let y4:TS:=Z2 _ y3;let y5:TS:=Z2 _ y4;let y6:TS:=Z2 _ y5;let y7:TS:=Z2 _ y6;let y8:TS:=Z2 _ y7;let y9:TS:=Z2 _ y8;Z2 _ y9 _ _ _;intro y1 y2 y3 y4 y5 y6 y7 y8 y9;refine⟨_,rfl,r,0,60,rfl,sr,Yj (by decide),Yj (by decide),?_⟩
 refine it2 h (fun _ z=>z) fun h1 h=>?_
 refine⟨_,rfl,q,0,10,rfl,sq,Yj (by decide),Yj (by decide),?_⟩
 refine it2 h (fun _ z=>z) fun h2 hF=>?_
 have er:r=((r.toNat:Nat):Int):=by omega
 have eq':q=((q.toNat:Nat):Int):=by omega
 generalize r.toNat=rn at hF er
 generalize q.toNat=qn at hF eq'
 subst er eq';refine⟨_,rfl,_,rfl,p,a.zkg,dx,_,rfl,hp,T.zkh,T.zng,(by show 0<1000;decide),?_⟩
 rw[pF1];refine⟨_,rfl,_,rfl,p,a.zkg,dx,_,rfl,Zc,T.zkh,T.zoz,(by show 1<1000;decide),?_⟩
 rw[pF2,K7];have b1:V9 p H (upd H p (.ins a.zkg dx (sF2 (.int rn) (.int qn)))):=.put;have q1:upd H p (.ins a.zkg dx (sF2 (.int rn) (.int qn))) p=some (.ins a.zkg dx (sF2 (.int rn) (.int qn))):=Zc;generalize upd H p (.ins a.zkg dx (sF2 (.int rn) (.int qn)))=H1 at b1 q1
 intro pr dxr hpr hdxr ne;refine⟨pr,dxr,rfl,Zc,fun dr hdr=>⟨rfl,?_⟩⟩
 have ndp:dr≠pr:=fun z=>by rw[z,Zc] at hdr;cases hdr
 have ndx:dr≠dxr:=fun z=>by rw[z,Zh ne,Zc] at hdr;cases hdr
 have hdr1:H1 dr=none:=by rw[Zh ndp,Zh ndx] at hdr;exact hdr
 have s2:Same H1 (upd (upd (upd (upd H1 dxr (.own pr)) pr (.ins a.zkl dxr [])) dr (.dK [])) pr (.ins a.zkl dxr [("entries",.ref dr)])):=fun b o e=>by
  rw[Zh (Zg e hpr),Zh (Zg e hdr1),Zh (Zg e hpr),Zh (Zg e hdxr)];exact e
 have R2:Xm a.zkl (upd (upd (upd (upd H1 dxr (.own pr)) pr (.ins a.zkl dxr [])) dr (.dK [])) pr (.ins a.zkl dxr [("entries",.ref dr)])) pr dr []:=⟨⟨dxr,[],Zc,by rw[Zh ndp,Zc],.nil⟩,List.nodup_nil⟩
 generalize upd (upd (upd (upd H1 dxr (.own pr)) pr (.ins a.zkl dxr [])) dr (.dK [])) pr (.ins a.zkl dxr [("entries",.ref dr)])=H2 at s2 R2
 refine⟨_,rfl,p,a.zkg,dx,_,rfl,s2 _ _ q1,T.zkh,T.zlf,(by show 2<1000;decide),?_⟩
 rw[pF3];have np2:pr≠p/\dr≠p:=⟨Ne.symm (Zg q1 hpr),Ne.symm (Zg q1 hdr1)⟩;have b3:V9 p H (upd H2 p (.ins a.zkg dx (sF3 (.int rn) (.int qn) (.ref pr)))):=b1.trans ((V9.of s2).trans .put);have q3:upd H2 p (.ins a.zkg dx (sF3 (.int rn) (.int qn) (.ref pr))) p=some (.ins a.zkg dx (sF3 (.int rn) (.int qn) (.ref pr))):=Zc;have kt3:∀ t xs,H2 t=some (.tup xs)->upd H2 p (.ins a.zkg dx (sF3 (.int rn) (.int qn) (.ref pr))) t=some (.tup xs):=fun t xs e=>by rw[Zh (Yt e (s2 _ _ q1) (fun z=>nomatch z))];exact e
 have R3:=R2.keep (H':=upd H2 p (.ins a.zkg dx (sF3 (.int rn) (.int qn) (.ref pr)))) (fun o e=>by rw[Zh np2.1];exact e) (fun o e=>by rw[Zh np2.2];exact e) kt3
 have fdr:H dr=none:=V9.free b1 ⟨_,q1⟩ hdr1;have hr2:H2 dr=some (.dK [])/\∃ o,H2 pr=some o:=by
  obtain⟨⟨x,kv,z1,z2,z3⟩,_⟩:=R2;cases z3;exact⟨z2,_,z1⟩
 generalize upd H2 p (.ins a.zkg dx (sF3 (.int rn) (.int qn) (.ref pr)))=H3 at b3 q3 R3
 intro pl dxl hpl hdxl nel;refine⟨pl,dxl,rfl,Zc,fun lr ld H4 L0 k0 f0 g0 n0=>⟨rfl,?_⟩⟩
 obtain⟨s4,fr0,fd0⟩:=Cb hpl hdxl nel k0 f0 g0;refine⟨_,rfl,p,a.zkg,dx,_,rfl,s4 _ _ q3,T.zkh,T.zlm,(by show 3<1000;decide),?_⟩
 rw[pF4];have q4:=s4 _ _ q3;have np4:pl≠p/\lr≠p/\ld≠p:=⟨Ne.symm (Zg q3 hpl),Ne.symm (Zg q3 fr0),Ne.symm (Zg q3 fd0)⟩;have b5:V9 p H (upd H4 p (.ins a.zkg dx (sF4 (.int rn) (.int qn) (.ref pr) (.ref pl)))):=b3.trans ((V9.of s4).trans .put);have q5:upd H4 p (.ins a.zkg dx (sF4 (.int rn) (.int qn) (.ref pr) (.ref pl))) p=some (.ins a.zkg dx (sF4 (.int rn) (.int qn) (.ref pr) (.ref pl))):=Zc;have kt5:∀ t xs,H4 t=some (.tup xs)->upd H4 p (.ins a.zkg dx (sF4 (.int rn) (.int qn) (.ref pr) (.ref pl))) t=some (.tup xs):=fun t xs e=>by rw[Zh (Yt e q4 (fun z=>nomatch z))];exact e
 have R5:=(R3.same s4).keep (H':=upd H4 p (.ins a.zkg dx (sF4 (.int rn) (.int qn) (.ref pr) (.ref pl)))) (fun o e=>by rw[Zh np2.1];exact e) (fun o e=>by rw[Zh np2.2];exact e) kt5
 have L5:=L0.keep (H':=upd H4 p (.ins a.zkg dx (sF4 (.int rn) (.int qn) (.ref pr) (.ref pl)))) (fun o e=>by rw[Zh np4.1];exact e) (fun o e=>by rw[Zh np4.2.1];exact e) (fun o e=>by rw[Zh np4.2.2];exact e) kt5
 have flr:H lr=none:=V9.free b3 ⟨_,q3⟩ fr0;have fld:H ld=none:=V9.free b3 ⟨_,q3⟩ fd0;have nrp:pr≠pl/\dr≠pl/\pr≠lr/\dr≠lr/\pr≠ld/\dr≠ld:=by
  obtain⟨⟨x,kv,z1,z2,_⟩,_⟩:=R3;exact⟨Zg z1 hpl,Zg z2 hpl,Zg z1 fr0,Zg z2 fr0,Zg z1 fd0,Zg z2 fd0⟩
 generalize upd H4 p (.ins a.zkg dx (sF4 (.int rn) (.int qn) (.ref pr) (.ref pl)))=H5 at b5 q5 R5 L5
 intro da hda;have npa:da≠p:=Ne.symm (Zg q5 hda);refine⟨_,rfl,p,a.zkg,dx,_,rfl,Zf (o:=.dT []) hda _ _ q5,T.zkh,T.zl8,(by show 4<1000;decide),?_⟩
 rw[pF5];have b7:V9 p H5 (upd (upd H5 da (.dT [])) p (.ins a.zkg dx (sF5 (.int rn) (.int qn) (.ref pr) (.ref pl) (.ref da)))):=(V9.of (Zf hda)).trans .put;have q7:upd (upd H5 da (.dT [])) p (.ins a.zkg dx (sF5 (.int rn) (.int qn) (.ref pr) (.ref pl) (.ref da))) p=some (.ins a.zkg dx (sF5 (.int rn) (.int qn) (.ref pr) (.ref pl) (.ref da))):=Zc;have d7:upd (upd H5 da (.dT [])) p (.ins a.zkg dx (sF5 (.int rn) (.int qn) (.ref pr) (.ref pl) (.ref da))) da=some (.dT []):=by rw[Zh npa,Zc]
 generalize upd (upd H5 da (.dT [])) p (.ins a.zkg dx (sF5 (.int rn) (.int qn) (.ref pr) (.ref pl) (.ref da)))=H7 at b7 q7 d7
 refine⟨by show 0<=sizeLine;decide,fun ls hls=>?_⟩
 have nps:ls≠p:=Ne.symm (Zg q7 hls);refine⟨_,rfl,p,a.zkg,dx,_,rfl,Zf (o:=.lst []) hls _ _ q7,T.zkh,T.znt,(by show 5<1000;decide),?_⟩
 rw[pF6];have b9:V9 p H7 (upd (upd H7 ls (.lst [])) p (.ins a.zkg dx (sF6 (.int rn) (.int qn) (.ref pr) (.ref pl) (.ref da) (.ref ls)))):=(V9.of (Zf hls)).trans .put;have q9:upd (upd H7 ls (.lst [])) p (.ins a.zkg dx (sF6 (.int rn) (.int qn) (.ref pr) (.ref pl) (.ref da) (.ref ls))) p=some (.ins a.zkg dx (sF6 (.int rn) (.int qn) (.ref pr) (.ref pl) (.ref da) (.ref ls))):=Zc;have l9:upd (upd H7 ls (.lst [])) p (.ins a.zkg dx (sF6 (.int rn) (.int qn) (.ref pr) (.ref pl) (.ref da) (.ref ls))) ls=some (.lst []):=by rw[Zh nps,Zc]
 generalize upd (upd H7 ls (.lst [])) p (.ins a.zkg dx (sF6 (.int rn) (.int qn) (.ref pr) (.ref pl) (.ref da) (.ref ls)))=H9 at b9 q9 l9
 refine⟨_,rfl,p,a.zkg,dx,_,rfl,q9,T.zkh,T.zk7,(by show 6<1000;decide),?_⟩
 rw[pF7];have b10:V9 p H9 (upd H9 p (.ins a.zkg dx (sF7 (.int rn) (.int qn) (.ref pr) (.ref pl) (.ref da) (.ref ls) .non))):=.put;have q10:upd H9 p (.ins a.zkg dx (sF7 (.int rn) (.int qn) (.ref pr) (.ref pl) (.ref da) (.ref ls) .non)) p=some (.ins a.zkg dx (sF7 (.int rn) (.int qn) (.ref pr) (.ref pl) (.ref da) (.ref ls) .non)):=Zc;generalize upd H9 p (.ins a.zkg dx (sF7 (.int rn) (.int qn) (.ref pr) (.ref pl) (.ref da) (.ref ls) .non))=H10 at b10 q10
 refine⟨by show 0<=sizeLine;decide,fun lt hlt=>?_⟩
 have npt:lt≠p:=Ne.symm (Zg q10 hlt);refine⟨_,rfl,p,a.zkg,dx,_,rfl,Zf (o:=.lst []) hlt _ _ q10,T.zkh,T.zlh,(by show 7<1000;decide),?_⟩
 rw[pF8];have b12:V9 p H10 (upd (upd H10 lt (.lst [])) p (.ins a.zkg dx (sF8 (.int rn) (.int qn) (.ref pr) (.ref pl) (.ref da) (.ref ls) .non (.ref lt)))):=(V9.of (Zf hlt)).trans .put;have q12:upd (upd H10 lt (.lst [])) p (.ins a.zkg dx (sF8 (.int rn) (.int qn) (.ref pr) (.ref pl) (.ref da) (.ref ls) .non (.ref lt))) p=some (.ins a.zkg dx (sF8 (.int rn) (.int qn) (.ref pr) (.ref pl) (.ref da) (.ref ls) .non (.ref lt))):=Zc;have l12:upd (upd H10 lt (.lst [])) p (.ins a.zkg dx (sF8 (.int rn) (.int qn) (.ref pr) (.ref pl) (.ref da) (.ref ls) .non (.ref lt))) lt=some (.lst []):=by rw[Zh npt,Zc]
 generalize upd (upd H10 lt (.lst [])) p (.ins a.zkg dx (sF8 (.int rn) (.int qn) (.ref pr) (.ref pl) (.ref da) (.ref ls) .non (.ref lt)))=H12 at b12 q12 l12
 have b912:=b10.trans b12;have b712:=b9.trans b912;have b512:=b7.trans b712;have bb:=b5.trans b512;have kt:∀ t xs,H5 t=some (.tup xs)->H12 t=some (.tup xs):=fun t xs e=>b512 t _ e (Yt e q5 (fun z=>nomatch z))
 have R12:=R5.keep (fun o e=>b512 _ o e np2.1) (fun o e=>b512 _ o e np2.2) kt
 have L12:=L5.keep (fun o e=>b512 _ o e np4.1) (fun o e=>b512 _ o e np4.2.1) (fun o e=>b512 _ o e np4.2.2) kt
 have d12:=b712 _ _ d7 npa;have l912:=b912 _ _ l9 nps;have fda:H da=none:=V9.free b5 ⟨_,q5⟩ hda;have fls:H ls=none:=V9.free (b5.trans b7) ⟨_,q7⟩ hls;have flt:H lt=none:=V9.free (b5.trans (b7.trans (b9.trans b10))) ⟨_,q10⟩ hlt;have ex5:(∃ o,H5 pr=some o)/\(∃ o,H5 dr=some o)/\(∃ o,H5 pl=some o)/\(∃ o,H5 lr=some o)/\(∃ o,H5 ld=some o):=by
  obtain⟨⟨x,kv,z1,z2,_⟩,_⟩:=id R5;obtain⟨⟨y,w1⟩,⟨rs,w2,_⟩,⟨ks,w3,_⟩⟩:=id L5;exact⟨⟨_,z1⟩,⟨_,z2⟩,⟨_,w1⟩,⟨_,w2⟩,⟨_,w3⟩⟩
 have n5:∀ {x y:Addr},(∃ o,H5 x=some o)->H5 y=none->x≠y:=fun ⟨o,e⟩ hy=>Zg e hy
 have fls5:H5 ls=none:=V9.free b7 ⟨_,q7⟩ hls;have flt5:H5 lt=none:=V9.free (b7.trans (b9.trans b10)) ⟨_,q10⟩ hlt;have ndas:da≠ls:=Zg d7 hls;have ndat:da≠lt:=Zg (b10 _ _ (b9 _ _ d7 npa) npa) hlt;have nst:ls≠lt:=Zg (b10 _ _ l9 nps) hlt;obtain⟨e1,e2,e3,e4,e5⟩:=ex5;have nrl:lr≠ld:=n0;refine hF ⟨p,pr,dr,pl,lr,ld,da,ls,lt⟩ H12 rfl ⟨⟨dx,.non,q12,rfl⟩,R12,L12,⟨[],d12,fun i n=>rfl,z03 _⟩,⟨[],l912,.nil⟩,⟨[],l12,.nil⟩,?_,?_⟩ bb ?_
 ·show [p,dr,lr,ld,da,ls,lt].Nodup
  simp only[z1i,z00,z10,or_false,not_or];exact⟨⟨Ne.symm np2.2,Ne.symm np4.2.1,Ne.symm np4.2.2,Ne.symm npa,Ne.symm nps,Ne.symm npt⟩,⟨nrp.2.2.2.1,nrp.2.2.2.2.2,n5 e2 hda,n5 e2 fls5,n5 e2 flt5⟩,⟨nrl,n5 e4 hda,n5 e4 fls5,n5 e4 flt5⟩,⟨n5 e5 hda,n5 e5 fls5,n5 e5 flt5⟩,⟨ndas,ndat⟩,nst,by simp,List.nodup_nil⟩
 ·have hpr5:∃ x fs,H5 pr=some (.ins a.zkl x fs):=by obtain⟨⟨x,kv,z1,_⟩,_⟩:=R5;exact⟨_,_,z1⟩
  have hdr5:∃ kv,H5 dr=some (.dK kv):=by obtain⟨⟨x,kv,_,z2,_⟩,_⟩:=R5;exact⟨_,z2⟩
  have hpl5:∃ x fs,H5 pl=some (.ins a.zki x fs):=by obtain⟨⟨y,w1⟩,_⟩:=L5;exact⟨_,_,w1⟩
  obtain⟨x1,y1,z1⟩:=hpr5;obtain⟨y2,z2⟩:=hdr5;obtain⟨x3,y3,z3⟩:=hpl5;obtain⟨_,⟨rs,w2,_⟩,⟨ks,w3,_⟩⟩:=id L5;have nm:∀ m,m∈([p,dr,lr,ld,da,ls,lt]:List Addr)↔m=p\/m=dr\/m=lr\/m=ld\/m=da\/m=ls\/m=lt:=fun m=>by simp
  refine⟨fun hm=>?_,fun hm=>?_⟩
  ·rcases(nm _).mp hm with q|q|q|q|q|q|q
   ·exact np2.1 q
   ·exact Yt z1 z2 (fun z=>nomatch z) q
   ·exact nrp.2.2.1 q
   ·exact nrp.2.2.2.2.1 q
   ·exact n5 e1 hda q
   ·exact n5 e1 fls5 q
   ·exact n5 e1 flt5 q
  ·rcases(nm _).mp hm with q|q|q|q|q|q|q
   ·exact np4.1 q
   ·exact nrp.2.1 q.symm
   ·exact Yt z3 w2 (fun z=>nomatch z) q
   ·exact Yt z3 w3 (fun z=>nomatch z) q
   ·exact n5 e3 hda q
   ·exact n5 e3 fls5 q
   ·exact n5 e3 flt5 q
 ·intro x hx hxp
  simp only[SAd.fp,z00,z10,or_false] at hx
  rcases hx with q|q|q|q|q|q|q
  ·exact absurd q hxp
  ·rw[q];exact fdr
  ·rw[q];exact flr
  ·rw[q];exact fld
  ·rw[q];exact fda
  ·rw[q];exact fls
  ·rw[q];exact flt
noncomputable abbrev Xj:Stmt:=Z4 (top 56) 1
theorem S8:Zl ["self"] ["self"] (Zj Xj):=fnS
theorem S9(F:Fun K "check_not_over" "Season.check_not_over" Xj f fd)(T:Tx K mg a)(zkj:Zu P w K mg base a.zkg "at_hand" 2 ["self"] (V7 (ca a))):Z6 P w K mg base (CX1 P w) 3 f fd ["self"] (Mx (ca a)):=by
 refine F.okX S8 (by walk_at "ar") fun _ _ _ _ H _ Q E hr h=>?_
 obtain⟨A',S,rfl,SA,h⟩:=h;refine⟨_,(Ze (Z5 (Zo Ra (Yl (pv 0) T.zkh zkj (hr.mono (by decide)) Zk) (Zp (K:=K) rfl (pv 0) rfl) (Zw _))
  (Ze (Xf Xe rfl T.zqi rfl (Za Zs Zd)))
  Zr)),?_⟩
 obtain⟨⟨dx,v,a1,a2⟩,b,c,_⟩:=id SA;refine⟨_,rfl,A'.p,dx,_,rfl,a1,Yg (by decide +kernel),A',S,rfl,SA,_,rfl,A'.p,a.zkg,dx,_,_,rfl,a1,T.zkh,T.zng,Fs,_,_,rfl,rfl,_,rfl,?_⟩
 refine itD (fun hc=>?_) (fun hc=>?_)
 ·rw[if_pos (by unfold atV at hc;omega)] at h
  exact⟨sz1,h⟩
 ·rw[if_neg (by unfold atV at hc;omega)] at h
  exact h
noncomputable abbrev Xo:Stmt:=Z4 (top 56) 2
theorem Rl:Zl ["self"] ["self"] (Zj Xo):=fnS
theorem Rm(F:Fun K "check_undrawn" "Season.check_undrawn" Xo f fd)(T:Tx K mg a)(zkv:Zu P w K mg base a.zkg "check_not_over" 3 ["self"] (Mx (ca a))):Z6 P w K mg base (CX1 P w) 4 f fd ["self"] (My (ca a)):=by
 refine F.okX Rl (by walk_at "ar") fun _ _ _ _ H _ Q E hr h=>?_
 obtain⟨A',S,rfl,SA,h⟩:=h;refine⟨_,(Zb (Z7 (Yl (pv 0) T.zkh zkv (hr.mono (by decide)) Zk))
 (Ze (Z5 (Zo V1 (Zp (K:=K) rfl (pv 0) rfl) Y5 (Zw _))
  (Ze (Xf Xe rfl T.zqo rfl (Za Zs Zd)))
  Zr))),?_⟩
 obtain⟨⟨dx,v,a1,a2⟩,b,c,_⟩:=id SA;refine⟨_,rfl,A'.p,dx,_,rfl,a1,Yg (by decide +kernel),A',S,rfl,SA,?_⟩
 refine it2 h (fun _ z=>z) fun hn h=>?_
 refine⟨_,rfl,A'.p,a.zkg,dx,_,_,rfl,a1,T.zkh,T.zk7,W5,rfl,_,rfl,?_⟩;cases hc:S.cur with
 | none =>
   rw[hc] at a2 h
   have a2:v=.non:=a2;rw[a2];exact iteF h
 | some s =>
   rw[hc] at a2 h
   obtain⟨q,rfl,_⟩:=a2;exact iteT ⟨sz1,h⟩
noncomputable abbrev Xz:Stmt:=Z4 (top 56) 3
theorem Qk:Zl ["self","at"] ["self","at"] (Zj Xz):=fnS
theorem Ql(F:Fun K "check_round" "Season.check_round" Xz f fd)(T:Tx K mg a):Z6 P w K mg base (CX1 P w) 1 f fd ["self","at"] (Jc (ca a)):=by
 refine F.okX Qk (by walk_at "ar") fun _ _ _ _ H _ Q E hr h=>?_
 obtain⟨A',S,i,rfl,SA,si,h⟩:=h;refine⟨_,(Ze (Z5 (PW.pt (V0 (Zo G4 (pv 1) Zi (Zw _)) (Ws (Zo Ra (pv 1) (Zp (K:=K) rfl (pv 0) rfl) (Zw _)))))
  (Ze (Xf Xe rfl T.zox rfl (Za (W9 (Z1 (W2 (pv 1)) (Z1 (Xr (by decide +kernel)) W8)) (by decide)) Zd)))
  Zr)),?_⟩
 obtain⟨⟨dx,v,a1,a2⟩,b,c,_⟩:=id SA;refine⟨_,rfl,_,_,rfl,rfl,_,rfl,?_⟩;refine itD (fun hc=>?_) (fun hc=>?_)
 ·rw[if_pos (.inl hc)] at h
  refine iteT ?_;exact⟨_,rfl,.inl ⟨_,rfl,si⟩,fun z=>⟨sz1,h⟩⟩
 refine⟨_,rfl,_,rfl,A'.p,a.zkg,dx,_,_,rfl,a1,T.zkh,T.zng,Fs,_,_,rfl,rfl,_,rfl,?_⟩;refine itD (fun hc2=>?_) (fun hc2=>?_)
 ·rw[if_pos (.inr hc2)] at h
  exact⟨_,rfl,.inl ⟨_,rfl,si⟩,fun z=>⟨sz1,h⟩⟩
 ·rw[if_neg (fun z=>z.elim hc hc2)] at h
  exact h
noncomputable abbrev X8:Stmt:=Z4 (top 56) 4
theorem Q8:Zl ["self"] ["self"] (Zj X8):=fnS
theorem Q9(F:Fun K "check_room" "Season.check_room" X8 f fd)(T:Tx K mg a):Z6 P w K mg base (CX1 P w) 1 f fd ["self"] (Ex (ca a)):=by
 refine F.okX Q8 (by walk_at "ar") fun _ _ _ _ H _ Q E hr h=>?_
 obtain⟨A',S,rfl,SA,h⟩:=h;refine⟨_,(Ze (Z5 (Zo zc4 (Zn (cL K) (by rfl) T.zkq PySem.boot_len (Za (Zp (K:=K) rfl (pv 0) rfl) Zd)) (Wu rfl T.zl4) (Zw _))
  (Ze (Xf Xe rfl T.zp2 rfl (Za (W9 (Z1 (W2 (Wu rfl T.zl4)) (Z1 (Xr (by decide +kernel)) W8)) (by decide)) Zd)))
  Zr)),?_⟩
 obtain⟨⟨dx,v,a1,a2⟩,b,c,d,f,⟨us,g1,g2⟩,nd,np⟩:=id SA;refine⟨_,rfl,A'.p,a.zkg,dx,_,_,rfl,a1,T.zkh,T.zlh,Ss,A'.lt,_,rfl,.inl (SqL.of g1),_,_,rfl,rfl,_,rfl,?_⟩;rw[g2.length];refine itD (fun hc=>?_) (fun hc=>?_)
 ·rw[if_pos (by omega)] at h
  exact⟨.inl ⟨_,rfl,Yj (by decide)⟩,fun z=>⟨sz1,h⟩⟩
 ·rw[if_neg (by omega)] at h
  exact h
noncomputable abbrev U8:Stmt:=Z4 (top 56) 5
theorem Hb:Zl ["self","word","number","at"] ["self","word","number","at"] (Zj U8):=fnS
theorem Hc(F:Fun K "note" "Season.note" U8 f fd)(T:Tx K mg a):Z6 P w K mg base (CX1 P w) 1 f fd ["self","word","number","at"] (Ey (ca a)):=by
 refine F.okX Hb (by walk_at "ar") fun _ _ _ _ H _ Q E hr h=>?_
 obtain⟨A',S,w',n,i,rfl,SA,hz,h⟩:=h;refine⟨_,(Ze (Yu (Zp (K:=K) rfl (pv 0) rfl) (Ye (Za (Ye (Za (pv 1) (Za (pv 2) (Za (pv 3) Zd)))) (Za (Zp (K:=K) rfl (pv 0) rfl) Zd))))),?_⟩;obtain⟨⟨dx,v,a1,a2⟩,b,c,⟨kvs,d1,d2⟩,⟨vs,f1,f2⟩,⟨us,g1,g2⟩,nd,np⟩:=id SA;refine⟨_,rfl,A'.p,a.zkg,dx,_,_,rfl,a1,T.zkh,T.zlh,Ss,A'.lt,us,rfl,g1,?_⟩;refine⟨_,rfl,_,rfl,_,rfl,sz3,fun t1 ht1=>?_⟩
 have s1:=Zf (o:=.tup [.str w',.int n,.int i]) ht1;have q1:upd H t1 (.tup [.str w',.int n,.int i]) t1=some (.tup (P9 (w',n,i))):=Zc;generalize upd H t1 (.tup [.str w',.int n,.int i])=H1 at s1 q1
 refine⟨_,rfl,A'.p,a.zkg,dx,_,_,rfl,s1 _ _ a1,T.zkh,T.zk7,W5,sz2,fun t2 ht2=>?_⟩
 have s2:=Zf (o:=.tup [.ref t1,v]) ht2;have q2:upd H1 t2 (.tup [.ref t1,v]) t2=some (.tup [.ref t1,v]):=Zc;have q12:=s2 _ _ q1;have s12:=s1.trans s2;generalize upd H1 t2 (.tup [.ref t1,v])=H2 at s2 q2 q12 s12
 refine⟨us,s12 _ _ g1,by have:=g2.length;have:=Td;omega,?_⟩
 have fr:FrS A' H (upd H2 A'.lt (.lst (us++[.ref t2]))):=fun b o e hb=>by
  rw[Zh (fun z=>hb (by rw[z];simp[SAd.fp]))];exact s12 _ _ e
 have kt:=SA.tups fr;have kp:∀ x o,x≠A'.lt->H x=some o->upd H2 A'.lt (.lst (us++[.ref t2])) x=some o:=fun x o hx e=>by rw[Zh hx];exact s12 _ _ e
 have kt2:∀ t xs,H2 t=some (.tup xs)->upd H2 A'.lt (.lst (us++[.ref t2])) t=some (.tup xs):=fun t xs e=>by
  rw[Zh (Yt e (s12 _ _ g1) (fun z=>nomatch z))];exact e
 have ko:∀ x o,x∉A'.fp->H x=some o->upd H2 A'.lt (.lst (us++[.ref t2])) x=some o:=fun x o hx e=>fr x o e hx
 have nd':=nd;simp only[SAd.fp,z1i,z00,z10,or_false,not_or] at nd'
 obtain⟨⟨n1,n2,n3,n4,n5,n6⟩,⟨n7,n8,n9,n10,n11⟩,⟨n12,n13,n14,n15⟩,⟨n16,n17,n18⟩,⟨n19,n20⟩,n21,_⟩:=nd';have npt:A'.pr≠A'.lt/\A'.pl≠A'.lt:=⟨fun z=>np.1 (by rw[z];simp[SAd.fp]),fun z=>np.2 (by rw[z];simp[SAd.fp])⟩
 refine h _ ⟨⟨dx,v,kp _ _ n6 a1,a2.keep ko kt⟩,b.keep (fun o e=>kp _ o npt.1 e) (fun o e=>kp _ o n11 e) kt,c.keep (fun o e=>kp _ o npt.2 e) (fun o e=>kp _ o n15 e) (fun o e=>kp _ o n18 e) kt,⟨kvs,kp _ _ n20 d1,d2⟩,⟨vs,kp _ _ n21 f1,f2.keep ko kt⟩,⟨us++[.ref t2],Zc,?_⟩,nd,np⟩ fr
 exact(g2.keep ko kt).snoc (kt2 _ _ q2) (kt2 _ _ q12) (a2.keep ko kt)
noncomputable abbrev Xp:Stmt:=Z4 (top 56) 6
theorem Rn:Zl ["self"] ["self"] (Zj Xp):=fnS
theorem Ro(F:Fun K "sheet_at_hand" "Season.sheet_at_hand" Xp f fd)(T:Tx K mg a):Z6 P w K mg base (CX1 P w) 1 f fd ["self"] (Sg (ca a)):=by
 refine F.okX Rn (by walk_at "ar") fun _ _ _ _ H _ Q E hr h=>?_
 obtain⟨A',S,rfl,SA,h1,h2⟩:=h;refine⟨_,(Zb (Z5 (Zo Jh (Zp (K:=K) rfl (pv 0) rfl) Y5 (Zw _))
  (Ze (Xf Xe rfl T.zp4 rfl (Za Zs Zd)))
  Zr)
 (Ze (Zm (Zp (K:=K) rfl (pv 0) rfl)))),?_⟩
 obtain⟨⟨dx,v,a1,a2⟩,b,c,_⟩:=id SA;refine⟨_,rfl,A'.p,a.zkg,dx,_,_,rfl,a1,T.zkh,T.zk7,W5,rfl,_,rfl,?_⟩;cases hc:S.cur with
 | none =>
   rw[hc] at a2
   have a2:v=.non:=a2;rw[a2];exact iteT ⟨sz1,h1 hc⟩
 | some s =>
   rw[hc] at a2
   obtain⟨q,rfl,hs⟩:=a2;refine iteF ?_;exact⟨_,rfl,A'.p,a.zkg,dx,_,_,rfl,a1,T.zkh,T.zk7,W5,h2 s q hc hs⟩
noncomputable abbrev Wy:Stmt:=Z4 (top 56) 7
theorem O6:Zl ["self","at"] ["self","at"] (Zj Wy):=fnS
theorem O7(F:Fun K "sheet_of" "Season.sheet_of" Wy f fd)(T:Tx K mg a)(zko:Zu P w K mg base a.zkg "check_round" 1 ["self","at"] (Jc (ca a)))(zkp:Zu P w K mg base a.zki "over" 1 ["self"] (Mp a.zki))(zkj:Zu P w K mg base a.zkg "at_hand" 2 ["self"] (V7 (ca a)))(zkm:Zu P w K mg base a.zkg "sheet_at_hand" 1 ["self"] (Sg (ca a))):Z6 P w K mg base (CX1 P w) 3 f fd ["self","at"] (Fu (ca a)):=by
 refine F.okX O6 (by walk_at "ar") fun _ _ _ _ H _ Q E hr h=>?_
 obtain⟨A',S,i,rfl,SA,si,hol,h⟩:=h;refine⟨_,(Zb (Z7 (Yy (pv 0) T.zkh zko (hr.mono (by decide)) Zk (Za (pv 1) Zd)))
 (Zb (Z5 (Zo zge (pv 1) (Yl (Zp (K:=K) rfl (pv 0) rfl) T.zk0 zkp (hr.mono (by decide)) Zk) (Zw _))
  (Ze (Zm (pI (iL K) (Zp (K:=K) rfl (pv 0) rfl) (Zv Rr (pv 1) Zi))))
  Zr)
 (Zb (Z5 (Zo Ra (pv 1) (Yl (pv 0) T.zkh zkj (hr.mono (by decide)) Zk) (Zw _))
  (Ze (Xf Xe rfl T.zp4 rfl (Za (W9 (Z1 (Xr (by decide +kernel)) (Z1 (W2 (pv 1)) (Z1 (Xr (by decide +kernel)) W8))) (by decide)) Zd)))
  Zr)
 (Ze (Zm (Yl (pv 0) T.zkh zkm (hr.mono (by decide)) Zk)))))),?_⟩
 obtain⟨⟨dx,v,a1,a2⟩,b,c,d,⟨vs,f1,f2⟩,_⟩:=id SA;obtain⟨⟨dxl,hpl⟩,_⟩:=id c;refine⟨_,rfl,A'.p,dx,_,rfl,a1,Yg (by decide +kernel),_,rfl,A',S,i,rfl,SA,si,?_⟩
 refine it2 h (fun _ z=>z) fun hn h=>?_
 refine⟨_,rfl,_,rfl,A'.p,a.zkg,dx,_,_,rfl,a1,T.zkh,T.zlm,Vz,A'.pl,dxl,_,rfl,hpl,Ni (by decide +kernel) (by decide +kernel),A'.pl,A'.lr,A'.ld,S.led,rfl,c,_,_,rfl,rfl,_,rfl,?_⟩
 refine itD (fun hc=>?_) (fun hc=>?_)
 ·have hk:(i-1).toNat<S.old.length:=by omega
  have hs:V8 S i=some (S.old[(i-1).toNat]'hk):=by unfold V8;rw[if_pos hc];exact z0u hk
  obtain⟨q,e1,e2⟩:=f2.getR (z0u hk);exact⟨_,rfl,A'.p,a.zkg,dx,_,_,rfl,a1,T.zkh,T.znt,Ft,_,rfl,_,_,rfl,rfl,A'.ls,_,_,_,rfl,rfl,SqL.of f1,(show atI vs (i-1)=some (.ref q) by rw[show i-1=(((i-1).toNat:Nat):Int) by omega];exact Z8 e1),h.2 _ q hs e2⟩
 ·refine Zz ?_
  refine⟨_,rfl,_,rfl,A'.p,dx,_,rfl,a1,Yg (by decide +kernel),A',S,rfl,SA,_,_,rfl,rfl,_,rfl,?_⟩
  refine itD (fun hc2=>?_) (fun hc2=>?_)
  ·exact⟨_,rfl,.inl ⟨_,rfl,si⟩,fun z=>⟨sz1,h.1 (by unfold V8;rw[if_neg hc,if_pos (by unfold atV at hc2;omega)])⟩⟩
  ·have hs:V8 S i=S.cur:=by unfold V8;rw[if_neg hc,if_neg (by unfold atV at hc2;omega)]
   exact⟨_,rfl,A'.p,dx,_,rfl,a1,Yg (by decide +kernel),A',S,rfl,SA,fun hz=>h.1 (by rw[hs];exact hz),fun s q hz hq=>h.2 s q (by rw[hs];exact hz) hq⟩
noncomputable abbrev Wk:Stmt:=Z4 (top 56) 8
theorem X9:Zl ["self","listed","people","at","out"] ["self","listed"] (Zj Wk):=fnS
theorem Pz(F:Fun K "takers_of" "Season.takers_of" Wk f fd)(T:Tx K mg a)(zl0:Zu P w K mg base a.zkl "numbers" 1 ["self"] (Jw (ca a)))(zle:Zu P w K mg base a.zkl "person" 3 ["self","number"] (Jx (ca a)))(zkj:Zu P w K mg base a.zkg "at_hand" 2 ["self"] (V7 (ca a)))(zn8:Z9 P w K mg base "takers" 4 ["people","match","out","ledger","rest"] (Ju K a.zki)):Z6 P w K mg base (CX1 P w) 5 f fd ["self","listed"] (Ot (ca a)):=by
 refine F.okX X9 (by walk_at "ar") fun _ _ _ _ H _ Q E hr h=>?_
 obtain⟨A',S,l,ts,ms,rfl,SA,hl,tl,hml,hpl,hsm,h⟩:=h;have hu:=Wm hr;refine⟨_,(Zb (pS 2 X9.nd (Ua rfl (cT ["self"] [0]) (Yh (K:=K) rfl (Yl (Zp (K:=K) rfl (pv 0) rfl) T.zkz zl0 (hr.mono (by decide)) Zk)) (fun _ _ _ _ _=>V3) (fun _ _ _ _ _=>(Yy (Zp (K:=K) rfl (pv 1) rfl) T.zkz zle (hr.mono (by decide)) D7 (Za (pv 0) Zd)))))
 (Zb (pS 3 X9.nd (Yl (pv 0) T.zkh zkj (hr.mono (by decide)) Zk))
 (Zb (pS 4 X9.nd (Ua rfl (cT ["at","self"] [3,0]) (Yh (K:=K) rfl (Yl (Zp (K:=K) rfl (pv 0) rfl) T.zkz zl0 (hr.mono (by decide)) Zk)) (fun _ _ _ _ _=>Pf (S6 (Qq hu (Ye (Za (pv 1) (Za (pv 0) Zd))) (Zp (K:=K) rfl (pv 2) rfl)))) (fun _ _ _ _ _=>(pv 0))))
 (Ze (Zm (Ua rfl (cT ["people","out","self"] [2,4,0]) (Yh (K:=K) rfl (pv 1)) (fun _ _ _ _ _=>V3) (fun _ _ _ _ _=>(zai zn8 (hr.mono (by decide)) D7 rfl (Za (pv 1) (Za (pv 0) (Za (pv 2) (Za (Zp (K:=K) rfl (pv 3) rfl) (Za (Zp (K:=K) rfl (pv 3) rfl) Zd))))))))))))),?_⟩
 obtain⟨⟨dx,v,a1,a2⟩,b,c,⟨kvs,d1,d2⟩,_⟩:=id SA;obtain⟨⟨dxr,kvr,hpr,hdr,en⟩,ndr⟩:=id b;refine⟨_,rfl,A'.p,a.zkg,dx,_,_,rfl,a1,T.zkh,T.zlf,Vb,A'.pr,dxr,_,rfl,hpr,Xm.no (by decide +kernel),A'.pr,A'.dr,S.ppl,rfl,b,fun ln hln=>?_⟩
 have s1:=Zf (o:=.lst (S.ppl.map fun x=>V.int x.1)) hln
 have q1:upd H ln (.lst (S.ppl.map fun x=>V.int x.1)) ln=some (.lst (S.ppl.map fun x=>V.int x.1)):=Zc
 generalize upd H ln (.lst (S.ppl.map fun x=>V.int x.1))=H1 at s1 q1
 have hnl:(S.ppl.map fun x=>V.int x.1).length=S.ppl.length:=by rw[z0t]
 refine⟨ln,rfl,⟨_,SqL.of q1⟩,Wq (K:=K) (xs:=S.ppl.map fun x=>V.int x.1) (fun i ys H'=>Same H H'/\Same H1 H'/\Yb H' ys ((S.ppl.take i).map pV)/\ys.length=i) ⟨s1,Same.refl _,.nil,rfl⟩ (fun i ys H' _ ⟨_,z,_⟩=>SqL.of (z _ _ q1)) (szN (by omega)) (fun i ys H' ⟨_,_,_,e⟩=>by omega) ?_ ?_⟩
 ·rintro i x ys H' hx ⟨sh,s1',tl',hyl⟩
  have hi:i<S.ppl.length:=by have:=(z0v.mp hx).1;omega
  have hpi:S.ppl[i]?=some (S.ppl[i]'hi):=z0u hi;have etk:S.ppl.take (i+1)=S.ppl.take i++[S.ppl[i]'hi]:=z1p hi;have hmem:S.ppl[i]'hi∈S.ppl:=z1s hi;have ex:x=.int (S.ppl[i]'hi).1:=by rw[z0x,hpi] at hx;exact(Option.some.inj hx).symm
  generalize (S.ppl[i]'hi)=pp at hpi etk hmem ex
  subst ex;unfold tYes;dsimp only;rw[if_pos rfl];refine⟨_,rfl,A'.p,a.zkg,dx,_,_,rfl,sh _ _ a1,T.zkh,T.zlf,Vb,A'.pr,dxr,_,rfl,sh _ _ hpr,Xm.no (by decide +kernel),_,rfl,A'.pr,A'.dr,S.ppl,pp.1,rfl,b.same sh,hsm pp hmem,fun z=>absurd (z02.mpr ⟨pp,hmem,rfl⟩) z,fun g c' t H2 hm ht s2 _=>?_⟩
  have epp:=zay b.nd hm hmem rfl;rw[epp] at ht
  refine⟨sh.trans s2,s1'.trans s2,?_,by rw[z0w,hyl];rfl⟩
  rw[etk,z0y];exact(tl'.same s2).snoc ht
 rintro ys H2 ⟨sh2,s12,tl2,hyl⟩ lp hlp;rw[hnl,z1b] at tl2
 have s3:=sh2.trans (Zf (o:=.lst ys) hlp);have q3:upd H2 lp (.lst ys) lp=some (.lst ys):=Zc;have tl3:=tl2.same (Zf (o:=.lst ys) hlp);generalize upd H2 lp (.lst ys)=H3 at s3 q3 tl3
 have SA3:=SA.same s3;refine⟨_,rfl,A'.p,dx,_,rfl,s3 _ _ a1,Yg (by decide +kernel),A',S,rfl,SA3,?_⟩
 refine⟨_,rfl,A'.p,a.zkg,dx,_,_,rfl,s3 _ _ a1,T.zkh,T.zlf,Vb,A'.pr,dxr,_,rfl,s3 _ _ hpr,Xm.no (by decide +kernel),A'.pr,A'.dr,S.ppl,rfl,b.same s3,fun ln4 hln4=>?_⟩
 have s4:=Zf (o:=.lst (S.ppl.map fun x=>V.int x.1)) hln4
 have q4:upd H3 ln4 (.lst (S.ppl.map fun x=>V.int x.1)) ln4=some (.lst (S.ppl.map fun x=>V.int x.1)):=Zc
 generalize upd H3 ln4 (.lst (S.ppl.map fun x=>V.int x.1))=H4 at s4 q4
 refine⟨ln4,rfl,⟨_,SqL.of q4⟩,Wq (K:=K) (xs:=S.ppl.map fun x=>V.int x.1) (fun i ys H'=>Same H4 H'/\ys=((S.ppl.take i).filter (pIn S.out (atV S))).map fun x=>V.int x.1) ⟨Same.refl _,rfl⟩ (fun i ys H' _ ⟨z,_⟩=>SqL.of (z _ _ q4)) (szN (by omega)) (fun i ys H' ⟨_,e⟩=>by rw[e,z0t];exact z09 (z1n _ _) (z1z _ _)) ?_ ?_⟩
 ·rintro i x zs H' hx ⟨s4',rfl⟩
  have hi:i<S.ppl.length:=by have:=(z0v.mp hx).1;omega
  have hpi:S.ppl[i]?=some (S.ppl[i]'hi):=z0u hi;have etk:S.ppl.take (i+1)=S.ppl.take i++[S.ppl[i]'hi]:=z1p hi;have ex:x=.int (S.ppl[i]'hi).1:=by rw[z0x,hpi] at hx;exact(Option.some.inj hx).symm
  generalize (S.ppl[i]'hi)=pp at hpi etk ex
  subst ex;refine⟨_,rfl,_,rfl,sz2,fun t ht=>?_⟩
  have s5:=Zf (o:=.tup [.int (atV S),.int pp.1]) ht;have q5:upd H' t (.tup [.int (atV S),.int pp.1]) t=some (.tup (([Sum.inl (atV S),Sum.inl pp.1]:List Key).map kV)):=Zc;generalize upd H' t (.tup [.int (atV S),.int pp.1])=H5 at s5 q5
  have sh5:=s3.trans (s4.trans (s4'.trans s5));refine⟨_,rfl,A'.p,a.zkg,dx,_,_,rfl,sh5 _ _ a1,T.zkh,T.zl8,Ri,A'.da,_,rfl,DGet.t (k:=[Sum.inl (atV S),Sum.inl pp.1]) (sh5 _ _ d1) q5,_,rfl,?_⟩;rw[d2.isSome];have e2:∀ ws,((S.ppl.take (i+1)).filter (pIn S.out (atV S))).map (fun x=>V.int x.1)=((S.ppl.take i).filter (pIn S.out (atV S))).map (fun x=>V.int x.1)++ws↔ws=if pIn S.out (atV S) pp then [V.int pp.1] else []:=fun ws=>by
   rw[etk,z2c,z0y,z2h];cases q:pIn S.out (atV S) pp<;>simp[q,eq_comm]
  refine itB (fun hb=>?_) (fun hb=>?_)
  ·exact⟨_,rfl,s4'.trans s5,((e2 [V.int pp.1]).mpr (by rw[show pIn S.out (atV S) pp=true from hb];rfl)).symm⟩
  ·refine⟨s4'.trans s5,?_⟩
   have:=(e2 []).mpr (by rw[show pIn S.out (atV S) pp=false from hb];rfl)
   rw[z2j] at this
   exact this.symm
 rintro zs H5 ⟨s45,rfl⟩ lo hlo;rw[hnl,z1b];have s6:=s45.trans (Zf (o:=.lst (outV S)) hlo);have q6:upd H5 lo (.lst (outV S)) lo=some (.lst (outV S)):=Zc;show Wt 4 (V.ref lo) _ (upd H5 lo (.lst (outV S))) _;generalize upd H5 lo (.lst (outV S))=H6 at s6 q6
 have s36:=s4.trans s6;have s06:=s3.trans s36;have hl6:=s06 _ _ hl;have hts:ts.length=ms.length:=by rw[tl.length,z0t]
 refine⟨_,rfl,l,rfl,⟨_,SqL.of hl6⟩,Wq (K:=K) (xs:=ts) (fun i ys H'=>Same H6 H'/\∃ ls,ys=ls.map V.ref/\ILs H' ls ((mayS S ms).take i)/\ls.length=i/\∀ x∈ls,H x=none) ⟨Same.refl _,[],rfl,.nil,rfl,by simp⟩ (fun i ys H' _ ⟨z,_⟩=>SqL.of (z _ _ hl6)) (szN (by omega)) (fun i ys H' ⟨_,ls,e1,_,e2,_⟩=>by rw[e1,z0t];omega) ?_ ?_⟩
 ·rintro i x ys' H' hx ⟨s6',ls,rfl,il,hll,hfr⟩
  obtain⟨tm,m,rfl,hm,htm⟩:=Nk tl hx;have s0:=s06.trans s6';unfold tYes;dsimp only;rw[if_pos rfl];refine⟨_,rfl,_,rfl,_,rfl,_,rfl,A'.p,a.zkg,dx,_,_,rfl,s0 _ _ a1,T.zkh,T.zlm,Vz,_,rfl,A'.p,a.zkg,dx,_,_,rfl,s0 _ _ a1,T.zkh,T.zoz,zax,lp,lo,tm,A'.pl,A'.lr,A'.ld,S.led,ys,S.ppl,outV S,m.1,m.2.1,m.2.2,S.rest,rfl,(s36.trans s6') _ _ q3,tl3.same (s36.trans s6'),s6' _ _ q6,zel S,s0 _ _ htm,c.same s0,by omega,fun l2 H2 hl2 s2 f2=>?_⟩
  rw[zh5] at hl2
  refine⟨s6'.trans s2,ls++[l2],by rw[z0y];rfl,?_,by rw[z0w,hll];rfl,fun y hy=>?_⟩
  ·have e:(mayS S ms).take (i+1)=(mayS S ms).take i++[mayM S m]:=by
    unfold mayS;rw[z2a,z0x,hm];rfl
   rw[e];exact(il.same s2).snoc hl2
  ·rcases z06.mp hy with z|z
   ·exact hfr y z
   ·rw[z0z.mp z];exact s0.free f2
 ·rintro ys' H' ⟨s6',ls,rfl,il,hll,hfr⟩ l' hl'
  have hmy:(mayS S ms).length=ms.length:=by unfold mayS;rw[z0t]
  rw[hts,<- hmy,z1b] at il
  have s0:=s06.trans s6';exact h l' ls _ Zc (il.same (Zf hl')) (s0.trans (Zf hl')) (s0.free hl') hfr
noncomputable abbrev Ul:Stmt:=Z4 (top 56) 9
theorem Kw:Zl ["self","number","grade","club"] ["self","number","grade","club"] (Zj Ul):=fnS
theorem Kx(F:Fun K "enrol" "Season.enrol" Ul f fd)(T:Tx K mg a)(zkw:Zu P w K mg base a.zkg "check_undrawn" 4 ["self"] (My (ca a)))(zk5:Zu P w K mg base a.zkl "check_new" 2 ["self","number","grade","club"] (Oo (ca a)))(zkr:Zu P w K mg base a.zkg "check_room" 1 ["self"] (Ex (ca a)))(zk6:Zu P w K mg base a.zkg "note" 1 ["self","word","number","at"] (Ey (ca a)))(zkj:Zu P w K mg base a.zkg "at_hand" 2 ["self"] (V7 (ca a)))(zoc:Zu P w K mg base a.zkl "add" 3 ["self","number","grade","club"] (zej (ca a))):Z6 P w K mg base (CX1 P w) 5 f fd ["self","number","grade","club"] (za0 (ca a)):=by
 refine F.okX Kw (by walk_at "ar") fun _ _ _ _ H _ Q E hr h=>?_
 obtain⟨A',S,n,g,c0,rfl,SA,sm,hz,hz2,h⟩:=h;refine⟨_,(Zb (Z7 (Yl (pv 0) T.zkh zkw (hr.mono (by decide)) Zk))
 (Zb (Z7 (Yy (Zp (K:=K) rfl (pv 0) rfl) T.zkz zk5 (hr.mono (by decide)) Zk (Za (pv 1) (Za (pv 2) (Za (pv 3) Zd)))))
 (Zb (Z7 (Yl (pv 0) T.zkh zkr (hr.mono (by decide)) Zk))
 (Zb (Z7 (Yy (pv 0) T.zkh zk6 (hr.mono (by decide)) Zk (Za Zs (Za (pv 1) (Za (Yl (pv 0) T.zkh zkj (hr.mono (by decide)) Zk) Zd)))))
 (Ze (Z7 (Yy (Zp (K:=K) rfl (pv 0) rfl) T.zkz zoc (hr.mono (by decide)) Zk (Za (pv 1) (Za (pv 2) (Za (pv 3) Zd)))))))))),?_⟩
 obtain⟨⟨dx,v,a1,a2⟩,b,c,_⟩:=id SA;obtain⟨⟨dxr,kvr,hpr,hdr,en⟩,ndr⟩:=id b;refine⟨_,rfl,A'.p,dx,_,rfl,a1,Yg (by decide +kernel),A',S,rfl,SA,?_⟩
 refine it2 h (fun _ z=>z) fun h1 h=>it2 h (fun _ z=>z) fun h2 h=>?_
 refine⟨_,rfl,A'.p,a.zkg,dx,_,_,rfl,a1,T.zkh,T.zlf,Vb,A'.pr,dxr,_,rfl,hpr,Xm.no (by decide +kernel),_,rfl,_,rfl,_,rfl,A'.pr,A'.dr,S.ppl,n,g,c0,rfl,b,sm,?_⟩
 refine it2 h (fun _ z=>z) fun h3 h=>it2 h (fun _ z=>z) fun h4 h=>it2 h (fun _ z=>z) fun h5 h=>?_
 refine⟨_,rfl,A'.p,dx,_,rfl,a1,Yg (by decide +kernel),A',S,rfl,SA,?_⟩
 refine it2 h (fun _ z=>z) fun h6 h=>?_
 refine⟨_,rfl,A'.p,dx,_,rfl,a1,Yg (by decide +kernel),_,rfl,_,rfl,A'.p,dx,_,rfl,a1,Yg (by decide +kernel),A',S,rfl,SA,A',S,"enrol",n,atV S,rfl,SA,hz,fun H1 SA1 f1=>?_⟩
 obtain⟨⟨dx1,v1,a11,a12⟩,b1,c1,_⟩:=id SA1;obtain⟨⟨dxr1,kvr1,hpr1,hdr1,en1⟩,ndr1⟩:=id b1;refine⟨_,rfl,A'.p,a.zkg,dx1,_,_,rfl,a11,T.zkh,T.zlf,Vb,A'.pr,dxr1,_,rfl,hpr1,Xm.no (by decide +kernel),_,rfl,_,rfl,_,rfl,A'.pr,A'.dr,S.ppl,n,g,c0,rfl,b1,sm,hz2,?_⟩
 rw[if_neg h3,if_neg h4,if_neg h5];intro H2 R2 k2;obtain⟨SA2,f2⟩:=SA1.setRos R2 k2;exact h H2 SA2 (f1.trans f2)
noncomputable abbrev Vf:Stmt:=Z4 (top 56) 10
theorem Sv:Zl ["self","matches","listed"] ["self","matches"] (Zj Vf):=fnS
theorem N2(F:Fun K "draw_up" "Season.draw_up" Vf f fd)(T:Tx K mg a)(zkw:Zu P w K mg base a.zkg "check_undrawn" 4 ["self"] (My (ca a)))(zpk:Z9 P w K mg base "checked" 3 ["matches"] (J3 K (ca a)))(zkr:Zu P w K mg base a.zkg "check_room" 1 ["self"] (Ex (ca a)))(zk6:Zu P w K mg base a.zkg "note" 1 ["self","word","number","at"] (Ey (ca a)))(zkj:Zu P w K mg base a.zkg "at_hand" 2 ["self"] (V7 (ca a)))(zn1:Z9 P w K mg base "drawn_sheet" 4 ["listed","lists"] (zav (ca a)))(zk4:Zu P w K mg base a.zkg "takers_of" 5 ["self","listed"] (Ot (ca a)))(zl2:Zu P w K mg base a.zkk "goes" 1 ["self"] (Jz (ca a))):Z6 P w K mg base (CX1 P w) 6 f fd ["self","matches"] (Cu K (ca a)):=by
 refine F.okX Sv (by walk_at "ar") fun _ _ _ _ H _ Q E hr h=>?_
 obtain⟨A',S,b,ts,ms,rfl,SA,hs,tl,sm,hml,hz,po,h⟩:=h;refine⟨_,(Zb (Z7 (Yl (pv 0) T.zkh zkw (hr.mono (by decide)) Zk))
 (Zb (pS 2 Sv.nd (pF zpk hr (Za (pv 1) Zd)))
 (Zb (Z7 (Yl (pv 0) T.zkh zkr (hr.mono (by decide)) Zk))
 (Zb (Z7 (Yy (pv 0) T.zkh zk6 (hr.mono (by decide)) Zk (Za Zs (Za (Zn (cL K) (by rfl) T.zkq PySem.boot_len (Za (pv 2) Zd)) (Za (Yl (pv 0) T.zkh zkj (hr.mono (by decide)) Zk) Zd)))))
 (Zb (Xb (K:=K) rfl (pv 0) (pF zn1 hr (Za (pv 2) (Za (Yy (pv 0) T.zkh zk4 (hr.mono (by decide)) Zk (Za (pv 2) Zd)) Zd))) rfl)
 (Ze (Zm (Yl (Zp (K:=K) rfl (pv 0) rfl) T.zkt zl2 (hr.mono (by decide)) Zk)))))))),?_⟩
 obtain⟨⟨dx,v,a1,a2⟩,br,cl,_⟩:=id SA;have hts:ts.length=ms.length:=by rw[tl.length,z0t]
 refine⟨_,rfl,A'.p,dx,_,rfl,a1,Yg (by decide +kernel),A',S,rfl,SA,?_⟩
 refine it2 h (fun _ z=>z) fun h1 h=>it2 h (fun _ z=>z) fun h2 h=>?_
 refine⟨_,rfl,b,ts,ms,rfl,hs,tl,sm,hml,h.1,h.2.1,h.2.2.1,fun g1 g2 g3 l1 hl1=>?_⟩
 have h4:=h.2.2.2 g1 g2 g3;have s1:=Zf (o:=.lst ts) hl1;have q1:upd H l1 (.lst ts) l1=some (.lst ts):=Zc;generalize upd H l1 (.lst ts)=H1 at s1 q1
 have SA1:=SA.same s1;have a11:=s1 _ _ a1;refine⟨_,rfl,A'.p,dx,_,rfl,a11,Yg (by decide +kernel),A',S,rfl,SA1,?_⟩
 refine Hu (fun z=>h4.1 z H1 s1) (fun hroom=>?_)
 refine⟨_,rfl,A'.p,dx,_,rfl,a11,Yg (by decide +kernel),_,rfl,l1,_,rfl,.inl (SqL.of q1),_,rfl,A'.p,dx,_,rfl,a11,Yg (by decide +kernel),A',S,rfl,SA1,A',S,"draw up",(ts.length:Nat),atV S,rfl,SA1,hz,fun H2 SA2 f2=>?_⟩
 rw[hts] at SA2
 have ok1:l1∉A'.fp:=SA.newOk l1 hl1;have q12:=f2 _ _ q1 ok1;have tl2:=(tl.same s1).mono (SA1.tups f2);obtain⟨⟨dx2,v2,a21,a22⟩,br2,_⟩:=id SA2;refine⟨_,rfl,_,rfl,A'.p,dx2,_,rfl,a21,Yg (by decide +kernel),_,rfl,A',_,l1,ts,ms,rfl,SA2,q12,tl2,by omega,z09 po.2 (by decide),po.small,fun l2 ls H3 h3 il3 s3 f3 fl3=>?_⟩
 have SA3:=SA2.same s3;have mo:Jv (mayS S ms) (S.ppl.map (·.1)):=po.may br2.nd g1
 refine⟨(·∉A'.fp),l1,l2,ts,ls,ms,mayS S ms,_,rfl,s3 _ _ q12,tl2.same s3,h3,il3,ok1,SA2.newOk l2 f3,fun x hx=>SA2.newOk x (fl3 x hx),SA3.newOk,mo,fun q gv H4 ShA FP SP s4 fq=>?_⟩
 have SA4:=SA3.same s4;obtain⟨⟨dx4,v4,a41,a42⟩,_⟩:=id SA4;refine⟨_,rfl,A'.p,a.zkg,dx4,_,rfl,a41,T.zkh,T.zk7,(by show 8<1000;decide),?_⟩
 obtain⟨SA5,f5,Sh5⟩:=SA4.newSheet a41 ShA;generalize upd H4 A'.p (.ins a.zkg dx4 (putF "sheet" (.ref q) (seaF A' S.len S.rest v4)))=H5 at SA5 f5 Sh5
 obtain⟨⟨dx5,v5,a51,a52⟩,_⟩:=id SA5;obtain⟨q',rfl,Sq⟩:=a52;obtain⟨dxq,m1,m2,m3,m4,hq'⟩:=ShAt.ins Sq;refine⟨_,rfl,A'.p,a.zkg,dx5,_,_,rfl,a51,T.zkh,T.zk7,W5,q',dxq,_,rfl,hq',U0 (by decide +kernel) (by decide +kernel) (by decide +kernel) (by decide +kernel),(·∉A'.fp),q',_,rfl,Sq,fun l H6 hl s6 fl=>?_⟩
 have fr5:FrS A' H H5:=(FrS.of A' s1).trans (f2.trans ((FrS.of A' (s3.trans s4)).trans f5));exact h4.2 (by omega) l gv H6 hl (SA5.same s6) FP SP (fr5.trans (FrS.of A' s6)) (fr5.free SA5 fl)
noncomputable abbrev U9:Stmt:=Z4 (top 56) 11
theorem He:Zl ["self","at","number"] ["self","at","number"] (Zj U9):=fnS
theorem Hf(F:Fun K "away" "Season.away" U9 f fd)(T:Tx K mg a)(zko:Zu P w K mg base a.zkg "check_round" 1 ["self","at"] (Jc (ca a)))(zkp:Zu P w K mg base a.zki "over" 1 ["self"] (Mp a.zki))(zkn:Zu P w K mg base a.zkl "check_known" 1 ["self","number"] (Ts (ca a)))(zkr:Zu P w K mg base a.zkg "check_room" 1 ["self"] (Ex (ca a)))(zk6:Zu P w K mg base a.zkg "note" 1 ["self","word","number","at"] (Ey (ca a)))(zkj:Zu P w K mg base a.zkg "at_hand" 2 ["self"] (V7 (ca a)))(zmw:Zu P w K mg base a.zkg "step_in" 6 ["self","number"] (Cv (ca a))):Z6 P w K mg base (CX1 P w) 7 f fd ["self","at","number"] (zeo (ca a)):=by
 refine F.okX He (by walk_at "ar") fun _ _ _ _ H _ Q E hr h=>?_
 obtain⟨A',S,i,n,rfl,SA,si,sn,hz,hoz,po,hcur,h⟩:=h;have hu:=Wm hr;refine⟨_,(Zb (Z7 (Yy (pv 0) T.zkh zko (hr.mono (by decide)) Zk (Za (pv 1) Zd)))
 (Zb (Z5 (Zo zge (pv 1) (Yl (Zp (K:=K) rfl (pv 0) rfl) T.zk0 zkp (hr.mono (by decide)) Zk) (Zw _))
  (Ze (Xf Xe rfl T.zqk rfl (Za (W9 (Z1 (Xr (by decide +kernel)) (Z1 (W2 (pv 1)) (Z1 (Xr (by decide +kernel)) W8))) (by decide)) Zd)))
  Zr)
 (Zb (Z7 (Yy (Zp (K:=K) rfl (pv 0) rfl) T.zkz zkn (hr.mono (by decide)) Zk (Za (pv 2) Zd)))
 (Zb (Z5 (S6 (Qq hu (Ye (Za (pv 1) (Za (pv 2) Zd))) (Zp (K:=K) rfl (pv 0) rfl)))
  (Ze (Xf Xe rfl T.zqd rfl (Za (W9 (Z1 (Xr (by decide +kernel)) (Z1 (W2 (pv 2)) (Z1 (Xr (by decide +kernel)) (Z1 (W2 (pv 1)) (Z1 (Xr (by decide +kernel)) W8))))) (by decide)) Zd)))
  Zr)
 (Zb (Z7 (Yl (pv 0) T.zkh zkr (hr.mono (by decide)) Zk))
 (Zb (Z7 (Yy (pv 0) T.zkh zk6 (hr.mono (by decide)) Zk (Za Zs (Za (pv 2) (Za (pv 1) Zd)))))
 (Zb (Ys hu (Zp (K:=K) rfl (pv 0) rfl) (Ye (Za (pv 1) (Za (pv 2) Zd))) Xq rfl)
 (Zb (Z5 (PW.pt (V0 (Zo Ra (pv 1) (Yl (pv 0) T.zkh zkj (hr.mono (by decide)) Zk) (Zw _)) (Ws (Zo Jh (Zp (K:=K) rfl (pv 0) rfl) Y5 (Zw _)))))
  (Ze (Zm (Ya Zd)))
  Zr)
 (Ze (Zm (Yy (pv 0) T.zkh zmw (hr.mono (by decide)) Zk (Za (pv 2) Zd)))))))))))),?_⟩
 show let y1:TS:=_;let y2:TS:=Z2 _ y1;let y3:TS:=Z2 _ y2;let y4:TS:=Z2 _ y3;let y5:TS:=Z2 _ y4;let y6:TS:=Z2 _ y5;let y7:TS:=Z2 _ y6;let y8:TS:=Z2 _ y7;Z2 _ y8 _ _ _;intro y1 y2 y3 y4 y5 y6 y7 y8;obtain⟨⟨dx,v,a1,a2⟩,br,cl,⟨kvs,d1,d2⟩,_⟩:=id SA;obtain⟨⟨dxl,hpl⟩,_⟩:=id cl;obtain⟨⟨dxr,kvr,hpr,hdr,en⟩,ndr⟩:=id br;refine⟨_,rfl,A'.p,dx,_,rfl,a1,Yg (by decide +kernel),_,rfl,A',S,i,rfl,SA,si,?_⟩
 refine it2 h (fun _ z=>z) fun h1 h=>?_
 refine⟨_,rfl,_,rfl,A'.p,a.zkg,dx,_,_,rfl,a1,T.zkh,T.zlm,Vz,A'.pl,dxl,_,rfl,hpl,Ni (by decide +kernel) (by decide +kernel),A'.pl,A'.lr,A'.ld,S.led,rfl,cl,_,_,rfl,rfl,_,rfl,?_⟩
 refine itD (fun hc=>?_) (fun hc=>?_)
 ·rw[if_pos hc] at h
  exact⟨_,rfl,.inl ⟨_,rfl,si⟩,fun z=>⟨sz1,h⟩⟩
 rw[if_neg hc] at h
 refine Zz ?_;refine⟨_,rfl,A'.p,a.zkg,dx,_,_,rfl,a1,T.zkh,T.zlf,Vb,A'.pr,dxr,_,rfl,hpr,Xm.no (by decide +kernel),_,rfl,A'.pr,A'.dr,S.ppl,n,rfl,br,sn,?_⟩
 refine it2 h (fun hk h=>?_) (fun _ z=>z)
 refine⟨_,rfl,_,rfl,sz2,fun t ht=>?_⟩
 have s1:=Zf (o:=.tup [.int i,.int n]) ht;have q1:upd H t (.tup [.int i,.int n]) t=some (.tup (([Sum.inl i,Sum.inl n]:List Key).map kV)):=Zc;generalize upd H t (.tup [.int i,.int n])=H1 at s1 q1
 have SA1:=SA.same s1;have a11:=s1 _ _ a1;refine⟨_,rfl,A'.p,a.zkg,dx,_,_,rfl,a11,T.zkh,T.zl8,Ri,A'.da,_,rfl,DGet.t (k:=[Sum.inl i,Sum.inl n]) (s1 _ _ d1) q1,_,rfl,?_⟩;rw[d2.isSome];refine itD (fun hm=>?_) (fun hm=>?_)
 ·rw[if_pos hm] at h
  exact⟨_,rfl,.inl ⟨_,rfl,sn⟩,_,rfl,.inl ⟨_,rfl,si⟩,fun z=>⟨sz1,h H1 s1⟩⟩
 rw[if_neg hm] at h
 refine Zz ?_;refine⟨_,rfl,A'.p,dx,_,rfl,a11,Yg (by decide +kernel),A',S,rfl,SA1,?_⟩
 refine it2 h (fun _ z=>z H1 s1) fun h6 h=>?_
 refine⟨_,rfl,A'.p,dx,_,rfl,a11,Yg (by decide +kernel),_,rfl,_,rfl,A',S,"away",n,i,rfl,SA1,hz,fun H2 SA2 f2=>?_⟩
 obtain⟨⟨dx2,v2,a21,a22⟩,br2,cl2,⟨kvs2,d21,d22⟩,_⟩:=id SA2;refine⟨_,rfl,A'.p,a.zkg,dx2,_,_,rfl,a21,T.zkh,T.zl8,Ri,_,rfl,_,rfl,sz2,fun t2 ht2=>?_⟩
 have s3:=Zf (o:=.tup [.int i,.int n]) ht2;have q3:upd H2 t2 (.tup [.int i,.int n]) t2=some (.tup (([Sum.inl i,Sum.inl n]:List Key).map kV)):=Zc;generalize upd H2 t2 (.tup [.int i,.int n])=H3 at s3 q3
 have SA3:=SA2.same s3;refine⟨A'.da,_,rfl,DPut.t (k:=[Sum.inl i,Sum.inl n]) (s3 _ _ d21) q3 (by have:=d22.2;have h9:kvs2.length<=S.out.length:=this;have:=Td;omega),?_⟩
 obtain⟨SA4,f4⟩:=SA3.setOut (out:=S.out++[(i,n)]) Zc (d22.put i n) (fun b o e hb=>by rw[Zh hb];exact e)
 generalize upd H3 A'.da (.dT (putK kvs2 [Sum.inl i,Sum.inl n] (.bl true)))=H4 at SA4 f4
 have SA4:Z0 (ca a) H4 A' (Xx S i n):=SA4;have fr4:FrS A' H H4:=(FrS.of A' s1).trans (f2.trans ((FrS.of A' s3).trans f4));obtain⟨⟨dx4,v4,a41,a42⟩,br4,_⟩:=id SA4;have empty:(S.cur=none\/atV S<i)->∀ l,H4 l=none->Q (.ref l) (upd H4 l (.lst [])):=fun hz l hl=>h.1 hz l _ Zc (SA4.same (Zf hl)) (fr4.trans (FrS.of A' (Zf hl))) (fr4.free SA4 hl)
 refine⟨_,rfl,_,rfl,A'.p,dx4,_,rfl,a41,Yg (by decide +kernel),A',_,rfl,SA4,_,_,rfl,rfl,_,rfl,?_⟩
 refine itD (fun hgt=>?_) (fun hle=>?_)
 ·refine iteT ?_
  exact⟨by show 0<=sizeLine;decide,fun l hl=>empty (.inr hgt) l hl⟩
 have hat:i=atV S:=by
  have hle:¬ (atV S<i):=hle;unfold atV at hle ⊢;omega
 refine⟨_,rfl,A'.p,a.zkg,dx4,_,_,rfl,a41,T.zkh,T.zk7,W5,rfl,_,rfl,?_⟩;cases hc4:S.cur with
 | none =>
   have e4:v4=.non:=by
    have:ShO a.zkk (·∉A'.fp) H4 v4 S.cur:=a42
    rw[hc4] at this;exact this
   rw[e4];refine iteT ?_;exact⟨by show 0<=sizeLine;decide,fun l hl=>empty (.inl hc4) l hl⟩
 | some s =>
   have e4:∃ q,v4=.ref q:=by
    have:ShO a.zkk (·∉A'.fp) H4 v4 S.cur:=a42
    rw[hc4] at this;obtain⟨q,e,_⟩:=this;exact⟨q,e⟩
   obtain⟨q4,rfl⟩:=e4;refine iteF (Zz ?_);obtain⟨hm20,FP,emay,hgz⟩:=hcur s hc4;have po4:Qy (Xx S i n):=po;have hgl:s.gv.length<=100:=by rw[FP.len,emay];unfold mayS;rw[z0t];omega
   refine⟨_,rfl,A'.p,dx4,_,rfl,a41,Yg (by decide +kernel),_,rfl,A',Xx S i n,n,s,(Xx S i n).ppl.map (·.1),rfl,SA4,hc4,po4,hm20,FP.one,hgl,hgz,po4.may br4.nd hm20,fun hp l H5 hl SA5 f5 fl=>?_,fun p hp=>?_⟩
   ·exact h.2.1 s hat hc4 hp l H5 hl SA5 (fr4.trans f5) (fr4.free SA4 fl)
   ·have hgp:=Ov hp
    refine⟨hgp,fun j hj=>FP.inj j p n hj hgp,?_,fun l us st e w' H5 hl tl CR SA5 f5 fl=>?_⟩
    ·rw[hat,Sh,<- emay]
     exact Tr FP hgp
    ·exact h.2.2 s p hat hc4 hp l us st e w' H5 hl tl CR SA5 (fr4.trans f5) (fr4.free SA4 fl)
noncomputable abbrev Vg:Stmt:=Z4 (top 56) 12
theorem Um:Zl ["self","number","lists","fallen"] ["self","number"] (Zj Vg):=fnS
theorem N3(F:Fun K "step_in" "Season.step_in" Vg f fd)(T:Tx K mg a)(zk4:Zu P w K mg base a.zkg "takers_of" 5 ["self","listed"] (Ot (ca a)))(zm9:Zu P w K mg base a.zkk "matches" 1 ["self"] (Lv (ca a)))(zlr:Zu P w K mg base a.zkk "where" 2 ["self","number"] (Mv (ca a)))(znq:Zu P w K mg base a.zkk "barred" 3 ["self","lists"] (Co (ca a)))(zmd:Zu P w K mg base a.zkk "fallen_out" 3 ["self","number","lists"] (Cp (ca a)))(znk:Zu P w K mg base a.zkk "chains" 1 ["self"] (J1 (ca a))):Z6 P w K mg base (CX1 P w) 6 f fd ["self","number"] (Cv (ca a)):=by
 refine F.okX Um (by walk_at "ar") fun _ _ _ _ H _ Q E hr h=>?_
 obtain⟨A',S,n,s,nu,rfl,SA,hc,po,hml,ho,hgl,hgz,mo,h1,h2⟩:=h;refine⟨_,(Zb (pS 2 Um.nd (Yy (pv 0) T.zkh zk4 (hr.mono (by decide)) Zk (Za (Yl (Zp (K:=K) rfl (pv 0) rfl) T.zkt zm9 (hr.mono (by decide)) Zk) Zd)))
 (Zb (Z5 (Zo Jh (Yy (Zp (K:=K) rfl (pv 0) rfl) T.zkt zlr (hr.mono (by decide)) Zk (Za (pv 1) Zd)) Y5 (Zw _))
  (Zb (Xb (K:=K) rfl (pv 0) (Yy (Zp (K:=K) rfl (pv 0) rfl) T.zkt znq (hr.mono (by decide)) Zk (Za (pv 2) Zd)) rfl)
  (Ze (Zm (Ya Zd))))
  Zr)
 (Zb (Xb (K:=K) rfl (pv 0) (Yy (Zp (K:=K) rfl (pv 0) rfl) T.zkt zmd (hr.mono (by decide)) Zk (Za (pv 1) (Za (pv 2) Zd))) rfl)
 (Zb (pS 3 Um.nd (Yl (Zp (K:=K) rfl (pv 0) rfl) T.zkt znk (hr.mono (by decide)) Zk))
 (Ze (Zm (pI (iU K) (pI (iL K) (pv 3) (Lj Qn Zi)) Zi))))))),?_⟩
 obtain⟨⟨dx,v,a1,a2⟩,br,cl,_⟩:=id SA;rw[hc] at a2
 obtain⟨q,rfl,Sq⟩:=a2;obtain⟨dxq,m1,m2,m3,m4,hq⟩:=ShAt.ins Sq;refine⟨_,rfl,A'.p,dx,_,rfl,a1,Yg (by decide +kernel),_,rfl,A'.p,a.zkg,dx,_,_,rfl,a1,T.zkh,T.zk7,W5,q,dxq,_,rfl,hq,U0 (by decide +kernel) (by decide +kernel) (by decide +kernel) (by decide +kernel),(·∉A'.fp),q,s,rfl,Sq,fun l1 ts H1 hl1 tl s1 f1=>?_⟩
 have SA1:=SA.same s1;refine⟨A',S,l1,ts,s.ms,rfl,SA1,hl1,tl,by omega,z09 po.2 (by decide),po.small,fun l2 ls H2 h3 il3 s2 f3 fl3=>?_⟩
 have s12:=s1.trans s2;have SA2:=SA1.same s2;have Sq2:=Sq.same s12;refine⟨_,rfl,A'.p,a.zkg,dx,_,_,rfl,s12 _ _ a1,T.zkh,T.zk7,W5,q,dxq,_,rfl,s12 _ _ hq,U0 (by decide +kernel) (by decide +kernel) (by decide +kernel) (by decide +kernel),_,rfl,(·∉A'.fp),q,s,n,rfl,Sq2,ho,hgl,fun H3 s3=>?_⟩
 have s13:=s12.trans s3;have SA3:=SA2.same s3;have Sq3:=Sq2.same s3;have il4:=il3.same s3;refine⟨rfl,_,rfl,?_⟩;cases hp:W3 s.gv n with
 | none =>
   refine iteT ?_;refine⟨_,rfl,A'.p,a.zkg,dx,_,_,rfl,s13 _ _ a1,T.zkh,T.zk7,W5,q,dxq,_,rfl,s13 _ _ hq,U0 (by decide +kernel) (by decide +kernel) (by decide +kernel) (by decide +kernel),_,rfl,(·∉A'.fp),q,l2,ls,mayS S s.ms,s,rfl,Sq3,s3 _ _ h3,il4,SA1.newOk l2 f3,fun x hx=>SA1.newOk x (fl3 x hx),SA3.newOk,fun q' H4 ShA s4 fq=>?_⟩
   have SA4:=SA3.same s4;obtain⟨⟨dx4,v4,a41,a42⟩,_⟩:=id SA4;refine⟨_,rfl,A'.p,a.zkg,dx4,_,rfl,a41,T.zkh,T.zk7,(by show 8<1000;decide),?_⟩
   obtain⟨SA5,f5,Sh5⟩:=SA4.newSheet a41 ShA;generalize upd H4 A'.p (.ins a.zkg dx4 (putF "sheet" (.ref q') (seaF A' S.len S.rest v4)))=H5 at SA5 f5 Sh5
   have fr5:FrS A' H H5:=(FrS.of A' (s13.trans s4)).trans f5;refine⟨by show 0<=sizeLine;decide,fun l hl=>?_⟩
   exact h1 hp l _ Zc (SA5.same (Zf hl)) (fr5.trans (FrS.of A' (Zf hl))) (fr5.free SA5 hl)
 | some p =>
   refine iteF (Zz ?_);obtain⟨hgp,hun,FP,h3'⟩:=h2 p hp;refine⟨_,rfl,A'.p,a.zkg,dx,_,_,rfl,s13 _ _ a1,T.zkh,T.zk7,W5,q,dxq,_,rfl,s13 _ _ hq,U0 (by decide +kernel) (by decide +kernel) (by decide +kernel) (by decide +kernel),_,rfl,_,rfl,(·∉A'.fp),q,l2,ls,mayS S s.ms,nu,s,n,p,rfl,Sq3,s3 _ _ h3,il4,SA1.newOk l2 f3,fun x hx=>SA1.newOk x (fl3 x hx),SA3.newOk,mo,ho,hgp,hun,FP,by omega,fun q' st e w' H4 ShA CR s4 fq=>?_⟩
   have SA4:=SA3.same s4;obtain⟨⟨dx4,v4,a41,a42⟩,_⟩:=id SA4;refine⟨_,rfl,A'.p,a.zkg,dx4,_,rfl,a41,T.zkh,T.zk7,(by show 8<1000;decide),?_⟩
   obtain⟨SA5,f5,Sh5⟩:=SA4.newSheet a41 ShA;generalize upd H4 A'.p (.ins a.zkg dx4 (putF "sheet" (.ref q') (seaF A' S.len S.rest v4)))=H5 at SA5 f5 Sh5
   have fr5:FrS A' H H5:=(FrS.of A' (s13.trans s4)).trans f5;obtain⟨⟨dx5,v5,a51,a52⟩,_⟩:=id SA5;obtain⟨q5,rfl,Sq5⟩:=a52;obtain⟨dxq5,m51,m52,m53,m54,hq5⟩:=ShAt.ins Sq5;refine⟨_,rfl,A'.p,a.zkg,dx5,_,_,rfl,a51,T.zkh,T.zk7,W5,q5,dxq5,_,rfl,hq5,U0 (by decide +kernel) (by decide +kernel) (by decide +kernel) (by decide +kernel),(·∉A'.fp),q5,_,rfl,Sq5,by show (s.gaps++[(n,st)]).length<=1000;rw[z0w];show s.gaps.length+1<=1000;omega,fun l us H6 hl gl s6 fl=>?_⟩
   obtain⟨vs',t,l',us',rfl,ht,hl',tl',ok',_⟩:=Wz.unsnoc gl;refine⟨_,rfl,_,rfl,l,_,_,_,rfl,rfl,SqL.of hl,atI_last,t,_,_,_,rfl,rfl,SqT.of ht,rfl,?_⟩;exact h3' l' us' st e w' H6 hl' tl' CR (SA5.same s6) (fr5.trans (FrS.of A' s6)) (fr5.free SA5 ok')
noncomputable abbrev Uo:Stmt:=Z4 (top 56) 13
theorem Qd:Zl ["self","sheet"] ["self"] (Zj Uo):=fnS
theorem Ky(F:Fun K "close" "Season.close" Uo f fd)(T:Tx K mg a)(zkv:Zu P w K mg base a.zkg "check_not_over" 3 ["self"] (Mx (ca a)))(zkm:Zu P w K mg base a.zkg "sheet_at_hand" 1 ["self"] (Sg (ca a)))(zll:Zu P w K mg base a.zki "write" 1 ["self","rows"] (Jy a.zki))(zod:Zu P w K mg base a.zkk "rows" 1 ["self"] (Cq (ca a)))(zkp:Zu P w K mg base a.zki "over" 1 ["self"] (Mp a.zki)):Z6 P w K mg base (CX1 P w) 4 f fd ["self"] (za1 (ca a)):=by
 refine F.okX Qd (by walk_at "ar") fun _ _ _ _ H _ Q E hr h=>?_
 obtain⟨A',S,rfl,SA,ht,hl,hol,hcur,h⟩:=h;refine⟨_,(Zb (Z7 (Yl (pv 0) T.zkh zkv (hr.mono (by decide)) Zk))
 (Zb (pS 1 Qd.nd (Yl (pv 0) T.zkh zkm (hr.mono (by decide)) Zk))
 (Zb (Z7 (Yy (Zp (K:=K) rfl (pv 0) rfl) T.zk0 zll (hr.mono (by decide)) Zk (Za (Yl (pv 1) T.zkt zod (hr.mono (by decide)) Zk) Zd)))
 (Zb (Yu (Zp (K:=K) rfl (pv 0) rfl) (pv 1))
 (Zb (Xb (K:=K) rfl (pv 0) Y5 rfl)
 (Zb (Xb (K:=K) rfl (pv 0) (Ya Zd) rfl)
 (Ze (Zm (Yl (Zp (K:=K) rfl (pv 0) rfl) T.zk0 zkp (hr.mono (by decide)) Zk))))))))),?_⟩
 obtain⟨⟨dx,v,a1,a2⟩,br,cl,_⟩:=id SA;obtain⟨⟨dxl,hpl⟩,_⟩:=id cl;refine⟨_,rfl,A'.p,dx,_,rfl,a1,Yg (by decide +kernel),A',S,rfl,SA,?_⟩
 refine it2 h (fun _ z=>z) fun h1 h=>?_
 refine⟨_,rfl,A'.p,dx,_,rfl,a1,Yg (by decide +kernel),A',S,rfl,SA,h.1,fun s q hc Sq=>?_⟩
 obtain⟨ho,hgl,hml⟩:=hcur s hc;obtain⟨dxq,m1,m2,m3,m4,hq⟩:=ShAt.ins Sq;refine⟨_,rfl,A'.p,a.zkg,dx,_,_,rfl,a1,T.zkh,T.zlm,Vz,A'.pl,dxl,_,rfl,hpl,Ni (by decide +kernel) (by decide +kernel),_,rfl,q,dxq,_,rfl,hq,U0 (by decide +kernel) (by decide +kernel) (by decide +kernel) (by decide +kernel),(·∉A'.fp),q,s,rfl,Sq,ho,hgl,hml,fun l1 ts H1 hl1 tl s1 f1=>?_⟩
 have SA1:=SA.same s1;have ok1:l1∉A'.fp:=SA.newOk l1 f1;refine⟨A'.pl,A'.lr,A'.ld,S.led,l1,ts,Z3 s,rfl,SA1.led,hl1,fun z=>ok1 (by rw[z];simp[SAd.fp]),tl,by rw[Nq hgl];omega,hl,fun H2 L2' k2=>?_⟩
 obtain⟨SA2,f2⟩:=SA1.setLed L2' k2;obtain⟨⟨dx2,v2,a21,a22⟩,br2,cl2,d2,⟨vs,f21,f22⟩,_⟩:=id SA2;have Sq2:=(Sq.same s1).keep (fun x o hx e=>f2 x o e hx) (SA1.tups f2)
 refine⟨_,rfl,A'.p,a.zkg,dx2,_,_,rfl,a21,T.zkh,T.znt,Ft,A'.ls,vs,rfl,f21,_,rfl,vs,f21,by have:=f22.length;have h9:vs.length=S.old.length:=this;have:=Td;omega,?_⟩
 have k3:∀ b o,H2 b=some o->b≠A'.ls->upd H2 A'.ls (.lst (vs++[.ref q])) b=some o:=fun b o e hb=>by rw[Zh hb];exact e
 have kt3:∀ t xs,H2 t=some (.tup xs)->upd H2 A'.ls (.lst (vs++[.ref q])) t=some (.tup xs):=fun t xs e=>k3 t _ e (Yt e f21 (fun z=>nomatch z))
 have ko3:∀ x o,x∉A'.fp->H2 x=some o->upd H2 A'.ls (.lst (vs++[.ref q])) x=some o:=fun x o hx e=>k3 x o e fun z=>hx (by rw[z];simp[SAd.fp])
 obtain⟨SA3,f3⟩:=SA2.setOld (old:=S.old++[s]) Zc ((f22.keep ko3 kt3).snoc (Sq2.keep ko3 kt3)) k3;generalize upd H2 A'.ls (.lst (vs++[.ref q]))=H3 at SA3 f3
 obtain⟨⟨dx3,v3,a31,a32⟩,_⟩:=id SA3;refine⟨_,rfl,A'.p,a.zkg,dx3,_,rfl,a31,T.zkh,T.zk7,(by show 8<1000;decide),?_⟩
 obtain⟨SA4,f4⟩:=SA3.setCur (H':=upd H3 A'.p (.ins a.zkg dx3 (putF "sheet" .non (seaF A' S.len S.rest v3)))) (cur:=none) (v:=.non) ⟨dx3,by rw[Zc];exact congrArg (fun x=>some (HO.ins a.zkg dx3 x)) Ou⟩ rfl (fun b o e hb=>by rw[Zh hb];exact e)
 generalize upd H3 A'.p (.ins a.zkg dx3 (putF "sheet" .non (seaF A' S.len S.rest v3)))=H4 at SA4 f4
 obtain⟨⟨dx4,v4,a41,a42⟩,_⟩:=id SA4;refine⟨by show 0<=sizeLine;decide,fun x hx=>?_⟩
 have npx:A'.p≠x:=Zg a41 hx;refine⟨_,rfl,A'.p,a.zkg,dx4,_,rfl,(by rw[Zh npx];exact a41),T.zkh,T.zlh,(by show 8<1000;decide),?_⟩
 obtain⟨SA5,f5⟩:=SA4.freshStd hx a41 a42 rfl;have fr4:FrS A' H H4:=(FrS.of A' s1).trans (f2.trans (f3.trans f4));have fx:H x=none:=fr4.free SA4 hx;generalize upd (upd H4 x (.lst [])) A'.p (.ins a.zkg dx4 (putF "standing" (.ref x) (seaF A' S.len S.rest v4)))=H5 at SA5 f5
 have SA5:Z0 (ca a) H5 { A' with lt:=x } (E1 S s):=SA5
 obtain⟨⟨dx5,v5,a51,a52⟩,br5,cl5,_⟩:=id SA5;obtain⟨⟨dxl5,hpl5⟩,_⟩:=id cl5;refine⟨_,rfl,A'.p,a.zkg,dx5,_,_,rfl,a51,T.zkh,T.zlm,Vz,A'.pl,dxl5,_,rfl,hpl5,Ni (by decide +kernel) (by decide +kernel),A'.pl,A'.lr,A'.ld,S.led++[Z3 s],rfl,cl5,?_⟩
 have hfin:=h.2 s x H5 hc SA5 (fr4.trans f5) fx;have e:(((S.led++[Z3 s]).length:Nat):Int)=atV S:=by rw[z0w];rfl
 rw[e];exact hfin
noncomputable abbrev Wl:Stmt:=Z4 (top 56) 14
theorem Vl:Zl ["self","last","deed"] ["self"] (Zj Wl):=fnS
theorem P4(F:Fun K "take_back" "Season.take_back" Wl f fd)(T:Tx K mg a)(zm8:Zu P w K mg base a.zkl "strike" 1 ["self","number"] (Ck (ca a))):Z6 P w K mg base (CX1 P w) 2 f fd ["self"] (J5 (ca a)):=by
 refine F.okX Vl (by walk_at "ar") fun _ _ _ _ H _ Q E hr h=>?_
 obtain⟨A',S,rfl,SA,h1,h2⟩:=h;have hu:=Wm hr;refine⟨_,(Zb (Z5 (Wa (Ff (K:=K) rfl (Zp (K:=K) rfl (pv 0) rfl) (fun _=>rfl)))
  (Ze (Xf Xe rfl T.zow rfl (Za Zs Zd)))
  Zr)
 (Zb (pS 1 Vl.nd (zdm PySem.F.plainAttrs_list PySem.F.slot_list_pop PySem.F.type_list_pop zhm (Zp (K:=K) rfl (pv 0) rfl)))
 (Zb (pS 2 Vl.nd (pI (iU K) (pv 1) Zi))
 (Zb (Xb (K:=K) rfl (pv 0) (pI (iU K) (pv 1) Zi) rfl)
 (Zb (Z5 (Zo W0 (pI (iU K) (pv 2) Zi) Zs (Zw _))
  (Ze (Z7 (Yy (Zp (K:=K) rfl (pv 0) rfl) T.zkz zm8 (hr.mono (by decide)) Zk (Za (pI (iU K) (pv 2) Zi) Zd))))
  Zr)
 (Zb (Z5 (Zo W0 (pI (iU K) (pv 2) Zi) Zs (Zw _))
  (Ze (Z7 (zei hu (Zp (K:=K) rfl (pv 0) rfl) (Ye (Za (pI (iU K) (pv 2) Zi) (Za (pI (iU K) (pv 2) Zi) Zd))) ⟨rfl,rfl,rfl,rfl⟩)))
  Zr)
 (Ze (Zm (pv 2))))))))),?_⟩
 show let y1:TS:=_;let y2:TS:=Z2 _ y1;let y3:TS:=Z2 _ y2;let y4:TS:=Z2 _ y3;let y5:TS:=Z2 _ y4;let y6:TS:=Z2 _ y5;Z2 _ y6 _ _ _;intro y1 y2 y3 y4 y5 y6;obtain⟨⟨dx,v,a1,a2⟩,br,cl,d0,f0,⟨us,g1,g2⟩,_⟩:=id SA;refine⟨_,rfl,A'.p,a.zkg,dx,_,_,rfl,a1,T.zkh,T.zlh,Ss,_,.inl ⟨_,SqL.of g1,rfl⟩,?_⟩;have hul:=g2.length;rcases List.eq_nil_or_concat S.std with hn|⟨std',⟨d,s⟩,he⟩
 ·rw[hn] at hul
  have hu0:us=[]:=z2n.mp hul;rw[hu0];exact iteT ⟨sz1,h1 hn⟩
 have he:S.std=std'++[(d,s)]:=by rw[he,List.concat_eq_append]
 rw[he] at g2
 obtain⟨vs',t,u,v',rfl,ht,hu',hs,g3⟩:=Th.unsnoc g2;have hne:(vs'++[V.ref t]).isEmpty=false:=by cases vs'<;>rfl
 rw[hne];refine iteF (Zz ?_);obtain⟨ppl,out,hbk,hfin⟩:=h2 std' d s he;refine⟨_,rfl,A'.p,a.zkg,dx,_,_,rfl,a1,T.zkh,T.zlh,Ss,.inl ⟨rfl,_,SqL.of g1⟩,A'.lt,_,V.ref t,rfl,rfl,g1,by simp,?_⟩
 rw[List.dropLast_concat];have k1:∀ b o,H b=some o->b≠A'.lt->upd H A'.lt (.lst vs') b=some o:=fun b o e hb=>by rw[Zh hb];exact e
 have kt1:∀ t xs,H t=some (.tup xs)->upd H A'.lt (.lst vs') t=some (.tup xs):=fun t xs e=>k1 t _ e (Yt e g1 (fun z=>nomatch z))
 have ko1:∀ x o,x∉A'.fp->H x=some o->upd H A'.lt (.lst vs') x=some o:=fun x o hx e=>k1 x o e fun z=>hx (by rw[z];simp[SAd.fp])
 obtain⟨SA1,f1⟩:=SA.setStd (std:=std') Zc (g3.keep ko1 kt1) k1;have ht1:=kt1 _ _ ht;have hu1:=kt1 _ _ hu';have hs1:=hs.keep ko1 kt1;generalize upd H A'.lt (.lst vs')=H1 at SA1 f1 ht1 hu1 hs1
 refine⟨_,rfl,t,_,_,_,rfl,rfl,SqT.of ht1,rfl,?_⟩;obtain⟨⟨dx1,v1,a11,a12⟩,_⟩:=id SA1;refine⟨_,rfl,t,_,_,_,rfl,rfl,SqT.of ht1,rfl,_,rfl,A'.p,a.zkg,dx1,_,rfl,a11,T.zkh,T.zk7,(by show 8<1000;decide),?_⟩
 have k2:∀ b o,H1 b=some o->b≠A'.p->upd H1 A'.p (.ins a.zkg dx1 (putF "sheet" v' (seaF A' S.len S.rest v1))) b=some o:=fun b o e hb=>by rw[Zh hb];exact e
 have kt2:∀ t xs,H1 t=some (.tup xs)->upd H1 A'.p (.ins a.zkg dx1 (putF "sheet" v' (seaF A' S.len S.rest v1))) t=some (.tup xs):=fun t xs e=>k2 t _ e (Yt e a11 (fun z=>nomatch z))
 obtain⟨SA2,f2⟩:=SA1.setCur (cur:=s) (v:=v') ⟨dx1,by rw[Zc];exact congrArg (fun x=>some (HO.ins a.zkg dx1 x)) Ou⟩ (hs1.keep (fun x o hx e=>k2 x o e fun z=>hx (by rw[z];simp[SAd.fp])) kt2) k2
 have hu2:=kt2 _ _ hu1;generalize upd H1 A'.p (.ins a.zkg dx1 (putF "sheet" v' (seaF A' S.len S.rest v1)))=H2 at SA2 f2 hu2
 have fr2:=f1.trans f2;have d0:atI (P9 d) 0=some (.str d.1):=rfl;have d1:atI (P9 d) 1=some (.int d.2.1):=rfl;have d2:atI (P9 d) 2=some (.int d.2.2):=rfl;have es:∀ w:Str,decide (V.str d.1=V.str w)=decide (d.1=w):=fun w=>by
  by_cases z:d.1=w
  ·rw[z01 z,z01 (congrArg V.str z)]
  ·rw[z07 z,z07 (fun q=>z (V.str.inj q))]
 walk_at "if";refine Se ?_;refine⟨_,rfl,u,_,_,_,rfl,rfl,SqT.of hu2,d0,rfl,_,rfl,?_⟩;rw[es];obtain⟨⟨dx2,v2,a21,a22⟩,br2,cl2,⟨kvs2,e21,e22⟩,_⟩:=id SA2;have n1:¬ (("enrol":Str)="away"):=by decide +kernel
 have n2:¬ (("draw up":Str)="away"):=by decide +kernel
 have n3:¬ (("draw up":Str)="enrol"):=by decide +kernel
 have n4:¬ (("away":Str)="enrol"):=by decide +kernel
 rcases hbk with ⟨hd,⟨g,c0,hp⟩,ho⟩|⟨hd,hp,ho,hno⟩|⟨hd,hp,ho⟩
 ·rw[z01 hd]
  refine iteT ?_;obtain⟨⟨dxr,kvr,hpr,hdr,en⟩,ndr⟩:=id br2;refine⟨_,rfl,A'.p,a.zkg,dx2,_,_,rfl,a21,T.zkh,T.zlf,Vb,A'.pr,dxr,_,rfl,hpr,Xm.no (by decide +kernel),_,rfl,u,_,_,_,rfl,rfl,SqT.of hu2,d1,A'.pr,A'.dr,ppl,d.2.1,g,c0,rfl,(show Xm a.zkl H2 A'.pr A'.dr (ppl++[(d.2.1,g,c0)]) by have:Xm a.zkl H2 A'.pr A'.dr S.ppl:=br2;rw[hp] at this;exact this),fun H3 R3 k3=>?_⟩
  obtain⟨SA3,f3⟩:=SA2.setRos R3 k3;have hu3:=SA2.tups f3 _ _ hu2;refine⟨_,rfl,u,_,_,_,rfl,rfl,SqT.of hu3,d0,rfl,_,rfl,?_⟩;rw[es,z07 (by rw[hd];exact n1)]
  refine iteF (Zz ⟨_,rfl,?_⟩);refine hfin u H3 hu3 ?_ (fr2.trans f3);rw[ho];exact SA3
 ·rw[z07 (by rw[hd];exact n4)]
  refine iteF (Zz ?_);refine⟨_,rfl,u,_,_,_,rfl,rfl,SqT.of hu2,d0,rfl,_,rfl,?_⟩;rw[es,z01 hd];refine iteT ?_;refine⟨_,rfl,A'.p,a.zkg,dx2,_,_,rfl,a21,T.zkh,T.zl8,Ri,A'.da,rfl,.inr ⟨kvs2,.inl e21⟩,_,rfl,u,_,_,_,rfl,rfl,SqT.of hu2,d2,_,rfl,u,_,_,_,rfl,rfl,SqT.of hu2,d1,sz2,fun tk htk=>?_⟩
  have s3:=Zf (o:=.tup [.int d.2.2,.int d.2.1]) htk;have q3:upd H2 tk (.tup [.int d.2.2,.int d.2.1]) tk=some (.tup (([Sum.inl d.2.2,Sum.inl d.2.1]:List Key).map kV)):=Zc;generalize upd H2 tk (.tup [.int d.2.2,.int d.2.1])=H3 at s3 q3
  have SA3:=SA2.same s3;have e22:Qw kvs2 S.out:=e22;rw[ho] at e22
  have hv:∃ vv,valV kvs2 [Sum.inl d.2.2,Sum.inl d.2.1]=some vv:=z14.mp (by rw[e22.1,z01 (by simp)])
  obtain⟨vv,hv⟩:=hv;refine⟨kvs2,[Sum.inl d.2.2,Sum.inl d.2.1],tk,vv,s3 _ _ e21,rfl,q3,hv,?_⟩;obtain⟨SA4,f4⟩:=SA3.setOut (out:=out) Zc (e22.drop hno) (fun b o e hb=>by rw[Zh hb];exact e)
  have hu4:=SA3.tups f4 _ _ (s3 _ _ hu2);refine⟨_,rfl,hfin u _ hu4 ?_ (fr2.trans ((FrS.of A' s3).trans f4))⟩;rw[hp];exact SA4
 ·rw[z07 (by rw[hd];exact n3)]
  refine iteF (Zz ?_);refine⟨_,rfl,u,_,_,_,rfl,rfl,SqT.of hu2,d0,rfl,_,rfl,?_⟩;rw[es,z07 (by rw[hd];exact n2)]
  refine iteF (Zz ⟨_,rfl,hfin u H2 hu2 ?_ fr2⟩);rw[hp,ho];exact SA2
noncomputable abbrev Vh:Stmt:=Z4 (top 56) 15
theorem N4:Zl ["self"] ["self"] (Zj Vh):=fnS
theorem N5(F:Fun K "at_hand" "Season.at_hand" Vh f fd)(T:Tx K mg a)(zkp:Zu P w K mg base a.zki "over" 1 ["self"] (Mp a.zki)):Z6 P w K mg base (CX1 P w) 2 f fd ["self"] (V7 (ca a)):=by
 refine F.okX N4 (by walk_at "ar") fun _ _ _ _ H _ Q E hr h=>?_
 obtain⟨A',S,rfl,SA,h⟩:=h;refine⟨_,(Ze (Zm (Zv Xc (Yl (Zp (K:=K) rfl (pv 0) rfl) T.zk0 zkp (hr.mono (by decide)) Zk) Zi))),?_⟩
 obtain⟨⟨dx,v,a1,a2⟩,b,c,_⟩:=id SA;obtain⟨⟨dxl,hpl⟩,_⟩:=id c;refine⟨_,rfl,A'.p,a.zkg,dx,_,_,rfl,a1,T.zkh,T.zlm,Vz,A'.pl,dxl,_,rfl,hpl,Ni (by decide +kernel) (by decide +kernel),A'.pl,A'.lr,A'.ld,S.led,rfl,c,_,_,rfl,rfl,?_⟩
 exact h
noncomputable abbrev Vi:Stmt:=Z4 (top 56) 19
theorem N6:Zl ["self","at","number"] ["self","at","number"] (Zj Vi):=fnS
theorem N7(F:Fun K "is_away" "Season.is_away" Vi f fd)(T:Tx K mg a)(zko:Zu P w K mg base a.zkg "check_round" 1 ["self","at"] (Jc (ca a)))(zkn:Zu P w K mg base a.zkl "check_known" 1 ["self","number"] (Ts (ca a))):Z6 P w K mg base (CX1 P w) 2 f fd ["self","at","number"] (Cw (ca a)):=by
 refine F.okX N6 (by walk_at "ar") fun _ _ _ _ H _ Q E hr h=>?_
 obtain⟨A',S,i,n,rfl,SA,si,sn,h⟩:=h;have hu:=Wm hr;refine⟨_,(Zb (Z7 (Yy (pv 0) T.zkh zko (hr.mono (by decide)) Zk (Za (pv 1) Zd)))
 (Zb (Z7 (Yy (Zp (K:=K) rfl (pv 0) rfl) T.zkz zkn (hr.mono (by decide)) Zk (Za (pv 2) Zd)))
 (Ze (Zm (zgv (Qq hu (Ye (Za (pv 1) (Za (pv 2) Zd))) (Zp (K:=K) rfl (pv 0) rfl))))))),?_⟩
 obtain⟨⟨dx,v,a1,a2⟩,br,cl,⟨kvs,d1,d2⟩,_⟩:=id SA;obtain⟨⟨dxr,kvr,hpr,hdr,en⟩,ndr⟩:=id br;refine⟨_,rfl,A'.p,dx,_,rfl,a1,Yg (by decide +kernel),_,rfl,A',S,i,rfl,SA,si,?_⟩
 refine it2 h (fun _ z=>z) fun h1 h=>?_
 refine⟨_,rfl,A'.p,a.zkg,dx,_,_,rfl,a1,T.zkh,T.zlf,Vb,A'.pr,dxr,_,rfl,hpr,Xm.no (by decide +kernel),_,rfl,A'.pr,A'.dr,S.ppl,n,rfl,br,sn,?_⟩
 refine it2 h (fun hk h=>?_) (fun _ z=>z)
 refine⟨_,rfl,_,rfl,sz2,fun t ht=>?_⟩
 have s1:=Zf (o:=.tup [.int i,.int n]) ht;have q1:upd H t (.tup [.int i,.int n]) t=some (.tup (([Sum.inl i,Sum.inl n]:List Key).map kV)):=Zc;generalize upd H t (.tup [.int i,.int n])=H1 at s1 q1
 refine⟨_,rfl,A'.p,a.zkg,dx,_,_,rfl,s1 _ _ a1,T.zkh,T.zl8,Ri,A'.da,_,rfl,DGet.t (k:=[Sum.inl i,Sum.inl n]) (s1 _ _ d1) q1,?_⟩;rw[d2.isSome];exact h H1 s1
noncomputable abbrev Ta:Stmt:=Z4 (top 56) 21
theorem Hg:Zl ["self","at"] ["self","at"] (Zj Ta):=fnS
theorem Hh(F:Fun K "goes" "Season.goes" Ta f fd)(T:Tx K mg a)(zmg:Zu P w K mg base a.zkg "sheet_of" 3 ["self","at"] (Fu (ca a)))(zl2:Zu P w K mg base a.zkk "goes" 1 ["self"] (Jz (ca a))):Z6 P w K mg base (CX1 P w) 4 f fd ["self","at"] (zeq (ca a)):=by
 refine F.okX Hg (by walk_at "ar") fun _ _ _ _ H _ Q E hr h=>?_
 obtain⟨A',S,i,rfl,SA,hr0⟩:=h;refine⟨_,(Ze (Zm (Yl (Yy (pv 0) T.zkh zmg (hr.mono (by decide)) Zk (Za (pv 1) Zd)) T.zkt zl2 (hr.mono (by decide)) Zk))),?_⟩
 obtain⟨si,hol,h⟩:=hr0;obtain⟨⟨dx,v,a1,a2⟩,_⟩:=id SA;refine⟨_,rfl,A'.p,dx,_,rfl,a1,Yg (by decide +kernel),_,rfl,A',S,i,rfl,SA,si,hol,it2 h (fun _ z=>z) fun hn h=>⟨h.1,fun s q hs Sq=>?_⟩⟩
 obtain⟨dxq,m1,m2,m3,m4,hq⟩:=ShAt.ins Sq;exact⟨q,dxq,_,rfl,hq,U0 (by decide +kernel) (by decide +kernel) (by decide +kernel) (by decide +kernel),(·∉A'.fp),q,s,rfl,Sq,fun l H' a b c=>h.2 s hs l H' a b c⟩
noncomputable abbrev T4:Stmt:=Z4 (top 56) 26
theorem Gp:Zl ["self","place"] ["self","place"] (Zj T4):=fnS
theorem Gq(F:Fun K "may" "Season.may" T4 f fd)(T:Tx K mg a)(zkm:Zu P w K mg base a.zkg "sheet_at_hand" 1 ["self"] (Sg (ca a)))(zop:Zu P w K mg base a.zkk "may" 2 ["self","place"] (zaw (ca a))):Z6 P w K mg base (CX1 P w) 3 f fd ["self","place"] (zgp (ca a)):=by
 refine F.okX Gp (by walk_at "ar") fun _ _ _ _ H _ Q E hr h=>?_
 obtain⟨A',S,i,rfl,SA,si,h1,h2⟩:=h;refine⟨_,(Ze (Zm (Yy (Yl (pv 0) T.zkh zkm (hr.mono (by decide)) Zk) T.zkt zop (hr.mono (by decide)) Zk (Za (pv 1) Zd)))),?_⟩
 obtain⟨⟨dx,v,a1,a2⟩,_⟩:=id SA;refine⟨_,rfl,A'.p,dx,_,rfl,a1,Yg (by decide +kernel),A',S,rfl,SA,h1,fun s q hs Sq=>?_⟩
 obtain⟨dxq,m1,m2,m3,m4,hq⟩:=ShAt.ins Sq;obtain⟨k1,k2,k3⟩:=h2 s hs;exact⟨q,dxq,_,rfl,hq,U0 (by decide +kernel) (by decide +kernel) (by decide +kernel) (by decide +kernel),_,rfl,(·∉A'.fp),q,s,i,rfl,Sq,si,k1,k2,fun k r e1 e2 l H' a b c=>k3 k r e1 e2 l H' a b c⟩
noncomputable abbrev Vj:Stmt:=Z4 (top 56) 27
theorem X0:Zl ["self","number","place","sheet","person","match","out"] ["self","number","place"] (Zj Vj):=fnS
theorem N8(F:Fun K "reasons" "Season.reasons" Vj f fd)(T:Tx K mg a)(zkm:Zu P w K mg base a.zkg "sheet_at_hand" 1 ["self"] (Sg (ca a)))(zle:Zu P w K mg base a.zkl "person" 3 ["self","number"] (Jx (ca a)))(zmn:Zu P w K mg base a.zkk "match_at" 2 ["self","place"] (Lw (ca a)))(zms:Zu P w K mg base a.zkg "is_away" 2 ["self","at","number"] (Cw (ca a)))(zkj:Zu P w K mg base a.zkg "at_hand" 2 ["self"] (V7 (ca a)))(zln:Z9 P w K mg base "reasons_bars" 3 ["referee","match","out","ledger","rest"] (Mr K a.zki)):Z6 P w K mg base (CX1 P w) 4 f fd ["self","number","place"] (Lz (ca a)):=by
 refine F.okX X0 (by walk_at "ar") fun _ _ _ _ H _ Q E hr h=>?_
 obtain⟨A',S,n,i,rfl,SA,sn,si,hlt,hl,hno,h⟩:=h;refine⟨_,(Zb (pS 3 X0.nd (Yl (pv 0) T.zkh zkm (hr.mono (by decide)) Zk))
 (Zb (pS 4 X0.nd (Yy (Zp (K:=K) rfl (pv 0) rfl) T.zkz zle (hr.mono (by decide)) Zk (Za (pv 1) Zd)))
 (Zb (pS 5 X0.nd (Yy (pv 3) T.zkt zmn (hr.mono (by decide)) Zk (Za (pv 2) Zd)))
 (Zb (pS 6 X0.nd (Yy (pv 0) T.zkh zms (hr.mono (by decide)) Zk (Za (Yl (pv 0) T.zkh zkj (hr.mono (by decide)) Zk) (Za (pv 1) Zd))))
 (Ze (Zm (pF zln hr (Za (pv 4) (Za (pv 5) (Za (pv 6) (Za (Zp (K:=K) rfl (pv 0) rfl) (Za (Zp (K:=K) rfl (pv 0) rfl) Zd)))))))))))),?_⟩
 obtain⟨⟨dx,v,a1,a2⟩,br,bl,_⟩:=id SA;obtain⟨⟨dxr,kvr,hpr,hdr,en⟩,ndr⟩:=id br;refine⟨_,rfl,A'.p,dx,_,rfl,a1,Yg (by decide +kernel),A',S,rfl,SA,hno,fun s q hs Sq=>?_⟩
 obtain⟨h1,h2⟩:=h s hs;obtain⟨dxq,m1,m2,m3,m4,hq⟩:=ShAt.ins Sq;walk_at "if";refine⟨_,rfl,A'.p,a.zkg,dx,_,_,rfl,a1,T.zkh,T.zlf,Vb,A'.pr,dxr,_,rfl,hpr,Xm.no (by decide +kernel),_,rfl,A'.pr,A'.dr,S.ppl,n,rfl,br,sn,h1,fun g c t H2 hm ht s2 _=>?_⟩
 have hin:n∈S.ppl.map (·.1):=z02.mpr ⟨_,hm,rfl⟩
 obtain⟨h3,h4⟩:=h2 hin;have SA2:=SA.same s2;have Sq2:=Sq.same s2;walk_at "if";refine⟨_,rfl,q,dxq,_,rfl,s2 _ _ hq,U0 (by decide +kernel) (by decide +kernel) (by decide +kernel) (by decide +kernel),_,rfl,(·∉A'.fp),q,s,i,rfl,Sq2,si,fun z=>h3 z H2 s2,fun k m tm hik hmk htm=>?_⟩
 walk_at "if";refine⟨_,rfl,A'.p,dx,_,rfl,s2 _ _ a1,Yg (by decide +kernel),_,rfl,A'.p,dx,_,rfl,s2 _ _ a1,Yg (by decide +kernel),A',S,rfl,SA2,_,rfl,A',S,atV S,n,rfl,SA2,(Yj (z09 (show (atV S).natAbs<=2000 by unfold atV;omega) (by decide))),sn,?_⟩
 rw[if_neg (by unfold atV;omega),if_pos hin]
 intro H3 s3;have s03:=s2.trans s3;walk_at "if";refine⟨_,rfl,_,rfl,_,rfl,_,rfl,A'.p,a.zkg,dx,_,_,rfl,s03 _ _ a1,T.zkh,T.zlm,Vz,_,rfl,A'.p,a.zkg,dx,_,_,rfl,s03 _ _ a1,T.zkh,T.zoz,zax,t,tm,A'.pl,A'.lr,A'.ld,S.led,n,g,c,m.1,m.2.1,m.2.2,S.rest,_,rfl,s3 _ _ ht,s3 _ _ htm,bl.same s03,fun l H4 hl4 s4 f4=>?_⟩
 exact h4 k m g c hik hmk hm l H4 hl4 (s03.trans s4) (s03.free f4)
noncomputable abbrev Up:Stmt:=Z4 (top 56) 28
theorem Kz:Zl ["self"] ["self"] (Zj Up):=fnS
theorem K0(F:Fun K "facts" "Season.facts" Up f fd)(T:Tx K mg a)(zkj:Zu P w K mg base a.zkg "at_hand" 2 ["self"] (V7 (ca a)))(znv:Zu P w K mg base a.zki "facts" 1 ["self","at"] (zao a.zki a.zlb)):Z6 P w K mg base (CX1 P w) 3 f fd ["self"] (Fz (ca a)):=by
 refine F.okX Kz (by walk_at "ar") fun _ _ _ _ H _ Q E hr h=>?_
 obtain⟨A',S,rfl,SA,hl,h⟩:=h;refine⟨_,(Ze (Zm (Ua rfl (cT ["self"] [0]) (G3 rfl T.zk8 (Za Zi (Za (Yl (pv 0) T.zkh zkj (hr.mono (by decide)) Zk) Zd))) (fun _ _ _ _ _=>V3) (fun _ _ _ _ _=>(Yy (Zp (K:=K) rfl (pv 1) rfl) T.zk0 znv (hr.mono (by decide)) D7 (Za (pv 0) Zd)))))),?_⟩
 obtain⟨⟨dx,v,a1,a2⟩,b,c,_⟩:=id SA;obtain⟨⟨dxl,lp⟩,_⟩:=id c;have eat:(atV S-1).toNat=S.led.length:=by unfold atV;omega
 refine⟨_,rfl,A'.p,dx,_,rfl,a1,Yg (by decide +kernel),A',S,rfl,SA,1,atV S,rfl,⟨by omega,by omega,by unfold atV;omega,by unfold atV;omega⟩,?_⟩
 rw[eat];refine Og (fun i ys H'=>Same H H'/\∃ ls,ys=ls.map V.ref/\RwL H' ls (S.led.take i)/\ls.length=i/\∀ x∈ls,H x=none) ⟨Same.refl _,[],rfl,.nil,rfl,by simp⟩ (szN (by omega)) (fun i ys H' ⟨_,ls,e1,_,e2,_⟩=>by rw[e1,z0t];omega) (fun i ys H' hi p=>?_) (fun ys H' p l' hl'=>?_)
 ·obtain⟨s1,ls,rfl,rl,hll,hfr⟩:=p
  have hri:S.led[i]?=some (S.led[i]'hi):=z0u hi;unfold tYes;dsimp only;rw[if_pos rfl];refine⟨_,rfl,A'.p,a.zkg,dx,_,_,rfl,s1 _ _ a1,T.zkh,T.zlm,Vz,A'.pl,dxl,_,rfl,s1 _ _ lp,Ni (by decide +kernel) (by decide +kernel),_,rfl,A'.pl,A'.lr,A'.ld,S.led,1+(i:Int),rfl,c.same s1,Ym (by omega) (by omega),fun z=>by omega,fun k rs hk hrs l2 ts hl2 tl2=>?_⟩
  have ek:k=i:=by omega
  subst ek;have s2:=Zf (o:=.lst ts) hl2;refine⟨s1.trans s2,ls++[l2],by rw[z0y];rfl,?_,by rw[z0w,hll];rfl,fun y hy=>?_⟩
  ·rw[Y8 hrs]
   exact(rl.same s2).snoc Zc (tl2.same s2)
  ·rcases z06.mp hy with z|z
   ·exact hfr y z
   ·rw[z0z.mp z];exact s1.free hl2
 ·obtain⟨s1,ls,rfl,rl,hll,hfr⟩:=p
  rw[z1b] at rl
  exact h l' ls _ Zc (rl.same (Zf hl')) (s1.trans (Zf hl')) (s1.free hl') hfr
noncomputable abbrev Sw:Stmt:=top 58
theorem Df:Zl ["_law_found"] ["_law_found"] (Zj Sw):=fnS
theorem Dg(F:Fun K "_law_whole" "_law_whole" Sw f fd)(T:Tx K mg a):Z6 P w K mg base (CX1 P w) 1 f fd ["_law_found"] Em:=by
 refine F.okX Df (by walk_at "ar") fun _ _ _ _ H _ Q E hr h=>?_
 obtain⟨i,rfl,h⟩:=h;refine⟨_,(Ze (Zm (zcx (Zn (Va (K:=K) rfl) (by rfl) T.zkx PyProof.Rows.boot_isinstance (Za (pv 0) (Za (Tn rfl T.zqf PyProof.Rows.boot_int (show RelV (.ty "int") _ from rfl)) Zd))) (zcw (zgz (Zn (Va (K:=K) rfl) (by rfl) T.zkx PyProof.Rows.boot_isinstance (Za (pv 0) (Za (Tn rfl T.zp1 PyProof.Rows.boot_bool (show RelV (.ty "bool") _ from rfl)) Zd)))))))),?_⟩
 refine⟨_,rfl,_,_,_,_,rfl,.of (.int i),.inl ⟨_,rfl⟩,zhs K,_,rfl,?_⟩;refine iteT ?_;exact⟨_,rfl,_,_,_,_,rfl,.of (.int i),.inl ⟨_,rfl⟩,zht K,_,rfl,h⟩
noncomputable abbrev N9:Stmt:=top 59
theorem zcr:Zl ["_law_script","_law_k"] ["_law_script","_law_k"] (Zj N9):=fnS
theorem zcs(F:Fun K "_law_at" "_law_at" N9 f fd)(T:Tx K mg a):Z6 P w K mg base (CX1 P w) 1 f fd ["_law_script","_law_k"] (Ac K):=by
 refine F.okX zcr (by walk_at "ar") fun _ _ _ _ H _ Q E hr h=>?_
 obtain⟨b,ns,k,rfl,hs,h⟩:=h;refine⟨_,(Zb (Z5 (Zo G4 (pv 1) (Zn (cL K) (by rfl) T.zkq PySem.boot_len (Za (pv 0) Zd)) (Zw _))
  (Ze (Zm (pI (iL K) (pv 0) (pv 1))))
  Zr)
 (Ze (Zm Zi))),?_⟩
 refine⟨_,rfl,_,rfl,b,_,rfl,.inl hs,_,_,rfl,rfl,_,rfl,?_⟩;rw[z0t];refine itD (fun hk=>?_) (fun hk=>?_)
 ·have hk':k<ns.length:=by omega
  refine⟨_,rfl,_,rfl,b,_,_,_,rfl,rfl,hs,Z8 (show (ns.map V.int)[k]?=some (.int (Xg ns k)) from ?_),h⟩
  unfold Xg;rw[z0x,z0u hk'];rfl
 ·have e:Xg ns k=0:=by unfold Xg;rw[List.getElem?_eq_none (by omega)];rfl
  rw[e] at h
  exact h
noncomputable abbrev Pq:Stmt:=top 60
theorem R0:Zl ["_law_cell_here","_law_k","_law_one","_law_two","_law_three"] ["_law_cell_here","_law_k"] (Zj Pq):=fnS
theorem A4(F:Fun K "_law_mix" "_law_mix" Pq f fd)(T:Tx K mg a):Z6 P w K mg base (CX1 P w) 1 f fd ["_law_cell_here","_law_k"] zal:=by
 refine F.okX R0 (by walk_at "ar") fun _ _ _ _ H _ Q E hr h=>?_
 obtain⟨c,k,rfl,h⟩:=h;refine⟨_,(Zb (pS 2 R0.nd (Zv Yv (Zv Xc (Zv Qm (pv 0) Zi) (pv 1)) Zi))
 (Zb (pS 3 R0.nd (Zv Yv (Zv Xc (Zv Qm (pv 2) Zi) (Zv Qm Zi (pv 1))) Zi))
 (Zb (pS 4 R0.nd (Zv Yv (Zv Xc (Zv Qm (pv 3) Zi) (pv 2)) Zi))
 (Ze (Zm (Zv Xc (Zv Qm (Zv Xc (Zv Qm (pv 2) Zi) (pv 3)) Zi) (pv 4))))))),?_⟩
 walk_at "rd";exact h
noncomputable abbrev Yn:Stmt:=top 61
theorem Pa:Zl ["_law_cell_here","_law_many","_law_step"] ["_law_cell_here","_law_many"] (Zj Yn):=fnS
@[irreducible] noncomputable def Uq:List Expr:=zcc (C5 (Pu (Xu (Zt Yn) 0)))
@[irreducible] noncomputable def Pb:Pos:=zcd (C5 (Pu (Xu (Zt Yn) 0)))
theorem Lc:Zt Yn=[.Assign (zes (Xu (Zt Yn) 0)) (.Subscript (.List Uq Pb) (zf4 (Pu (Xu (Zt Yn) 0))) (zf5 (Pu (Xu (Zt Yn) 0)))) (stP (Xu (Zt Yn) 0)),Xu (Zt Yn) 1]:=by unfold Uq Pb;kernel_rfl
theorem Ld:J8 Uq [1,2,5,10,100,500,998]:=by unfold Uq;exact⟨by kernel_rfl,by kernel_rfl⟩
theorem Hi(F:Fun K "_law_numbers" "_law_numbers" Yn f fd)(T:Tx K mg a):Z6 P w K mg base (CX1 P w) 1 f fd ["_law_cell_here","_law_many"] Jt:=by
 refine F.okX Pa (by walk_at "ar") fun _ _ _ _ H _ Q E hr h=>?_
 obtain⟨c,m,rfl,hm,h⟩:=h;rw[Lc];refine⟨_,(Zb (pS 2 Pa.nd (pI (iL K) (Ya (Pl [1,2,5,10,100,500,998] Ld)) (Zv Yv (pv 0) Zi)))
 (Ze (Zm (Ua rfl (cT ["_law_cell_here","_law_step"] [0,2]) (Xh rfl T.zk8 (Za (pv 1) Zd)) (fun _ _ _ _ _=>V3) (fun _ _ _ _ _=>(Zv Xc Zi (Zv Yv (Zv Xc (Zv Xi (pv 1) Zi) (Zv Qm (pv 2) (pv 0))) Zi))))))),?_⟩
 refine⟨by show 7<=sizeLine;decide,fun p0 hp0=>?_⟩
 walk_at "rd";refine⟨p0,_,_,_,rfl,rfl,SqL.of Zc,Wo (xs:=[1,2,5,10,100,500,998]) (by omega) (by show c%7<7;omega),?_⟩
 refine⟨_,rfl,_,rfl,by omega,by omega,Fe (fun j=>V.int (zbt c j)) (by rw[z1a];exact z09 hm (by decide)) (fun i R hi k=>?_) (fun p hp=>?_)⟩
 ·rw[z1a] at hi
  walk_at "rd";refine⟨.inr ⟨by omega,by omega⟩,?_⟩
  walk_at "rd";rw[z18];exact k
 ·rw[z1a]
  refine h p _ ?_ ((Zf hp0).trans (Zf hp)) ((Zf hp0).free hp);rw[Zc];unfold Lr;rw[z2m];rfl
noncomputable abbrev Y2:Stmt:=top 62
theorem Ma:Zl ["_law_cell_here","_law_many","_law_step"] ["_law_cell_here","_law_many"] (Zj Y2):=fnS
@[irreducible] noncomputable def T5:List Expr:=zcc (C5 (Pu (Xu (Zt Y2) 0)))
@[irreducible] noncomputable def Mb:Pos:=zcd (C5 (Pu (Xu (Zt Y2) 0)))
theorem Hj:Zt Y2=[.Assign (zes (Xu (Zt Y2) 0)) (.Subscript (.List T5 Mb) (zf4 (Pu (Xu (Zt Y2) 0))) (zf5 (Pu (Xu (Zt Y2) 0)))) (stP (Xu (Zt Y2) 0)),Xu (Zt Y2) 1]:=by unfold T5 Mb;kernel_rfl
theorem Hk:J8 T5 [1,2,5,10,50,97,98]:=by unfold T5;exact⟨by kernel_rfl,by kernel_rfl⟩
theorem Dh(F:Fun K "_law_clubs" "_law_clubs" Y2 f fd)(T:Tx K mg a):Z6 P w K mg base (CX1 P w) 1 f fd ["_law_cell_here","_law_many"] zam:=by
 refine F.okX Ma (by walk_at "ar") fun _ _ _ _ H _ Q E hr h=>?_
 obtain⟨c,m,rfl,hm,h⟩:=h;rw[Hj];refine⟨_,(Zb (pS 2 Ma.nd (pI (iL K) (Ya (Pl [1,2,5,10,50,97,98] Hk)) (Zv Yv (pv 0) Zi)))
 (Ze (Zm (Ua rfl (cT ["_law_cell_here","_law_step"] [0,2]) (Xh rfl T.zk8 (Za (pv 1) Zd)) (fun _ _ _ _ _=>V3) (fun _ _ _ _ _=>(Zv Xc Zi (Zv Yv (Zv Xc (Zv Xi (pv 1) Zi) (Zv Qm (pv 2) (pv 0))) Zi))))))),?_⟩
 refine⟨by show 7<=sizeLine;decide,fun p0 hp0=>?_⟩
 walk_at "rd";refine⟨p0,_,_,_,rfl,rfl,SqL.of Zc,Wo (xs:=[1,2,5,10,50,97,98]) (by omega) (by show c%7<7;omega),?_⟩
 refine⟨_,rfl,_,rfl,by omega,by omega,Fe (fun j=>V.int (Fg c j)) (by rw[z1a];exact z09 hm (by decide)) (fun i R hi k=>?_) (fun p hp=>?_)⟩
 ·rw[z1a] at hi
  walk_at "rd";refine⟨.inr ⟨by omega,by omega⟩,?_⟩
  walk_at "rd";rw[z18];exact k
 ·rw[z1a]
  refine h p _ ?_ ((Zf hp0).trans (Zf hp)) ((Zf hp0).free hp);rw[Zc];unfold Qu;rw[z2m];rfl
noncomputable abbrev T6:Stmt:=top 63
theorem Gs:Zl ["_law_found","_law_due"] ["_law_found","_law_due"] (Zj T6):=fnS
theorem Gu(F:Fun K "_law_one_is" "_law_one_is" T6 f fd)(T:Tx K mg a)(zmf:Z9 P w K mg base "_law_whole" 1 ["_law_found"] Em):Z6 P w K mg base (CX1 P w) 2 f fd ["_law_found","_law_due"] Eo:=by
 refine F.okX Gs (by walk_at "ar") fun _ _ _ _ H _ Q E hr h=>?_
 obtain⟨x,rfl,hx,h⟩:=h;refine⟨_,(Ze (Zm (Ds (Zo Jh (pv 1) Y5 (Zw _)) (Na Jh (pv 0) Y5 (Zw _)) (zcx (pF zmf hr (Za (pv 0) Zd)) (zcw (Na W0 (pv 0) (pv 1) (Zw _))))))),?_⟩;rcases hx with rfl|⟨i,rfl⟩
 ·refine⟨_,rfl,rfl,_,rfl,?_⟩
  refine iteT ?_;exact⟨_,rfl,rfl,h⟩
 ·refine⟨_,rfl,rfl,_,rfl,?_⟩
  refine iteF ?_;refine⟨_,rfl,i,rfl,_,rfl,?_⟩;refine iteT ?_;refine⟨_,rfl,_,rfl,rfl,?_⟩;rw[z01 rfl];exact h
noncomputable abbrev Tb:Stmt:=top 64
theorem Pc:Zl ["_law_found","_law_due","_law_k"] ["_law_found","_law_due"] (Zj Tb):=fnS
theorem Hl(F:Fun K "_law_list_is" "_law_list_is" Tb f fd)(T:Tx K mg a)(zly:Z9 P w K mg base "_law_one_is" 2 ["_law_found","_law_due"] Eo):Z6 P w K mg base (CX1 P w) 3 f fd ["_law_found","_law_due"] (D9 K):=by
 refine F.okX Pc (by walk_at "ar") fun _ _ _ _ H _ Q E hr h=>?_
 obtain⟨b,c,xs,rfl,hb,hc,ho,hl,h⟩:=h;refine⟨_,(Zb (Z5 (PW.pt (V0 (Wa (X1 (Zn (Va (K:=K) rfl) (by rfl) T.zkx PyProof.Rows.boot_isinstance (Za (pv 0) (Za (Tn rfl T.zlg PyProof.Rows.boot_list (show RelV (.ty "list") _ from rfl)) Zd))))) (Ws (Zo Jg (Zn (cL K) (by rfl) T.zkq PySem.boot_len (Za (pv 0) Zd)) (Zn (cL K) (by rfl) T.zkq PySem.boot_len (Za (pv 1) Zd)) (Zw _)))))
  (Ze (Zm Xq))
  Zr)
 (Zb (Y6 PassesOwn.leaving rfl (Xh rfl T.zk8 (Za (Zn (cL K) (by rfl) T.zkq PySem.boot_len (Za (pv 1) Zd)) Zd)) (pN 2 Pc.nd)
  (Ze (Z5 (Wa (X1 (pF zly hr (Za (pI (iL K) (pv 0) (pv 2)) (Za (pI (iL K) (pv 1) (pv 2)) Zd)))))
   (Ze (Zm Xq))
   Zr)))
 (Ze (Zm Xq)))),?_⟩
 refine⟨_,rfl,_,_,_,_,rfl,.of (.lst hb),.inl ⟨_,rfl⟩,Js K,_,rfl,?_⟩;refine iteF ?_;refine⟨_,rfl,b,_,rfl,.inl (SqL.of hb),_,rfl,c,_,rfl,.inl hc,rfl,_,rfl,?_⟩;rw[z01 rfl];refine iteF ?_;refine⟨_,rfl,c,_,rfl,.inl hc,_,rfl,by omega,by omega,Xv (fun i σ H'=>H'=H/\(∃ v,σ=[some (.ref b),some (.ref c),v])) ⟨rfl,⟨_,rfl⟩⟩ (fun i σ H' hi ⟨e,⟨v,hv⟩⟩=>?_) (fun σ H' ⟨e,⟨v,hv⟩⟩=>?_)⟩
 ·subst e hv
  rw[z1a] at hi
  have h1:xs[i]?=some (xs[i]'hi):=z0u hi;rw[z18];refine⟨_,rfl,_,rfl,b,_,_,_,rfl,rfl,SqL.of hb,Z8 h1,_,rfl,_,rfl,c,_,_,_,rfl,rfl,hc,Z8 h1,_,rfl,ho _ (z1s hi),_,rfl,?_⟩;exact iteF ⟨rfl,⟨_,rfl⟩⟩
 ·subst e hv
  exact h
noncomputable abbrev Ur:Stmt:=top 65
theorem Qe:Zl ["_law_found","_law_due","_law_k"] ["_law_found","_law_due"] (Zj Ur):=fnS
theorem K1(F:Fun K "_law_tuple_is" "_law_tuple_is" Ur f fd)(T:Tx K mg a)(zly:Z9 P w K mg base "_law_one_is" 2 ["_law_found","_law_due"] Eo):Z6 P w K mg base (CX1 P w) 3 f fd ["_law_found","_law_due"] (Fh K):=by
 refine F.okX Qe (by walk_at "ar") fun _ _ _ _ H _ Q E hr h=>?_
 obtain⟨b,c,xs,rfl,hb,hc,ho,hl,h⟩:=h;refine⟨_,(Zb (Z5 (PW.pt (V0 (Wa (X1 (Zn (Va (K:=K) rfl) (by rfl) T.zkx PyProof.Rows.boot_isinstance (Za (pv 0) (Za (Tn rfl T.zot PyProof.Rows.boot_tuple (show RelV (.ty "tuple") _ from rfl)) Zd))))) (Ws (Zo Jg (Zn (cL K) (by rfl) T.zkq PySem.boot_len (Za (pv 0) Zd)) (Zn (cL K) (by rfl) T.zkq PySem.boot_len (Za (pv 1) Zd)) (Zw _)))))
  (Ze (Zm Xq))
  Zr)
 (Zb (Y6 PassesOwn.leaving rfl (Xh rfl T.zk8 (Za (Zn (cL K) (by rfl) T.zkq PySem.boot_len (Za (pv 1) Zd)) Zd)) (pN 2 Qe.nd)
  (Ze (Z5 (Wa (X1 (pF zly hr (Za (pI (iU K) (pv 0) (pv 2)) (Za (pI (iU K) (pv 1) (pv 2)) Zd)))))
   (Ze (Zm Xq))
   Zr)))
 (Ze (Zm Xq)))),?_⟩
 refine⟨_,rfl,_,_,_,_,rfl,.of (.tup hb),.inl ⟨_,rfl⟩,zhu K,_,rfl,?_⟩;refine iteF ?_;refine⟨_,rfl,b,_,rfl,.inr (SqT.of hb),_,rfl,c,_,rfl,.inr hc,rfl,_,rfl,?_⟩;rw[z01 rfl];refine iteF ?_;refine⟨_,rfl,c,_,rfl,.inr hc,_,rfl,by omega,by omega,Xv (fun i σ H'=>H'=H/\(∃ v,σ=[some (.ref b),some (.ref c),v])) ⟨rfl,⟨_,rfl⟩⟩ (fun i σ H' hi ⟨e,⟨v,hv⟩⟩=>?_) (fun σ H' ⟨e,⟨v,hv⟩⟩=>?_)⟩
 ·subst e hv
  rw[z1a] at hi
  have h1:xs[i]?=some (xs[i]'hi):=z0u hi;rw[z18];refine⟨_,rfl,_,rfl,b,_,_,_,rfl,rfl,SqT.of hb,Z8 h1,_,rfl,_,rfl,c,_,_,_,rfl,rfl,hc,Z8 h1,_,rfl,ho _ (z1s hi),_,rfl,?_⟩;exact iteF ⟨rfl,⟨_,rfl⟩⟩
 ·subst e hv
  exact h
noncomputable abbrev Us:Stmt:=top 66
theorem Qf:Zl ["_law_found","_law_due","_law_k"] ["_law_found","_law_due"] (Zj Us):=fnS
theorem K2(F:Fun K "_law_rows_are" "_law_rows_are" Us f fd)(T:Tx K mg a)(znl:Z9 P w K mg base "_law_tuple_is" 3 ["_law_found","_law_due"] (Fh K)):Z6 P w K mg base (CX1 P w) 4 f fd ["_law_found","_law_due"] (Fi K):=by
 refine F.okX Qf (by walk_at "ar") fun _ _ _ _ H _ Q E hr h=>?_
 obtain⟨b,c,ts,us,R,rfl,hb,hc,tl,ul,ho,hl,h⟩:=h;refine⟨_,(Zb (Z5 (PW.pt (V0 (Wa (X1 (Zn (Va (K:=K) rfl) (by rfl) T.zkx PyProof.Rows.boot_isinstance (Za (pv 0) (Za (Tn rfl T.zlg PyProof.Rows.boot_list (show RelV (.ty "list") _ from rfl)) Zd))))) (Ws (Zo Jg (Zn (cL K) (by rfl) T.zkq PySem.boot_len (Za (pv 0) Zd)) (Zn (cL K) (by rfl) T.zkq PySem.boot_len (Za (pv 1) Zd)) (Zw _)))))
  (Ze (Zm Xq))
  Zr)
 (Zb (Y6 PassesOwn.leaving rfl (Xh rfl T.zk8 (Za (Zn (cL K) (by rfl) T.zkq PySem.boot_len (Za (pv 1) Zd)) Zd)) (pN 2 Qf.nd)
  (Ze (Z5 (Wa (X1 (pF znl hr (Za (pI (iL K) (pv 0) (pv 2)) (Za (pI (iL K) (pv 1) (pv 2)) Zd)))))
   (Ze (Zm Xq))
   Zr)))
 (Ze (Zm Xq)))),?_⟩
 have el:ts.length=us.length:=by rw[tl.length,ul.length]
 have hul:=ul.length;refine⟨_,rfl,_,_,_,_,rfl,.of (.lst hb),.inl ⟨_,rfl⟩,Js K,_,rfl,?_⟩;refine iteF ?_;refine⟨_,rfl,b,_,rfl,.inl (SqL.of hb),_,rfl,c,_,rfl,.inl hc,rfl,_,rfl,?_⟩;rw[el,z01 rfl];refine iteF ?_;refine⟨_,rfl,c,_,rfl,.inl hc,_,rfl,by omega,by omega,Xv (fun i σ H'=>H'=H/\(∃ v,σ=[some (.ref b),some (.ref c),v])) ⟨rfl,⟨_,rfl⟩⟩ (fun i σ H' hi ⟨e,⟨v,hv⟩⟩=>?_) (fun σ H' ⟨e,⟨v,hv⟩⟩=>?_)⟩
 ·subst e hv
  rw[z1a] at hi
  have hR:i<R.length:=by rw[<- ul.length];exact hi
  obtain⟨t1,e1,q1⟩:=tl.getR (z0u hR);obtain⟨t2,e2,q2⟩:=ul.getR (z0u hR);obtain⟨o1,o2⟩:=ho _ (z1s hR);rw[z18];refine⟨_,rfl,_,rfl,b,_,_,_,rfl,rfl,SqL.of hb,Z8 e1,_,rfl,_,rfl,c,_,_,_,rfl,rfl,hc,Z8 e2,t1,t2,_,rfl,q1,SqT.of q2,o2,o1,_,rfl,?_⟩;exact iteF ⟨rfl,⟨_,rfl⟩⟩
 ·subst e hv
  exact h
noncomputable abbrev Vk:Stmt:=top 67
theorem Ut:Zl ["_law_may","_law_given","_law_seen","_law_k"] ["_law_may","_law_given"] (Zj Vk):=fnS
theorem Mc(F:Fun K "_law_is_filling" "_law_is_filling" Vk f fd)(T:Tx K mg a)(zmf:Z9 P w K mg base "_law_whole" 1 ["_law_found"] Em):Z6 P w K mg base (CX1 P w) 2 f fd ["_law_may","_law_given"] (Ls K):=by
 refine F.okX Ut (by walk_at "ar") fun _ _ _ _ H _ Q E hr h=>?_
 obtain⟨l,lg,ls,rows,gs,rfl,hl,il,hrl,hg,FP,h⟩:=h;have hu:=Wm hr;refine⟨_,(Zb (Z5 (PW.pt (V0 (Wa (X1 (Zn (Va (K:=K) rfl) (by rfl) T.zkx PyProof.Rows.boot_isinstance (Za (pv 1) (Za (Tn rfl T.zlg PyProof.Rows.boot_list (show RelV (.ty "list") _ from rfl)) Zd))))) (Ws (Zo Jg (Zn (cL K) (by rfl) T.zkq PySem.boot_len (Za (pv 1) Zd)) (Zn (cL K) (by rfl) T.zkq PySem.boot_len (Za (pv 0) Zd)) (Zw _)))))
  (Ze (Zm Xq))
  Zr)
 (Zb (pS 2 Ut.nd Jl)
 (Zb (Y6 PassesOwn.leaving rfl (Xh rfl T.zk8 (Za (Zn (cL K) (by rfl) T.zkq PySem.boot_len (Za (pv 0) Zd)) Zd)) (pN 3 Ut.nd)
  (Ze (Z5 (Zo V1 (pI (iL K) (pv 1) (pv 3)) Y5 (Zw _))
   (Zb (Z5 (PW.pt (V0 (Wa (X1 (pF zmf hr (Za (pI (iL K) (pv 1) (pv 3)) Zd)))) (V0 (Zo (P6 (K:=K) rfl) (pI (iL K) (pv 1) (pv 3)) (pI (iL K) (pv 0) (pv 3)) (by with_unfolding_all rfl)) (Ws (S6 (Qq hu (pI (iL K) (pv 1) (pv 3)) (pv 2)))))))
    (Ze (Zm Xq))
    Zr)
   (Ze (Ys hu (pv 2) (pI (iL K) (pv 1) (pv 3)) Xq rfl)))
   Zr)))
 (Ze (Zm Xq))))),?_⟩
 refine⟨_,rfl,_,_,_,_,rfl,.of (.lst hg),.inl ⟨_,rfl⟩,Js K,_,rfl,?_⟩;refine iteF ?_;refine⟨_,rfl,lg,_,rfl,.inl (SqL.of hg),_,rfl,l,_,rfl,.inl (SqL.of hl),rfl,_,rfl,?_⟩;rw[z0t,il.length,FP.len,z01 rfl];refine iteF ?_;intro ld hld;have s0:=Zf (o:=.dK []) hld;have q0:upd H ld (.dK []) ld=some (.dK []):=Zc;generalize upd H ld (.dK [])=H1 at s0 q0
 refine⟨_,rfl,l,_,rfl,.inl (SqL.of (s0 _ _ hl)),_,rfl,by omega,by rw[z0t,il.length];omega,?_⟩
 rw[z0t,il.length,z1a]
 let jv1:Nat->L2.St->Hp->Prop:=fun i σ H'=>(∃ v3,σ=[some (.ref l),some (.ref lg),some (.ref ld),v3])/\Same H H'/\∃ kvs,H' ld=some (.dK kvs)/\kvs.length<=i/\∀ n:Int,(valV kvs (Sum.inl n:Key)).isSome=true->∃ j,j<i/\gs[j]?=some (.int n)
 refine Xv jv1 ⟨⟨_,rfl⟩,s0,[],q0,z03 _,fun n z=>(nomatch z)⟩ ?_ ?_
 ·rintro i σ H' hi ⟨⟨v3,rfl⟩,sm,kvs,hd,hkl,hks⟩
  rw[z18];have hgi:i<gs.length:=by rw[FP.len];exact hi
  have hx:gs[i]?=some (gs[i]'hgi):=z0u hgi;have hone:=FP.one _ (z1s hgi);generalize (gs[i]'hgi)=x at hx hone
  refine⟨_,rfl,_,rfl,lg,_,_,_,rfl,rfl,SqL.of (sm _ _ hg),Z8 hx,rfl,_,rfl,?_⟩;rcases hone with rfl|⟨n,rfl⟩
  ·refine iteF ?_
   refine⟨⟨_,rfl⟩,sm,kvs,hd,by omega,fun n hn=>?_⟩
   obtain⟨j,h1,h2⟩:=hks n hn;exact⟨j,by omega,h2⟩
  ·refine iteT ?_
   obtain⟨r,hr',hnr⟩:=FP.may i n hx;obtain⟨lr,e1,e2⟩:=il.getR hr';have hl':(ls.map V.ref)[i]?=some (.ref lr):=by rw[z0x,e1];rfl
   have hno:valV kvs (Sum.inl n:Key)=none:=by
    cases q:valV kvs (Sum.inl n:Key) with
    | none=>rfl
    | some v =>
      obtain⟨j,h1,h2⟩:=hks n (by rw[q];rfl)
      exact absurd (FP.inj j i n h2 hx) (by omega)
   have gx:∀ {Q:VK},Q (.int n) H'->∃ v,([some (V.ref l),some (V.ref lg),some (V.ref ld),some (V.int (i:Int))]:L2.St)[1]?=some (some v)/\∃ w,([some (V.ref l),some (V.ref lg),some (V.ref ld),some (V.int (i:Int))]:L2.St)[3]?=some (some w)/\Hq K v w H' Q:=fun q=>⟨_,rfl,_,rfl,lg,_,_,_,rfl,rfl,SqL.of (sm _ _ hg),Z8 hx,q⟩
   walk_at "if";refine Se (V4 (b:=false) (Qt (b:=false) (c:=false) (fun Q q=>⟨_,rfl,_,rfl,lg,_,_,_,rfl,rfl,SqL.of (sm _ _ hg),Z8 hx,n,rfl,_,rfl,q⟩) (Qt (b:=false) (c:=false) (fun Q q=>⟨_,rfl,_,rfl,lg,_,_,_,rfl,rfl,SqL.of (sm _ _ hg),Z8 hx,_,rfl,_,rfl,l,_,_,_,rfl,rfl,SqL.of (sm _ _ hl),Z8 hl',lr,_,rfl,.inl (SqL.of (sm _ _ e2)),rfl,zb1 r,_,rfl,by rw[K9,z01 hnr];exact q⟩)
    (fun Q q=>⟨_,rfl,_,rfl,lg,_,_,_,rfl,rfl,SqL.of (sm _ _ hg),Z8 hx,_,rfl,ld,_,rfl,DGet.k (k:=Sum.inl n) hd,_,rfl,by rw[hno];exact q⟩))) (iteF (Zz ?_)))
   refine⟨_,rfl,_,rfl,_,rfl,lg,_,_,_,rfl,rfl,SqL.of (sm _ _ hg),Z8 hx,ld,_,rfl,DPut.k (k:=Sum.inl n) hd (T9 (by omega)),?_⟩
   refine⟨⟨_,rfl⟩,Yc hld sm,_,Zc,z09 (Y1 _ _ _) (by omega),fun n' hn'=>?_⟩
   rw[V2] at hn'
   by_cases e:(Sum.inl n':Key)=Sum.inl n
   ·cases e;exact⟨i,Nat.lt_succ_self _,hx⟩
   ·rw[if_neg e] at hn'
    obtain⟨j,h1,h2⟩:=hks n' hn';exact⟨j,by omega,h2⟩
 ·rintro σ H' ⟨⟨v3,rfl⟩,sm,_⟩
  exact h H' sm
noncomputable abbrev Vs:Stmt:=top 68
theorem Rp:Zl ["_law_found","_law_due","_law_k"] ["_law_found","_law_due"] (Zj Vs):=fnS
theorem Le(F:Fun K "_law_words_are" "_law_words_are" Vs f fd)(T:Tx K mg a):Z6 P w K mg base (CX1 P w) 1 f fd ["_law_found","_law_due"] (zap K):=by
 refine F.okX Rp (by walk_at "ar") fun _ _ _ _ H _ Q E hr h=>?_
 obtain⟨b,c,xs,rfl,hb,hc,hl,h⟩:=h;refine⟨_,(Zb (Z5 (PW.pt (V0 (Wa (X1 (Zn (Va (K:=K) rfl) (by rfl) T.zkx PyProof.Rows.boot_isinstance (Za (pv 0) (Za (Tn rfl T.zlg PyProof.Rows.boot_list (show RelV (.ty "list") _ from rfl)) Zd))))) (Ws (Zo Jg (Zn (cL K) (by rfl) T.zkq PySem.boot_len (Za (pv 0) Zd)) (Zn (cL K) (by rfl) T.zkq PySem.boot_len (Za (pv 1) Zd)) (Zw _)))))
  (Ze (Zm Xq))
  Zr)
 (Zb (Y6 PassesOwn.leaving rfl (Xh rfl T.zk8 (Za (Zn (cL K) (by rfl) T.zkq PySem.boot_len (Za (pv 1) Zd)) Zd)) (pN 2 Rp.nd)
  (Ze (Z5 (PW.pt (V0 (Wa (X1 (Zn (Va (K:=K) rfl) (by rfl) T.zkx PyProof.Rows.boot_isinstance (Za (pI (iL K) (pv 0) (pv 2)) (Za (Tn rfl T.zqj PyProof.Rows.boot_str (show RelV (.ty "str") _ from rfl)) Zd))))) (Ws (Zo Jg (pI (iL K) (pv 0) (pv 2)) (pI (iL K) (pv 1) (pv 2)) (Zw _)))))
   (Ze (Zm Xq))
   Zr)))
 (Ze (Zm Xq)))),?_⟩
 refine⟨_,rfl,_,_,_,_,rfl,.of (.lst hb),.inl ⟨_,rfl⟩,Js K,_,rfl,?_⟩;refine iteF ?_;refine⟨_,rfl,b,_,rfl,.inl (SqL.of hb),_,rfl,c,_,rfl,.inl hc,rfl,_,rfl,?_⟩;rw[z01 rfl];refine iteF ?_;refine⟨_,rfl,c,_,rfl,.inl hc,_,rfl,by omega,by rw[z0t];omega,Xv (fun i σ H'=>H'=H/\(∃ v,σ=[some (.ref b),some (.ref c),v])) ⟨rfl,⟨_,rfl⟩⟩ (fun i σ H' hi ⟨e,⟨v,hv⟩⟩=>?_) (fun σ H' ⟨e,⟨v,hv⟩⟩=>?_)⟩
 ·subst e hv
  rw[z0t,z1a] at hi
  have h1:(xs.map V.str)[i]?=some (.str (xs[i]'hi)):=by rw[z0x,z0u hi];rfl
  rw[z18];refine⟨_,rfl,_,rfl,b,_,_,_,rfl,rfl,SqL.of hb,Z8 h1,_,_,_,_,rfl,.of (.str _),.inl ⟨_,rfl⟩,zhv K,_,rfl,?_⟩;refine iteF ?_;refine⟨_,rfl,_,rfl,b,_,_,_,rfl,rfl,SqL.of hb,Z8 h1,_,rfl,_,rfl,c,_,_,_,rfl,rfl,hc,Z8 h1,rfl,_,rfl,?_⟩;rw[z01 rfl];exact iteF ⟨rfl,⟨_,rfl⟩⟩
 ·subst e hv
  exact h
noncomputable abbrev Sx:Stmt:=top 69
theorem Md:Zl ["_law_rounds_here","_law_rest_here","_law_page"] ["_law_rounds_here","_law_rest_here"] (Zj Sx):=fnS
theorem Dj(F:Fun K "_law_first" "_law_first" Sx f fd)(T:Tx K mg a):Z6 P w K mg base (CX1 P w) 1 f fd ["_law_rounds_here","_law_rest_here"] za4:=by
 refine F.okX Md (by walk_at "ar") fun _ _ _ _ H _ Q E hr h=>?_
 obtain⟨r,q,rfl,h⟩:=h;have hu:=Wm hr;refine⟨_,(Zb (pS 2 Md.nd (zac (Sd Zs (pv 0) (Sd Zs (pv 1) (Sd Zs (Ya Zd) (Sd Zs (Ya Zd) (Sd Zs (Ya Zd) (Sd Zs Y5 zab)))))) rfl rfl (by simp) (by decide)))
 (Zb (Ys hu (pv 2) Zs Y5 rfl)
 (Zb (Ys hu (pv 2) Zs (Ya Zd) rfl)
 (Zb (Ys hu (pv 2) Zs (Ya Zd) rfl)
 (Ze (Zm (pv 2))))))),?_⟩
 have sz0:([]:List V).length<=sizeLine:=z1j _;refine fun p fp=>?_
 have s1:=Zf (o:=.dK []) fp;have p1:(upd H p (.dK [])) p=some (.dK []):=Zc;generalize upd H p (.dK [])=H1 at s1 p1 ⊢
 refine⟨_,rfl,_,rfl,sz0,fun l1 f1=>?_⟩
 have s2:=Zf (o:=.lst []) f1;have a1:(upd H1 l1 (.lst [])) l1=some (.lst []):=Zc;have n1:l1≠p:=fun z=>by rw[z,p1] at f1;cases f1
 generalize upd H1 l1 (.lst [])=H2 at s2 a1 ⊢
 refine⟨sz0,fun l2 f2=>?_⟩
 have s3:=Zf (o:=.lst []) f2;have a2:(upd H2 l2 (.lst [])) l2=some (.lst []):=Zc;have n2:l2≠p:=fun z=>by rw[z,s2 _ _ p1] at f2;cases f2
 generalize upd H2 l2 (.lst [])=H3 at s3 a2 ⊢
 refine⟨sz0,fun l3 f3=>?_⟩
 have s4:=Zf (o:=.lst []) f3;have a3:(upd H3 l3 (.lst [])) l3=some (.lst []):=Zc;have n3:l3≠p:=fun z=>by rw[z,s3 _ _ (s2 _ _ p1)] at f3;cases f3
 generalize upd H3 l3 (.lst [])=H4 at s4 a3 ⊢
 refine⟨s4 _ _ (s3 _ _ (s2 _ _ p1)),pg6 r q l1 l2 l3 .non,rfl,(show 6<=15 by decide),?_⟩
 rw[zcf];have s5:=Yc (o:=.dK (pg6 r q l1 l2 l3 .non)) fp (s1.trans (s2.trans (s3.trans s4)));have p5:(upd H4 p (.dK (pg6 r q l1 l2 l3 .non))) p=some (.dK (pg6 r q l1 l2 l3 .non)):=Zc;have b1:(upd H4 p (.dK (pg6 r q l1 l2 l3 .non))) l1=some (.lst []):=by rw[Zh n1];exact s4 _ _ (s3 _ _ a1)
 have b2:(upd H4 p (.dK (pg6 r q l1 l2 l3 .non))) l2=some (.lst []):=by rw[Zh n2];exact s4 _ _ a2
 have b3:(upd H4 p (.dK (pg6 r q l1 l2 l3 .non))) l3=some (.lst []):=by rw[Zh n3];exact a3
 generalize upd H4 p (.dK (pg6 r q l1 l2 l3 .non))=H5 at s5 p5 b1 b2 b3 ⊢
 walk_at "if";refine⟨_,rfl,p,_,rfl,DPut.k (k:=Sum.inr "listed") p5 (M0 (x:=.non) (y:=.non)).1,?_⟩;have s6:=Yc (o:=.dK (putK (pg6 r q l1 l2 l3 .non) (.inr "listed") .non)) fp s5;have p6:(upd H5 p (.dK (putK (pg6 r q l1 l2 l3 .non) (.inr "listed") .non))) p=some (.dK (putK (pg6 r q l1 l2 l3 .non) (.inr "listed") .non)):=Zc;have c1:=(Zh (H:=H5) (o:=.dK (putK (pg6 r q l1 l2 l3 .non) (.inr "listed") .non)) n1).trans b1;have c2:=(Zh (H:=H5) (o:=.dK (putK (pg6 r q l1 l2 l3 .non) (.inr "listed") .non)) n2).trans b2;have c3:=(Zh (H:=H5) (o:=.dK (putK (pg6 r q l1 l2 l3 .non) (.inr "listed") .non)) n3).trans b3;generalize upd H5 p (.dK (putK (pg6 r q l1 l2 l3 .non) (.inr "listed") .non))=H6 at s6 p6 c1 c2 c3 ⊢
 refine⟨sz0,fun l4 f4=>?_⟩
 have s7:=Zf (o:=.lst []) f4;have a4:(upd H6 l4 (.lst [])) l4=some (.lst []):=Zc;have n4:l4≠p:=fun z=>by rw[z,p6] at f4;cases f4
 generalize upd H6 l4 (.lst [])=H7 at s7 a4 ⊢
 refine⟨_,rfl,p,_,rfl,DPut.k (k:=Sum.inr "goes") (s7 _ _ p6) (M0 (y:=.non)).2.1,?_⟩;have s8:=Yc (o:=.dK (putK (putK (pg6 r q l1 l2 l3 .non) (.inr "listed") .non) (.inr "goes") (.ref l4))) fp (s6.trans s7);have p8:(upd H7 p (.dK (putK (putK (pg6 r q l1 l2 l3 .non) (.inr "listed") .non) (.inr "goes") (.ref l4)))) p=some (.dK (putK (putK (pg6 r q l1 l2 l3 .non) (.inr "listed") .non) (.inr "goes") (.ref l4))):=Zc;have d1:=(Zh (H:=H7) (o:=.dK (putK (putK (pg6 r q l1 l2 l3 .non) (.inr "listed") .non) (.inr "goes") (.ref l4))) n1).trans (s7 _ _ c1);have d2:=(Zh (H:=H7) (o:=.dK (putK (putK (pg6 r q l1 l2 l3 .non) (.inr "listed") .non) (.inr "goes") (.ref l4))) n2).trans (s7 _ _ c2);have d3:=(Zh (H:=H7) (o:=.dK (putK (putK (pg6 r q l1 l2 l3 .non) (.inr "listed") .non) (.inr "goes") (.ref l4))) n3).trans (s7 _ _ c3);have d4:=(Zh (H:=H7) (o:=.dK (putK (putK (pg6 r q l1 l2 l3 .non) (.inr "listed") .non) (.inr "goes") (.ref l4))) n4).trans a4;generalize upd H7 p (.dK (putK (putK (pg6 r q l1 l2 l3 .non) (.inr "listed") .non) (.inr "goes") (.ref l4)))=H8 at s8 p8 d1 d2 d3 d4 ⊢
 refine⟨sz0,fun l5 f5=>?_⟩
 have s9:=Zf (o:=.lst []) f5;have a5:(upd H8 l5 (.lst [])) l5=some (.lst []):=Zc;have n5:l5≠p:=fun z=>by rw[z,p8] at f5;cases f5
 generalize upd H8 l5 (.lst [])=H9 at s9 a5 ⊢
 refine⟨_,rfl,p,_,rfl,DPut.k (k:=Sum.inr "moves") (s9 _ _ p8) M0.2.2,?_⟩;rw[zf7];refine⟨_,rfl,h p _ ?_ (Yc fp (s8.trans s9)) fp⟩;have fr:∀ x,H4 x=none->H x=none:=fun x hx=>s1.free (s2.free (s3.free (s4.free hx)))
 exact⟨l1,l2,l3,.non,.non,l4,l5,[],[],[],[],Zc,(Zh n1).trans (s9 _ _ d1),.nil,(Zh n2).trans (s9 _ _ d2),.nil,(Zh n3).trans (s9 _ _ d3),.nil,rfl,rfl,(Zh n4).trans (s9 _ _ d4),(Zh n5).trans a5,.nil,
  fp,s1.free f1,s1.free (s2.free f2),s1.free (s2.free (s3.free f3)),s6.free f4,s8.free f5⟩
noncomputable abbrev Pr:Stmt:=top 70
theorem Vy:Zl ["_law_page","_law_met_here","_law_listed","_law_goes","_law_moves","_law_may","_law_k"] ["_law_page"] (Zj Pr):=fnS
theorem A5(F:Fun K "_law_met" "_law_met" Pr f fd)(T:Tx K mg a):Z6 P w K mg base (CX1 P w) 1 f fd ["_law_page"] (za6 K):=by
 refine F.okX Vy (by walk_at "ar") fun _ _ _ _ H _ Q E hr h=>?_
 obtain⟨ok,d,P0,rfl,PA,PO,h⟩:=h;have hu:=Wm hr;refine⟨_,(Zb (pS 1 Vy.nd Nd)
 (Zb (Y6 PassesOwn.leaving rfl (Yh (K:=K) rfl (Jn (Jq (K:=K) rfl) (pD hu (pv 0) Zs) (Ee (Zn (Mi rfl) (by rfl) T.zpy PyProof.Rows.boot_max (Za Zi (Za (Zv Rr (Zn (cL K) (by rfl) T.zkq PySem.boot_len (Za (pD hu (pv 0) Zs) Zd)) (pD hu (pv 0) Zs)) Zd)))) Ed)) (Wg (K:=K) (n:=4) rfl rfl (Zy (pN 2 Vy.nd) (Zy (pN 3 Vy.nd) (Zy (pN 4 Vy.nd) (Zy (pN 5 Vy.nd) Wf)))))
  (Ze (Y6 PassesOwn.leaving rfl (Xh rfl T.zk8 (Za (Zn (cL K) (by rfl) T.zkq PySem.boot_len (Za (pv 2) Zd)) Zd)) (pN 6 Vy.nd)
   (Ze (Z5 (Zo V1 (pI (iL K) (pv 3) (pv 6)) Y5 (Zw _))
    (Zb (Ys hu (pv 1) (Ye (Za (pI (iL K) (pv 3) (pv 6)) (Za (pI (iU K) (pI (iL K) (pv 2) (pv 6)) Zi) Zd))) Xq rfl)
    (Ze (Ys hu (pv 1) (Ye (Za (pI (iL K) (pv 3) (pv 6)) (Za (pI (iU K) (pI (iL K) (pv 2) (pv 6)) Zi) Zd))) Xq rfl)))
    Zr)))))
 (Ze (Zm (pv 1))))),?_⟩
 obtain⟨lp,lo,lv,dv,li,lg,lm,pts,ots,vts,mts,a1,a2,a3,a4,a5,a6,a7,a8,a9,b1,b2,b3,o1,o2,o3,o4,o5,o6⟩:=PA;refine fun m fm=>?_
 have s1:=Zf (o:=.dT []) fm;have m1:(upd H m (.dT [])) m=some (.dT []):=Zc;generalize upd H m (.dT [])=H1 at s1 m1 ⊢
 walk_at "if";refine⟨_,rfl,d,_,rfl,DGet.k (k:=.inr "over") (s1 _ _ a1),?_⟩;refine⟨_,rfl,d,_,rfl,DGet.k (k:=.inr "over") (s1 _ _ a1),lv,vts,rfl,.inl (SqL.of (s1 _ _ a6)),_,rfl,d,_,rfl,DGet.k (k:=.inr "rest") (s1 _ _ a1),_,_,rfl,rfl,_,_,rfl,_,rfl,lv,vts,rfl,SqL.of (s1 _ _ a6),fun c fc=>?_⟩
 have e0:=Bb vts vts.length P0.rest;rw[a7.length] at e0
 have ez:(vts.length:Int)=(P0.over.length:Int):=by rw[a7.length]
 rw[ez,e0];obtain⟨k0,hk0⟩:∃ k:Nat,k=((P0.over.length:Int)-P0.rest).toNat:=⟨_,rfl⟩
 rw[<- hk0];have s2:=Zf (o:=.lst (vts.drop k0)) fc;have c2:(upd H1 c (.lst (vts.drop k0))) c=some (.lst (vts.drop k0)):=Zc;have ncm:c≠m:=fun z=>by rw[z,m1] at fc;cases fc
 have OV:Xn ok (upd H1 c (.lst (vts.drop k0))) (vts.drop k0) (P0.over.drop k0):=(a7.drop k0).keep (fun x o _ z=>s2 _ _ (s1 _ _ z)) (fun x o z=>s2 _ _ (s1 _ _ z))
 have m2:=s2 _ _ m1;generalize upd H1 c (.lst (vts.drop k0))=H2 at s2 c2 OV m2 ⊢
 have hin:∀ s∈P0.over.drop k0,s∈P0.over:=fun s hs=>List.mem_of_mem_drop hs
 have hlen:(P0.over.drop k0).length<=100:=by rw[List.length_drop];have:=PO.1;omega
 generalize vts.drop k0=ds at c2 OV ⊢
 refine⟨c,rfl,⟨_,SqL.of c2⟩,Wb (K:=K) (a:=c) (xs:=ds) (fun i σ H'=>(∃ v1 v2 v3 v4 v5,σ=[some (.ref d),some (.ref m),v1,v2,v3,v4,v5])/\(∀ x o,H2 x=some o->x≠m->H' x=some o) /\
  ∃ kvs,H' m=some (.dT kvs)/\Q0 kvs (P0.over.drop k0) i 0/\kvs.length<=40*i) ⟨⟨_,_,_,_,_,rfl⟩,fun _ _ e _=>e,[],m2,.zero _,by simp⟩ (fun i σ H' _ ⟨_,k,_⟩=>SqL.of (k _ _ c2 ncm)) ?_ ?_⟩
 ·rintro i x σ H' hx ⟨⟨v1,v2,v3,v4,v5,rfl⟩,k2,kvs,hm,mi,kl⟩
  obtain⟨t,l,g,mm,y,ts,s,rfl,hs,ht,hl,tl,hg,_,_⟩:=OV.get hx;have htn:t≠m:=Yt ht m2 (by intro z;cases z)
  have hln:l≠m:=Yt hl m2 (by intro z;cases z)
  have hgn:g≠m:=Yt hg m2 (by intro z;cases z)
  refine⟨t,_,rfl,SqT.of (k2 _ _ ht htn),rfl,_,_,rfl,_,_,rfl,_,_,rfl,_,_,rfl,rfl,?_⟩;have hsz:=PO.2.2 s (hin s (z05 hs));have hi:i<ds.length:=(z0v.mp hx).1;have hdl:=OV.length;have tln:ts.length=s.ms.length:=by rw[tl.length,z0t]
  have rln:(Z3 s).length=s.ms.length:=by unfold Z3;rw[z2y,hsz.2.1,Nat.min_self]
  refine⟨_,rfl,l,ts,rfl,.inl (SqL.of (k2 _ _ hl hln)),_,rfl,by omega,by omega,Xv (fun j σ H'=>(∃ v,σ=[some (.ref d),some (.ref m),some (.ref l),some (.ref g),some (.ref mm),some (.ref y),v])/\(∀ x o,H2 x=some o->x≠m->H' x=some o) /\
   ∃ kvs,H' m=some (.dT kvs)/\Q0 kvs (P0.over.drop k0) i j/\kvs.length<=40*i+2*j) ⟨⟨_,rfl⟩,k2,kvs,hm,mi,by omega⟩ ?_ ?_⟩
  ·rintro j σ H3 hj ⟨⟨v,rfl⟩,k3,kvs3,hm3,mi3,kl3⟩
   rw[z1a] at hj
   rw[z18];have hj2:j<s.gv.length:=by omega
   have hg3:s.gv[j]?=some (s.gv[j]'hj2):=z0u hj2;have hone:=hsz.2.2 _ (z1s hj2);generalize s.gv[j]'hj2=xv at hg3 hone
   have ht3:ts[j]?=some (ts[j]'hj):=z0u hj;obtain⟨tj,mj,e1,hmj,htj⟩:=Nk tl ht3;rw[e1] at ht3
   have htjn:tj≠m:=Yt htj m2 (by intro z;cases z)
   have hr3:(Z3 s)[j]?=some (J0 mj xv):=by unfold Z3;rw[List.getElem?_zipWith,hmj,hg3]
   refine⟨_,rfl,_,rfl,g,_,_,_,rfl,rfl,SqL.of (k3 _ _ hg hgn),Z8 hg3,rfl,_,rfl,?_⟩;rcases hone with rfl|⟨w,rfl⟩
   ·refine iteF ?_
    exact⟨⟨_,rfl⟩,k3,kvs3,hm3,mi3.none hs hr3 rfl,by omega⟩
   ·refine iteT ?_
    refine⟨_,rfl,_,rfl,_,rfl,g,_,_,_,rfl,rfl,SqL.of (k3 _ _ hg hgn),Z8 hg3,?_⟩;have big:∀ n:Nat,n<=200000->n<sizeLine:=fun n hn=>z24 (z16 hn (by decide)) Td
    refine⟨_,rfl,_,rfl,l,_,_,_,rfl,rfl,SqL.of (k3 _ _ hl hln),Z8 ht3,tj,_,_,_,rfl,rfl,SqT.of (k3 _ _ htj htjn),rfl,sz2,fun t2 ht2=>⟨m,_,rfl,DPut.t (k:=[Sum.inl w,Sum.inl mj.1]) (by rw[Zh (Zg hm3 ht2)];exact hm3) Zc (big _ (by omega)),?_⟩⟩
    have k4:∀ x o,H2 x=some o->x≠m->upd (upd H3 t2 (.tup [.int w,.int mj.1])) m (.dT (putK kvs3 [Sum.inl w,Sum.inl mj.1] (.bl true))) x=some o:=fun x o e n=>by
     have:=k3 x o e n;rw[Zh n,Zh (Zg this ht2)];exact this
    have hm4:upd (upd H3 t2 (.tup [.int w,.int mj.1])) m (.dT (putK kvs3 [Sum.inl w,Sum.inl mj.1] (.bl true))) m=some (.dT (putK kvs3 [Sum.inl w,Sum.inl mj.1] (.bl true))):=Zc;have l4:=Y1 kvs3 ([Sum.inl w,Sum.inl mj.1]:List Key) (.bl true);generalize upd (upd H3 t2 (.tup [.int w,.int mj.1])) m (.dT (putK kvs3 [Sum.inl w,Sum.inl mj.1] (.bl true)))=H4 at k4 hm4 ⊢
    refine⟨_,rfl,_,rfl,_,rfl,g,_,_,_,rfl,rfl,SqL.of (k4 _ _ hg hgn),Z8 hg3,?_⟩;refine⟨_,rfl,_,rfl,l,_,_,_,rfl,rfl,SqL.of (k4 _ _ hl hln),Z8 ht3,tj,_,_,_,rfl,rfl,SqT.of (k4 _ _ htj htjn),rfl,sz2,fun t4 ht4=>⟨m,_,rfl,DPut.t (k:=[Sum.inl w,Sum.inl mj.2.1]) (by rw[Zh (Zg hm4 ht4)];exact hm4) Zc (big _ (by omega)),?_⟩⟩
    have l5:=Y1 (putK kvs3 ([Sum.inl w,Sum.inl mj.1]:List Key) (.bl true)) ([Sum.inl w,Sum.inl mj.2.1]:List Key) (.bl true);refine⟨⟨_,rfl⟩,fun x o e n=>?_,_,Zc,mi3.some hs hr3 rfl,by omega⟩
    have:=k4 x o e n;rw[Zh n,Zh (Zg this ht4)];exact this
  ·rintro σ H3 ⟨⟨v,rfl⟩,k3,kvs3,hm3,mi3,kl3⟩
   rw[z1a] at mi3 kl3
   rw[tln,<- rln] at mi3
   exact⟨⟨_,_,_,_,_,rfl⟩,k3,kvs3,hm3,mi3.next hs,by omega⟩
 ·rintro σ H' ⟨⟨v1,v2,v3,v4,v5,rfl⟩,k2,kvs,hm,mi,kl⟩
  rw[OV.length] at mi
  refine⟨_,rfl,h m kvs H' hm (mi.all hk0) (fun x o e=>k2 _ _ (s2 _ _ (s1 _ _ e)) (Zg e fm)) fm⟩
noncomputable abbrev R1:Stmt:=top 71
theorem We:Zl ["_law_page","_law_met_here","_law_person","_law_match","_law_number","_law_grade","_law_club","_law_home","_law_guest","_law_asked","_law_told"] ["_law_page","_law_met_here","_law_person","_law_match"] (Zj R1):=fnS
theorem Bh(F:Fun K "_law_bars" "_law_bars" R1 f fd)(T:Tx K mg a):Z6 P w K mg base (CX1 P w) 1 f fd ["_law_page","_law_met_here","_law_person","_law_match"] (Ig K):=by
 refine F.okX We (by walk_at "ar") fun _ _ _ _ H _ Q E hr h=>?_
 obtain⟨ok,d,m,t1,t2,P0,kvs,x,y,rfl,PA,hm,mo,h1,h2,h⟩:=h;have hu:=Wm hr;refine⟨_,(Zb (Mg (pv 2) (Wg (K:=K) (n:=3) rfl rfl (Zy (pN 4 We.nd) (Zy (pN 5 We.nd) (Zy (pN 6 We.nd) Wf)))))
 (Zb (Mg (pv 3) (Wg (K:=K) (n:=3) rfl rfl (Zy (pN 7 We.nd) (Zy (pN 8 We.nd) (Zy (pN 9 We.nd) Wf)))))
 (Zb (pS 10 We.nd (Ya Zd))
 (Zb (Z5 (Zo (E2 (K:=K) rfl hr.units) (Ye (Za (Zv Xc (Zn (cL K) (by rfl) T.zkq PySem.boot_len (Za (pD hu (pv 0) Zs) Zd)) Zi) (Za (pv 4) Zd))) (pD hu (pv 0) Zs) (by with_unfolding_all rfl))
  (Ze (Yu (pv 10) Zs))
  Zr)
 (Zb (Z5 (Zo Ra (pv 9) (pv 5) (Zw _))
  (Ze (Yu (pv 10) Zs))
  Zr)
 (Zb (Z5 (PW.pt (V0 (Zo W0 (pv 6) (pv 7) (Zw _)) (Ws (Zo W0 (pv 6) (pv 8) (Zw _)))))
  (Ze (Yu (pv 10) Zs))
  Zr)
 (Zb (Z5 (PW.pt (V0 (S6 (Qq hu (Ye (Za (pv 4) (Za (pv 7) Zd))) (pv 1))) (Ws (S6 (Qq hu (Ye (Za (pv 4) (Za (pv 8) Zd))) (pv 1))))))
  (Ze (Yu (pv 10) Zs))
  Zr)
 (Ze (Zm (pv 10)))))))))),?_⟩
 show let y1:TS:=_;let y2:TS:=Z2 _ y1;let y3:TS:=Z2 _ y2;let y4:TS:=Z2 _ y3;let y5:TS:=Z2 _ y4;let y6:TS:=Z2 _ y5;let y7:TS:=Z2 _ y6;Z2 _ y7 _ _ _;intro y1 y2 y3 y4 y5 y6 y7;obtain⟨n,g,c⟩:=x;obtain⟨ho,gu,as⟩:=y;have h1:H t1=some (.tup [.int n,.int g,.int c]):=h1;have h2:H t2=some (.tup [.int ho,.int gu,.int as]):=h2;obtain⟨lp,lo,lv,dv,li,lg,lm,pts,ots,vts,mts,a1,a2,a3,a4,a5,a6,a7,a8,a9,c1,c2,c3,o1,o2,o3,o4,o5,o6⟩:=PA;refine⟨_,rfl,t1,_,rfl,SqT.of h1,rfl,_,_,rfl,_,_,rfl,_,_,rfl,rfl,?_⟩;refine⟨_,rfl,t2,_,rfl,SqT.of h2,rfl,_,_,rfl,_,_,rfl,_,_,rfl,rfl,?_⟩;refine⟨by show 0<=sizeLine;decide,fun l hl=>?_⟩
 have s1:=Zf (o:=.lst []) hl;have q1:upd H l (.lst []) l=some (.lst (([]:List Str).map V.str)):=Zc;generalize upd H l (.lst [])=H1 at s1 q1
 walk_at "if";have b1:=Mt (decide (((P0.over.length:Int)+1,n)∈P0.out)) "away";have b2:=Mt (decide (g<as)) "grade";have b3:=Mt (decide (c=ho)||decide (c=gu)) "club"
 refine Sn (b:=decide (((P0.over.length:Int)+1,n)∈P0.out)) (H0:=H) (fun Q q=>?_) hl s1 q1 (by decide) rfl (fun H2 s2 q2 _=>?_)
 ·refine⟨_,rfl,d,_,rfl,DGet.k (k:=.inr "over") (s1 _ _ a1),lv,vts,rfl,.inl (SqL.of (s1 _ _ a6)),_,_,rfl,rfl,_,rfl,sz2,fun t ht=>?_⟩
  have s3:=Zf (o:=.tup [.int ((vts.length:Int)+1),.int n]) ht;refine⟨_,rfl,d,_,rfl,DGet.k (k:=.inr "out") (s3 _ _ (s1 _ _ a1)),t,lo,ots,_,_,P0.out,rfl,rfl,SqT.of Zc,SqL.of (s3 _ _ (s1 _ _ a4)),(a5.mono fun _ _ z=>s3 _ _ (s1 _ _ z)),_,rfl,?_⟩
  rw[a7.length] at s3 ⊢
  exact q _ s3
 rw[List.nil_append] at q2
 have din:∀ (H3:Hp) (cc:Int) (Q3:Bool->Hp->Prop),Same H H3->(∀ H4,Same H3 H4->Q3 (Sm (P0.over.map Z3) n cc P0.rest) H4)->∀ t,H3 t=none->Q3 (valV kvs [Sum.inl n,Sum.inl cc]).isSome (upd H3 t (.tup [.int n,.int cc])):=fun H3 cc Q3 s3 q3 t ht=>by
  rw[mo n cc];exact q3 _ (Zf ht)
 refine Sn (b:=decide (g<as)) (H0:=H) (Rv fun Q q=>⟨_,rfl,_,rfl,_,_,rfl,rfl,_,rfl,q⟩) hl s2 q2 (by omega) rfl (fun H3 s3 q3 _=>?_)
 refine Sn (b:=decide (c=ho)||decide (c=gu)) (H0:=H) (Rv (Qt (fun Q q=>⟨_,rfl,_,rfl,rfl,_,rfl,Qs▸q⟩) (fun Q q=>⟨_,rfl,_,rfl,rfl,_,rfl,Qs▸q⟩))) hl s3 q3 (by rw[z0w];omega) rfl (fun H4 s4 q4 _=>?_)
 refine Sn (b:=Sm (P0.over.map Z3) n ho P0.rest||Sm (P0.over.map Z3) n gu P0.rest) (H0:=H) (Cd (fun Q q=>?_) (fun H5 s5 Q q=>?_)) hl s4 q4 (by rw[z0w,z0w];omega) rfl (fun H5 s5 q5 _=>?_)
 ·exact⟨_,rfl,_,rfl,sz2,fun t ht=>⟨_,rfl,m,_,rfl,DGet.t (k:=[Sum.inl n,Sum.inl ho]) (Zf ht _ _ (s4 _ _ hm)) Zc,_,rfl,din _ ho _ s4 q t ht⟩⟩
 ·exact⟨_,rfl,_,rfl,sz2,fun t ht=>⟨_,rfl,m,_,rfl,DGet.t (k:=[Sum.inl n,Sum.inl gu]) (Zf ht _ _ (s5 _ _ (s4 _ _ hm))) Zc,_,rfl,din _ gu _ (s4.trans s5) q t ht⟩⟩
 refine⟨_,rfl,h l H5 ?_ s5 hl⟩;unfold Vx whyS;rw[q5,z2l,z2l]
noncomputable abbrev R4:Stmt:=top 72
theorem Tf:Zl ["_law_page","_law_met_here","_law_may","_law_match","_law_fit"] ["_law_page"] (Zj R4):=fnS
theorem Bi(F:Fun K "_law_open" "_law_open" R4 f fd)(T:Tx K mg a)(zpu:Z9 P w K mg base "_law_met" 1 ["_law_page"] (za6 K))(zmo:Z9 P w K mg base "_law_bars" 1 ["_law_page","_law_met_here","_law_person","_law_match"] (Ig K)):Z6 P w K mg base (CX1 P w) 2 f fd ["_law_page"] (Ao K):=by
 refine F.okX Tf (by walk_at "ar") fun _ _ _ _ H _ Q E hr h=>?_
 obtain⟨ok,d,P0,ms,rfl,PA,PO,hms,hl1,hl2,h⟩:=h;have hu:=Wm hr;refine⟨_,(Zb (pS 1 Tf.nd (pF zpu hr (Za (pv 0) Zd)))
 (Zb (pS 2 Tf.nd (Ya Zd))
 (Zb (Y6 PassesOwn.leaving rfl (Yh (K:=K) rfl (pD hu (pv 0) Zs)) (pN 3 Tf.nd)
  (Zb (Te (i:=4) Tf.nd rfl rfl rfl (cT ["_law_page","_law_met_here","_law_match"] [0,1,3]) (Yh (K:=K) rfl (pD hu (pv 0) Zs)) (fun _ _ _ _ _=>Pf (Zo (zaj (K:=K) rfl hr.units) (zai zmo (hr.mono (by decide)) D7 rfl (Za (pv 1) (Za (pv 2) (Za (pv 0) (Za (pv 3) Zd))))) (Ya Zd) (Zw _))) (fun _ _ _ _ _=>(pv 0)))
  (Ze (Yu (pv 2) (Ua rfl (cT [] []) (Yh (K:=K) rfl (pv 4)) (fun _ _ _ _ _=>V3) (fun _ _ _ _ _=>(pI (iU K) (pv 0) Zi)))))))
 (Ze (Zm (pv 2)))))),?_⟩
 refine⟨_,rfl,ok,d,P0,rfl,PA,PO,fun m kvs H1 hm mo s1 fm=>?_⟩
 obtain⟨lp,lo,lv,dv,li,lg,lm,pts,ots,vts,mts,a1,a2,a3,a4,a5,a6,a7,a8,a9,c1,c2,c3,o1,o2,o3,o4,o5,o6⟩:=id PA;refine⟨by show 0<=sizeLine;decide,fun r hr'=>?_⟩
 have s2:=s1.trans (Zf (o:=.lst []) hr');have q2:upd H1 r (.lst []) r=some (.lst []):=Zc;have hm2:upd H1 r (.lst []) m=some (.dT kvs):=Zf hr' _ _ hm;have fr:=s1.free hr';walk_at "if";generalize upd H1 r (.lst [])=H2 at s2 q2 hm2 ⊢
 rw[hms] at a9
 obtain⟨ll,ts,rfl,hll,tl,_⟩:=a9;have htl:ts.length=ms.length:=by rw[tl.length,z0t]
 have hpl:pts.length=P0.ppl.length:=by rw[a3.length,z0t]
 have hmr:m≠r:=fun z=>by rw[z,q2] at hm2;cases hm2
 refine⟨_,rfl,d,_,rfl,DGet.k (k:=.inr "listed") (s2 _ _ a1),ll,rfl,⟨_,SqL.of (s2 _ _ hll)⟩,Wb (K:=K) (a:=ll) (xs:=ts) (fun i σ H'=>(∃ v1 v2,σ=[some (.ref d),some (.ref m),some (.ref r),v1,v2])/\(∀ x o,H2 x=some o->x≠r->H' x=some o) /\
  ∃ ls,H' r=some (.lst (ls.map V.ref))/\ILs H' ls ((Qh P0 ms).take i)/\ls.length=i/\∀ x∈ls,H x=none/\x≠r) ⟨⟨_,_,rfl⟩,fun _ _ e _=>e,[],q2,.nil,rfl,by simp⟩ (fun i σ H' _ ⟨_,k,_⟩=>SqL.of (k _ _ (s2 _ _ hll) (Zg hll fr))) ?_ ?_⟩
 ·rintro i x σ H' hx ⟨⟨v1,v2,rfl⟩,k2,ls,hr3,il,hln,hfr⟩
  obtain⟨t,mm,rfl,hmm,ht⟩:=Nk tl hx;have sh:Same H H':=fun x o e=>k2 _ _ (s2 _ _ e) (Zg e fr)
  refine⟨_,rfl,d,_,rfl,DGet.k (k:=.inr "people") (sh _ _ a1),lp,rfl,⟨_,SqL.of (sh _ _ a2)⟩,?_⟩;refine Wq (K:=K) (a:=lp) (xs:=pts) (fun i ys H''=>Same H' H''/\Yb H'' ys (((P0.ppl.take i).filter fun x=>(Vx P0 x mm).isEmpty).map pV)) ⟨Same.refl _,.nil⟩ (fun i ys H'' _ ⟨z,_⟩=>SqL.of (z _ _ (sh _ _ a2))) (szN (by omega)) (fun i ys H' ⟨_,e⟩=>by rw[e.length,z0t];exact z09 (z1n _ _) (z1z _ _)) ?_ ?_
  ·rintro j x ys H3 hx3 ⟨s3,tl3⟩
   obtain⟨tp,pp,rfl,hpp,htp⟩:=Nk a3 hx3;have sh3:=sh.trans s3;refine⟨_,rfl,_,rfl,_,rfl,_,rfl,ok,d,m,tp,t,P0,kvs,pp,mm,rfl,PA.same sh3,s3 _ _ (k2 _ _ hm2 hmr),mo,sh3 _ _ htp,sh3 _ _ ht,fun lw H4 hlw s4 fw=>?_⟩
   refine⟨by show 0<=sizeLine;decide,fun le hle=>?_⟩
   have s5:=s4.trans (Zf (o:=.lst []) hle);refine⟨_,_,.lst (SqL.of (Zf hle _ _ hlw)) (Oy _),.lst (SqL.of Zc) .nil,za7 _ za8,Es,_,rfl,?_⟩;generalize upd H4 le (.lst [])=H5 at s5 ⊢
   rw[if_neg (show ¬ false=true by decide),Et]
   have e:P0.ppl.take (j+1)=P0.ppl.take j++[pp]:=Y8 hpp;rw[e,z2c,z0y];refine itB (fun hb=>?_) (fun hb=>?_)
   ·refine⟨_,rfl,s3.trans s5,?_⟩
    rw[z2f (p:=fun x=>(Vx P0 x mm).isEmpty) (a:=pp) hb,z2s]
    exact(tl3.same s5).snoc (s5 _ _ (sh3 _ _ htp))
   ·refine⟨s3.trans s5,?_⟩
    rw[z2e (p:=fun x=>(Vx P0 x mm).isEmpty) (a:=pp) (by rw[hb];decide),z2s,z23,z2j]
    exact tl3.same s5
  ·rintro ys H3 ⟨s3,tl3⟩ lf hlf
   rw[hpl,z1b] at tl3
   have s4:=s3.trans (Zf (o:=.lst ys) hlf);have q4:upd H3 lf (.lst ys) lf=some (.lst ys):=Zc;have tl4:=tl3.same (Zf (o:=.lst ys) hlf);show Wt 4 (V.ref lf) _ (upd H3 lf (.lst ys)) _;generalize upd H3 lf (.lst ys)=H4 at s4 q4 tl4 ⊢
   have hfl:ys.length<=100:=by rw[tl3.length,z0t];exact z09 (z1n _ _) hl2
   walk_at "if";refine⟨_,rfl,r,_,rfl,s4 _ _ hr3,_,rfl,lf,rfl,⟨_,SqL.of q4⟩,Wq (K:=K) (a:=lf) (xs:=ys) (fun i zs H''=>Same H4 H''/\zs=((P0.ppl.filter fun x=>(Vx P0 x mm).isEmpty).take i).map fun x=>V.int x.1) ⟨Same.refl _,rfl⟩ (fun i zs H'' _ ⟨z,_⟩=>SqL.of (z _ _ q4)) (szN (by omega)) (fun i zs H'' ⟨_,e⟩=>by rw[e,z0t];exact z1z _ _) ?_ ?_⟩
   ·rintro j x zs H5 hx5 ⟨s5,rfl⟩
    obtain⟨tp,pp,rfl,hpp,htp⟩:=Nk tl4 hx5;unfold tYes;dsimp only;rw[if_pos rfl];refine⟨_,rfl,tp,_,_,_,rfl,rfl,SqT.of (s5 _ _ htp),(show atI (pV pp) 0=some _ from rfl),s5,?_⟩
    rw[Y8 hpp,z0y];rfl
   ·rintro zs H5 ⟨s5,rfl⟩ ln hln'
    have hyl:ys.length=(P0.ppl.filter fun x=>(Vx P0 x mm).isEmpty).length:=by rw[tl3.length,z0t]
    rw[hyl,z1b];have er:(P0.ppl.filter fun x=>(Vx P0 x mm).isEmpty).map (fun x=>V.int x.1)=((P0.ppl.filter fun x=>(Vx P0 x mm).isEmpty).map (·.1)).map V.int:=by rw[z2m];rfl
    rw[er];have s6:=(s4.trans s5).trans (Zf (o:=.lst (((P0.ppl.filter fun x=>(Vx P0 x mm).isEmpty).map (·.1)).map V.int)) hln')
    have q6:upd H5 ln (.lst (((P0.ppl.filter fun x=>(Vx P0 x mm).isEmpty).map (·.1)).map V.int)) ln=some (.lst (((P0.ppl.filter fun x=>(Vx P0 x mm).isEmpty).map (·.1)).map V.int)):=Zc
    have fl:H' ln=none:=(s4.trans s5).free hln';dsimp only;generalize upd H5 ln (.lst (((P0.ppl.filter fun x=>(Vx P0 x mm).isEmpty).map (·.1)).map V.int))=H6 at s6 q6 ⊢
    refine⟨_,s6 _ _ hr3,szN (by rw[z0t];have:=(z0v.mp hx).1;omega),⟨_,_,rfl⟩,fun x o e n=>by rw[Zh n];exact s6 _ _ (k2 _ _ e n),ls++[ln],by rw[z0y];exact Zc,?_,by rw[z0w,hln];rfl,fun y hy=>?_⟩
    ·have e:(Qh P0 ms).take (i+1)=(Qh P0 ms).take i++[(P0.ppl.filter fun x=>(Vx P0 x mm).isEmpty).map (·.1)]:=by
      unfold Qh;rw[z2a,z0x,hmm];rfl
     rw[e];refine ILs.snoc (by rw[Zh (Zg hr3 fl).symm];exact q6) (il.keep fun x hx' o q=>?_)
     rw[Zh (hfr x hx').2];exact s6 _ _ q
    ·rcases z06.mp hy with z|z
     ·exact hfr y z
     ·rw[z0z.mp z];exact⟨sh.free fl,(Zg hr3 fl).symm⟩
 ·rintro σ H' ⟨⟨v1,v2,rfl⟩,k2,ls,hr3,il,hln,hfr⟩
  have sh:Same H H':=fun x o e=>k2 _ _ (s2 _ _ e) (Zg e fr)
  have hml:(Qh P0 ms).length=ms.length:=by unfold Qh;rw[z0t]
  rw[htl,<- hml,z1b] at il
  exact⟨_,rfl,h r ls H' hr3 il sh fr fun x hx=>(hfr x hx).1⟩
noncomputable abbrev Sy:Stmt:=top 73
theorem T7:Zl ["_law_pages","_law_deed_here","_law_page","_law_at_here","_law_kept"] ["_law_pages","_law_deed_here"] (Zj Sy):=fnS
theorem Dk(F:Fun K "_law_paged" "_law_paged" Sy f fd)(T:Tx K mg a)(zmy:Z9 P w K mg base "_law_open" 2 ["_law_page"] (Ao K)):Z6 P w K mg base (CX1 P w) 3 f fd ["_law_pages","_law_deed_here"] (E3 K):=by
 refine F.okX T7 (by walk_at "ar") fun _ _ _ _ H _ Q E hr h=>?_
 obtain⟨ok,l,t,ds,d,P0,D,rfl,hl,PA,hD,PO,hpl,hol,hdl,hcl,h⟩:=h;have hu:=Wm hr;refine⟨_,(Zb (pS 2 T7.nd (Y7 Al (by rfl) T.zp0 PyProof.Rows.boot_dict (Za (pI (iL K) (pv 0) (Lj Qn Zi)) Zd)))
 (Zb (pS 3 T7.nd (Zv Xc (Zn (cL K) (by rfl) T.zkq PySem.boot_len (Za (pD hu (pv 2) Zs) Zd)) Zi))
 (Zb (Z5 (Zo W0 (pI (iU K) (pv 1) Zi) Zs (Zw _))
  (Ze (Zm (Jn (Jq (K:=K) rfl) (pv 0) Ed (Ee (Lj Qn Zi)))))
  Zr)
 (Zb (Z5 (Zo W0 (pI (iU K) (pv 1) Zi) Zs (Zw _))
  (Zb (pS 4 T7.nd (Ye (Za (pD hu (pv 2) Zs) (Za (pD hu (pv 2) Zs) (Za (pD hu (pv 2) Zs) (Za (pF zmy hr (Za (pv 2) Zd)) Zd))))))
  (Zb (Ys hu (pv 2) Zs (Zv Jo (pD hu (pv 2) Zs) (Ya (Za (pv 4) Zd))) rfl)
  (Zb (Ys hu (pv 2) Zs Y5 rfl)
  (Zb (Ys hu (pv 2) Zs (Ya Zd) rfl)
  (Zb (Ys hu (pv 2) Zs (Ya Zd) rfl)
  (Ze (Zm (Ya (Za (pv 2) Zd)))))))))
  Zr)
 (Zb (Z5 (Zo W0 (pI (iU K) (pv 1) Zi) Zs (Zw _))
  (Zb (Ys hu (pv 2) Zs (Zv Jo (pD hu (pv 2) Zs) (Ya (Za (Ye (Za (pI (iU K) (pv 1) Zi) (Za (pI (iU K) (pv 1) Zi) (Za (pI (iU K) (pv 1) Zi) Zd)))) Zd))) rfl)
  (Ze (Ys hu (pv 2) Zs (Ye (Za Zs (Za (pI (iU K) (pv 1) Zi) (Za (pv 3) Zd)))) rfl)))
  (Ze (Z5 (Zo W0 (pI (iU K) (pv 1) Zi) Zs (Zw _))
   (Zb (Ys hu (pv 2) Zs (pI (iU K) (pv 1) Zi) rfl)
   (Ze (Ys hu (pv 2) Zs (Ye (Za Zs (Za (Zn (cL K) (by rfl) T.zkq PySem.boot_len (Za (pI (iU K) (pv 1) Zi) Zd)) (Za (pv 3) Zd)))) rfl)))
   (Zb (Ys hu (pv 2) Zs (Zv Jo (pD hu (pv 2) Zs) (Ya (Za (Ye (Za (pI (iU K) (pv 1) Zi) (Za (pI (iU K) (pv 1) Zi) Zd))) Zd))) rfl)
   (Ze (Ys hu (pv 2) Zs (Ye (Za Zs (Za (pI (iU K) (pv 1) Zi) (Za (pI (iU K) (pv 1) Zi) Zd)))) rfl))))))
 (Ze (Zm (Zv Jo (pv 0) (Ya (Za (pv 2) Zd)))))))))),?_⟩
 show let y1:TS:=_;let y2:TS:=Z2 _ y1;let y3:TS:=Z2 _ y2;let y4:TS:=Z2 _ y3;let y5:TS:=Z2 _ y4;let y6:TS:=_;let y7:TS:=Z2 _ y6;let y8:TS:=Z2 (Br _ (Z2 _ y5) _) y7;let y9:TS:=Z2 _ y8;let y10:TS:=Z2 _ y9;Z2 _ y10 _ _ _;intro y1 y2 y3 y4 y5 y6 y7 y8 y9 y10;obtain⟨lp,lo,lv,dv,li,lg,lm,a1,PB,okd⟩:=id PA.split;have hat:atI ((ds++[d]).map V.ref) (-1)=some (V.ref d):=by rw[z0y];exact L2.atI_last _ _
 refine⟨_,rfl,_,rfl,l,_,_,_,rfl,rfl,SqL.of hl,hat,d,_,rfl,.inl a1,fun d' fd'=>?_⟩
 obtain⟨ok1,hok1⟩:∃ ok1:Addr->Prop,ok1=fun x=>ok x\/H x=none:=⟨_,rfl⟩
 have okf:∀ x,H x=none->ok1 x:=fun x hx=>by rw[hok1];exact .inr hx
 have oko:∀ x,ok x->ok1 x:=fun x hx=>by rw[hok1];exact .inl hx
 rw[<- hok1] at h
 have s1:=Zf (o:=.dK (pgF P0.len P0.rest lp lo lv dv li lg lm)) fd';have q1:upd H d' (.dK (pgF P0.len P0.rest lp lo lv dv li lg lm)) d'=some (.dK (pgF P0.len P0.rest lp lo lv dv li lg lm)):=Zc;have PB1:=(PB.imp (fun x _ o=>oko x o)).keepL (.of s1)
 walk_at "if";generalize upd H d' (.dK (pgF P0.len P0.rest lp lo lv dv li lg lm))=H1 at s1 q1 PB1 ⊢
 have PA1:PgAt ok1 H1 d' P0:=.join q1 PB1 (okf _ fd');obtain⟨vts,v1,v2,v3⟩:=PB1.vv;refine⟨_,rfl,d',_,rfl,DGet.k (k:=.inr "over") q1,lv,vts,rfl,.inl (SqL.of v1),_,_,rfl,rfl,?_⟩;rw[v2.length];have wr:∀ {H:Hp} {lp lo lv:Addr} {dv li:V} {lg lm:Addr} {x:V} {k:Str},H d'=some (.dK (pgF P0.len P0.rest lp lo lv dv li lg lm))->DPut H d' (.str k) x (upd H d' (.dK (putK (pgF P0.len P0.rest lp lo lv dv li lg lm) (.inr k) x))):=fun q=>DPut.k (k:=.inr _) q zeu
 have sz0:([]:List V).length<=sizeLine:=z1j _;have sz1:∀ x:V,[x].length<=sizeLine:=fun x=>by show 1<=sizeLine;rw[sizeLine_eq];decide
 walk_at "if";cases D with
 | back =>
   have ht:H t=some (.tup [.str "take back"]):=hD;refine⟨_,rfl,t,_,_,_,rfl,rfl,SqT.of (s1 _ _ ht),rfl,rfl,_,rfl,?_⟩;rw[C8];refine iteT ?_;refine⟨_,rfl,_,rfl,_,rfl,l,_,rfl,SqL.of (s1 _ _ hl),fun c fc=>?_⟩
   rw[z0y,show Ho (ds.map V.ref++[d].map V.ref) none (some (-1))=ds.map V.ref from zew _ _]
   exact h c d' _ Zc (fun z=>absurd rfl z) (s1.trans (Zf fc)) (s1.free fc) fd'
 | close =>
   have ht:H t=some (.tup [.str "close"]):=hD;refine⟨_,rfl,t,_,_,_,rfl,rfl,SqT.of (s1 _ _ ht),rfl,rfl,_,rfl,?_⟩;rw[Rj (by decide +kernel)]
   refine iteF (Zz ?_);refine⟨_,rfl,t,_,_,_,rfl,rfl,SqT.of (s1 _ _ ht),rfl,rfl,_,rfl,?_⟩;rw[C8];refine iteT ?_;obtain⟨ms,hms,hml⟩:=hcl rfl;refine⟨_,rfl,d',_,rfl,DGet.k (k:=.inr "listed") q1,_,rfl,d',_,rfl,DGet.k (k:=.inr "goes") q1,_,rfl,d',_,rfl,DGet.k (k:=.inr "moves") q1,_,rfl,ok1,d',P0,ms,rfl,PA1,PO,hms,hml,hpl,fun ly ls H2 hly ily s2 fly fls=>?_⟩
   obtain⟨ll,ts,rfl,b1,b2,b3⟩:∃ l ts,li=.ref l/\H1 l=some (.lst ts)/\Yb H1 ts (ms.map pV)/\ok1 l:=by have:=PB1.li;rw[hms] at this;exact this
   obtain⟨mts,c1,c2,c3⟩:=PB1.mm;obtain⟨g1,g2⟩:=PB1.gg;have sh2:=s1.trans s2;refine⟨by show 4<=sizeLine;rw[sizeLine_eq];decide,fun tk ftk=>?_⟩
   have s3:=s2.trans (Zf (o:=.tup [.ref ll,.ref lg,.ref lm,.ref ly]) ftk);have t3:=Zc (H:=H2) (a:=tk) (o:=.tup [.ref ll,.ref lg,.ref lm,.ref ly]);have y3:=Zf (o:=.tup [.ref ll,.ref lg,.ref lm,.ref ly]) ftk _ _ hly;have i3:=ily.same (Zf (o:=.tup [.ref ll,.ref lg,.ref lm,.ref ly]) ftk);generalize upd H2 tk (.tup [.ref ll,.ref lg,.ref lm,.ref ly])=H3 at s3 t3 y3 i3 ⊢
   walk_at "if";refine⟨_,rfl,d',_,rfl,DGet.k (k:=.inr "over") (s3 _ _ q1),_,rfl,sz1 _,fun l1 f1=>?_⟩
   have s4:=Zf (o:=.lst [.ref tk]) f1;have t4:=Zc (H:=H3) (a:=l1) (o:=.lst [.ref tk]);generalize upd H3 l1 (.lst [.ref tk])=H4 at s4 t4 ⊢
   have s04:=s3.trans s4;refine⟨lv,l1,vts,_,rfl,rfl,s04 _ _ v1,t4,szN (by rw[v2.length];have:=PO.1;show P0.over.length+1<=1000;omega),fun lv' fv'=>?_⟩
   have s5:=s4.trans (Zf (o:=.lst (vts++[.ref tk])) fv');have t5:=Zc (H:=H4) (a:=lv') (o:=.lst (vts++[.ref tk]));generalize upd H4 lv' (.lst (vts++[.ref tk]))=H5 at s5 t5 ⊢
   have s15:=s3.trans s5;refine⟨_,rfl,d',_,rfl,wr (s15 _ _ q1),?_⟩;rw[zet];have s6:=Yc (o:=.dK (pgF P0.len P0.rest lp lo lv' dv (.ref ll) lg lm)) fd' (s1.trans s15);have q6:=Zc (H:=H5) (a:=d') (o:=.dK (pgF P0.len P0.rest lp lo lv' dv (.ref ll) lg lm));have k6:=Xt.dict (s15 _ _ q1) (kvs':=pgF P0.len P0.rest lp lo lv' dv (.ref ll) lg lm);generalize upd H5 d' (.dK (pgF P0.len P0.rest lp lo lv' dv (.ref ll) lg lm))=H6 at s6 q6 k6 ⊢
   refine⟨_,rfl,d',_,rfl,wr q6,?_⟩;rw[Ia];have s7:=Yc (o:=.dK (pgF P0.len P0.rest lp lo lv' dv .non lg lm)) fd' s6;have q7:=Zc (H:=H6) (a:=d') (o:=.dK (pgF P0.len P0.rest lp lo lv' dv .non lg lm));have k7:=k6.trans (Xt.dict q6 (kvs':=pgF P0.len P0.rest lp lo lv' dv .non lg lm));generalize upd H6 d' (.dK (pgF P0.len P0.rest lp lo lv' dv .non lg lm))=H7 at s7 q7 k7 ⊢
   refine⟨sz0,fun lg' fg'=>?_⟩
   have s8:=Zf (o:=.lst []) fg';have t8:=Zc (H:=H7) (a:=lg') (o:=.lst []);generalize upd H7 lg' (.lst [])=H8 at s8 t8 ⊢
   refine⟨_,rfl,d',_,rfl,wr (s8 _ _ q7),?_⟩;rw[Ba];have s9:=Yc (o:=.dK (pgF P0.len P0.rest lp lo lv' dv .non lg' lm)) fd' (s7.trans s8);have q9:=Zc (H:=H8) (a:=d') (o:=.dK (pgF P0.len P0.rest lp lo lv' dv .non lg' lm));have k9':=Xt.dict (s8 _ _ q7) (kvs':=pgF P0.len P0.rest lp lo lv' dv .non lg' lm);generalize upd H8 d' (.dK (pgF P0.len P0.rest lp lo lv' dv .non lg' lm))=H9 at s9 q9 k9' ⊢
   have k9:=(k7.trans (.of s8)).trans k9';refine⟨sz0,fun lm' fm'=>?_⟩
   have s10:=Zf (o:=.lst []) fm';have t10:=Zc (H:=H9) (a:=lm') (o:=.lst []);generalize upd H9 lm' (.lst [])=H10 at s10 t10 ⊢
   refine⟨_,rfl,d',_,rfl,wr (s10 _ _ q9),?_⟩;rw[zce];have s11:=Yc (o:=.dK (pgF P0.len P0.rest lp lo lv' dv .non lg' lm')) fd' (s9.trans s10);have q11:=Zc (H:=H10) (a:=d') (o:=.dK (pgF P0.len P0.rest lp lo lv' dv .non lg' lm'));have k11':=Xt.dict (s10 _ _ q9) (kvs':=pgF P0.len P0.rest lp lo lv' dv .non lg' lm');generalize upd H10 d' (.dK (pgF P0.len P0.rest lp lo lv' dv .non lg' lm'))=H11 at s11 q11 k11' ⊢
   have k11:=(k9.trans (.of s10)).trans k11';refine⟨_,rfl,sz1 _,fun lr flr=>?_⟩
   have s12:=Zf (o:=.lst [.ref d']) flr;have t12:=Zc (H:=H11) (a:=lr) (o:=.lst [.ref d']);have k12:=k11.trans (.of s12);have k1:=(Xt.of s15).trans k12;have k3:=(Xt.of s5).trans k12;generalize upd H11 lr (.lst [.ref d'])=H12 at s12 t12 k12 k1 k3 ⊢
   refine h lr d' H12 t12 (fun _=>?_) (s11.trans s12) (s11.free flr) fd'
   have b:=PB1.keepL k1;have e:U1 P0 .close={ P0 with over:=P0.over++[⟨ms,Qh P0 ms,P0.gv,P0.mv⟩],lis:=none,gv:=[],mv:=[] }:=by unfold U1;rw[hms];rfl
   rw[e];have fr2:∀ x,H2 x=none->H x=none:=fun x hx=>sh2.free hx
   refine .join (P:={ P0 with over:=P0.over++[⟨ms,Qh P0 ms,P0.gv,P0.mv⟩],lis:=none,gv:=[],mv:=[] }) (s12 _ _ q11) ⟨b.pp,b.oo,⟨_,k12.1 _ _ t5,Xn.snoc (s:=⟨ms,Qh P0 ms,P0.gv,P0.mv⟩) (k3.2 _ _ t3) (k1.1 _ _ b1) (b2.mono k1.2) (k1.1 _ _ g1) (k1.1 _ _ c1) (c2.keepL k1) (k3.1 _ _ y3) (ILs.keepL k3 i3) ⟨b3,g2,c3,okf _ (s1.free fly),fun x hx=>okf _ (s1.free (fls x hx))⟩ (v2.keepL k1),okf _ (s1.free (s04.free fv'))⟩,b.dd,rfl,⟨?_,okf _ (s7.free fg')⟩,[],?_,.nil,okf _ (s9.free fm')⟩ (okf _ fd')
   ·exact s12 _ _ (k11'.1 _ _ (s10 _ _ (k9'.1 _ _ t8)))
   ·exact s12 _ _ (k11'.1 _ _ t10)
 | enrol n g c =>
   have ht:H t=some (.tup [.str "enrol",.int n,.int g,.int c]):=hD;have ht1:=s1 _ _ ht;have sz3:∀ x y z:V,[x,y,z].length<=sizeLine:=fun x y z=>by show 3<=sizeLine;rw[sizeLine_eq];decide
   refine⟨_,rfl,t,_,_,_,rfl,rfl,SqT.of ht1,rfl,rfl,_,rfl,?_⟩;rw[Rj (by decide +kernel)]
   refine iteF (Zz ?_);refine⟨_,rfl,t,_,_,_,rfl,rfl,SqT.of ht1,rfl,rfl,_,rfl,?_⟩;rw[Rj (by decide +kernel)]
   refine iteF (Zz ?_);refine⟨_,rfl,t,_,_,_,rfl,rfl,SqT.of ht1,rfl,rfl,_,rfl,?_⟩;rw[C8];refine iteT ?_;obtain⟨pts,p1,p2,p3⟩:=PB1.pp;refine⟨_,rfl,d',_,rfl,DGet.k (k:=.inr "people") q1,_,rfl,t,_,_,_,rfl,rfl,SqT.of ht1,rfl,_,rfl,t,_,_,_,rfl,rfl,SqT.of ht1,rfl,_,rfl,t,_,_,_,rfl,rfl,SqT.of ht1,rfl,sz3 _ _ _,fun tp ftp=>?_⟩
   have s2:=Zf (o:=.tup [.int n,.int g,.int c]) ftp;have t2:=Zc (H:=H1) (a:=tp) (o:=.tup [.int n,.int g,.int c]);generalize upd H1 tp (.tup [.int n,.int g,.int c])=H2 at s2 t2 ⊢
   refine⟨sz1 _,fun l1 f1=>?_⟩
   have s3:=Zf (o:=.lst [.ref tp]) f1;have t3:=Zc (H:=H2) (a:=l1) (o:=.lst [.ref tp]);generalize upd H2 l1 (.lst [.ref tp])=H3 at s3 t3 ⊢
   have s13:=s2.trans s3;refine⟨lp,l1,pts,_,rfl,rfl,s13 _ _ p1,t3,szN (by rw[p2.length,z0t];show _+1<=1000;omega),fun lp' fp'=>?_⟩
   have s4:=s13.trans (Zf (o:=.lst (pts++[.ref tp])) fp');have t4:=Zc (H:=H3) (a:=lp') (o:=.lst (pts++[.ref tp]));have t2':=(s3.trans (Zf (o:=.lst (pts++[.ref tp])) fp')) _ _ t2;generalize upd H3 lp' (.lst (pts++[.ref tp]))=H4 at s4 t4 t2' ⊢
   refine⟨_,rfl,d',_,rfl,wr (s4 _ _ q1),?_⟩;rw[Am];have s5:=Yc (o:=.dK (pgF P0.len P0.rest lp' lo lv dv li lg lm)) fd' (s1.trans s4);have q5:=Zc (H:=H4) (a:=d') (o:=.dK (pgF P0.len P0.rest lp' lo lv dv li lg lm));have k5':=Xt.dict (s4 _ _ q1) (kvs':=pgF P0.len P0.rest lp' lo lv dv li lg lm);generalize upd H4 d' (.dK (pgF P0.len P0.rest lp' lo lv dv li lg lm))=H5 at s5 q5 k5' ⊢
   have k5:=(Xt.of s4).trans k5';refine⟨_,rfl,t,_,_,_,rfl,rfl,SqT.of (s5 _ _ ht),rfl,_,rfl,sz3 _ _ _,fun td ftd=>?_⟩
   have s6:=Zf (o:=.tup [.str "enrol",.int n,.int ((P0.over.length:Int)+1)]) ftd;have t6:=Zc (H:=H5) (a:=td) (o:=.tup [.str "enrol",.int n,.int ((P0.over.length:Int)+1)]);generalize upd H5 td (.tup [.str "enrol",.int n,.int ((P0.over.length:Int)+1)])=H6 at s6 t6 ⊢
   refine⟨_,rfl,d',_,rfl,wr (s6 _ _ q5),?_⟩;rw[J9];have s7:=Yc (o:=.dK (pgF P0.len P0.rest lp' lo lv (.ref td) li lg lm)) fd' (s5.trans s6);have q7:=Zc (H:=H6) (a:=d') (o:=.dK (pgF P0.len P0.rest lp' lo lv (.ref td) li lg lm));have k7':=Xt.dict (s6 _ _ q5) (kvs':=pgF P0.len P0.rest lp' lo lv (.ref td) li lg lm);generalize upd H6 d' (.dK (pgF P0.len P0.rest lp' lo lv (.ref td) li lg lm))=H7 at s7 q7 k7' ⊢
   have k7:=(k5.trans (.of s6)).trans k7';refine⟨_,rfl,_,rfl,sz1 _,fun l2 f2=>?_⟩
   have s8:=Zf (o:=.lst [.ref d']) f2;have t8:=Zc (H:=H7) (a:=l2) (o:=.lst [.ref d']);generalize upd H7 l2 (.lst [.ref d'])=H8 at s8 t8 ⊢
   refine⟨l,l2,_,_,rfl,rfl,s8 _ _ (s7 _ _ hl),t8,szN (by rw[z0t,z0w];show ds.length+1+1<=1000;omega),fun lr flr=>?_⟩
   have er:(ds++[d]).map V.ref++[.ref d']=(ds++[d]++[d']).map V.ref:=by rw[z0y (l₁:=ds++[d])];rfl
   rw[er];have s9:=s8.trans (Zf (o:=.lst ((ds++[d]++[d']).map V.ref)) flr);have t9:=Zc (H:=H8) (a:=lr) (o:=.lst ((ds++[d]++[d']).map V.ref));generalize upd H8 lr (.lst ((ds++[d]++[d']).map V.ref))=H9 at s9 t9 ⊢
   have k9:=k7.trans (.of s9);have t6':=s9 _ _ (k7'.2 _ _ t6);refine h lr d' H9 t9 (fun _=>?_) (s7.trans s9) (s7.free (s8.free flr)) fd'
   have b:=PB1.keepL k9;refine .join (P:=U1 P0 (.enrol n g c)) (s9 _ _ q7) ⟨⟨_,s9 _ _ (k7'.1 _ _ (s6 _ _ (k5'.1 _ _ t4))),?_,okf _ (s1.free (s13.free fp'))⟩,b.oo,b.vv,⟨td,rfl,t6'⟩,b.li,b.gg,b.mm⟩ (okf _ fd');unfold U1;dsimp only;rw[z0y];exact(p2.mono k9.2).snoc (s9 _ _ (k7'.2 _ _ (s6 _ _ (k5'.2 _ _ t2'))))
 | draw ms =>
   obtain⟨ll,ts,ht,hll,tl,okl⟩:∃ l ts,H t=some (.tup [.str "draw up",.ref l])/\H l=some (.lst ts)/\Yb H ts (ms.map pV)/\ok l:=hD
   have ht1:=s1 _ _ ht;have sz3:∀ x y z:V,[x,y,z].length<=sizeLine:=fun x y z=>by show 3<=sizeLine;rw[sizeLine_eq];decide
   refine⟨_,rfl,t,_,_,_,rfl,rfl,SqT.of ht1,rfl,rfl,_,rfl,?_⟩;rw[Rj (by decide +kernel)]
   refine iteF (Zz ?_);refine⟨_,rfl,t,_,_,_,rfl,rfl,SqT.of ht1,rfl,rfl,_,rfl,?_⟩;rw[Rj (by decide +kernel)]
   refine iteF (Zz ?_);refine⟨_,rfl,t,_,_,_,rfl,rfl,SqT.of ht1,rfl,rfl,_,rfl,?_⟩;rw[Rj (by decide +kernel)]
   refine iteF ?_;refine⟨_,rfl,t,_,_,_,rfl,rfl,SqT.of ht1,rfl,rfl,_,rfl,?_⟩;rw[C8];refine iteT ?_;refine⟨_,rfl,t,_,_,_,rfl,rfl,SqT.of ht1,rfl,_,rfl,d',_,rfl,wr q1,?_⟩;rw[Ia];have s5:=Yc (o:=.dK (pgF P0.len P0.rest lp lo lv dv (.ref ll) lg lm)) fd' s1;have q5:=Zc (H:=H1) (a:=d') (o:=.dK (pgF P0.len P0.rest lp lo lv dv (.ref ll) lg lm));have k5:=Xt.dict q1 (kvs':=pgF P0.len P0.rest lp lo lv dv (.ref ll) lg lm);generalize upd H1 d' (.dK (pgF P0.len P0.rest lp lo lv dv (.ref ll) lg lm))=H5 at s5 q5 k5 ⊢
   have ez:(ts.length:Int)=(ms.length:Int):=by rw[tl.length,z0t]
   refine⟨_,rfl,t,_,_,_,rfl,rfl,SqT.of (s5 _ _ ht),rfl,ll,ts,rfl,.inl (SqL.of (s5 _ _ hll)),_,rfl,sz3 _ _ _,fun td ftd=>?_⟩
   have s6:=Zf (o:=.tup [.str "draw up",.int (ts.length:Int),.int ((P0.over.length:Int)+1)]) ftd;have t6:=Zc (H:=H5) (a:=td) (o:=.tup [.str "draw up",.int (ts.length:Int),.int ((P0.over.length:Int)+1)]);generalize upd H5 td (.tup [.str "draw up",.int (ts.length:Int),.int ((P0.over.length:Int)+1)])=H6 at s6 t6 ⊢
   refine⟨_,rfl,d',_,rfl,wr (s6 _ _ q5),?_⟩;rw[J9];have s7:=Yc (o:=.dK (pgF P0.len P0.rest lp lo lv (.ref td) (.ref ll) lg lm)) fd' (s5.trans s6);have q7:=Zc (H:=H6) (a:=d') (o:=.dK (pgF P0.len P0.rest lp lo lv (.ref td) (.ref ll) lg lm));have k7':=Xt.dict (s6 _ _ q5) (kvs':=pgF P0.len P0.rest lp lo lv (.ref td) (.ref ll) lg lm);generalize upd H6 d' (.dK (pgF P0.len P0.rest lp lo lv (.ref td) (.ref ll) lg lm))=H7 at s7 q7 k7' ⊢
   have k7:=(k5.trans (.of s6)).trans k7';refine⟨_,rfl,_,rfl,sz1 _,fun l2 f2=>?_⟩
   have s8:=Zf (o:=.lst [.ref d']) f2;have t8:=Zc (H:=H7) (a:=l2) (o:=.lst [.ref d']);generalize upd H7 l2 (.lst [.ref d'])=H8 at s8 t8 ⊢
   refine⟨l,l2,_,_,rfl,rfl,s8 _ _ (s7 _ _ hl),t8,szN (by rw[z0t,z0w];show ds.length+1+1<=1000;omega),fun lr flr=>?_⟩
   have er:(ds++[d]).map V.ref++[.ref d']=(ds++[d]++[d']).map V.ref:=by rw[z0y (l₁:=ds++[d])];rfl
   rw[er];have s9:=s8.trans (Zf (o:=.lst ((ds++[d]++[d']).map V.ref)) flr);have t9:=Zc (H:=H8) (a:=lr) (o:=.lst ((ds++[d]++[d']).map V.ref));generalize upd H8 lr (.lst ((ds++[d]++[d']).map V.ref))=H9 at s9 t9 ⊢
   have k9:=k7.trans (.of s9);have t6':=s9 _ _ (k7'.2 _ _ t6);refine h lr d' H9 t9 (fun _=>?_) (s7.trans s9) (s7.free (s8.free flr)) fd'
   have b:=PB1.keepL k9;rw[ez] at t6'
   exact .join (P:=U1 P0 (.draw ms)) (s9 _ _ q7) ⟨b.pp,b.oo,b.vv,⟨td,rfl,t6'⟩,⟨ll,ts,rfl,s9 _ _ (s7 _ _ hll),tl.mono (fun x xs z=>s9 _ _ (s7 _ _ z)),oko _ okl⟩,b.gg,b.mm⟩ (okf _ fd')
 | away i n =>
   have ht:H t=some (.tup [.str "away",.int i,.int n]):=hD;have ht1:=s1 _ _ ht;have sz3:∀ x y z:V,[x,y,z].length<=sizeLine:=fun x y z=>by show 3<=sizeLine;rw[sizeLine_eq];decide
   refine⟨_,rfl,t,_,_,_,rfl,rfl,SqT.of ht1,rfl,rfl,_,rfl,?_⟩;rw[Rj (by decide +kernel)]
   refine iteF (Zz ?_);refine⟨_,rfl,t,_,_,_,rfl,rfl,SqT.of ht1,rfl,rfl,_,rfl,?_⟩;rw[Rj (by decide +kernel)]
   refine iteF (Zz ?_);refine⟨_,rfl,t,_,_,_,rfl,rfl,SqT.of ht1,rfl,rfl,_,rfl,?_⟩;rw[Rj (by decide +kernel)]
   refine iteF ?_;refine⟨_,rfl,t,_,_,_,rfl,rfl,SqT.of ht1,rfl,rfl,_,rfl,?_⟩;rw[Rj (by decide +kernel)]
   refine iteF ?_;obtain⟨pts,p1,p2,p3⟩:=PB1.oo;refine⟨_,rfl,d',_,rfl,DGet.k (k:=.inr "out") q1,_,rfl,t,_,_,_,rfl,rfl,SqT.of ht1,rfl,_,rfl,t,_,_,_,rfl,rfl,SqT.of ht1,rfl,sz2,fun tp ftp=>?_⟩
   have s2:=Zf (o:=.tup [.int i,.int n]) ftp;have t2:=Zc (H:=H1) (a:=tp) (o:=.tup [.int i,.int n]);generalize upd H1 tp (.tup [.int i,.int n])=H2 at s2 t2 ⊢
   refine⟨sz1 _,fun l1 f1=>?_⟩
   have s3:=Zf (o:=.lst [.ref tp]) f1;have t3:=Zc (H:=H2) (a:=l1) (o:=.lst [.ref tp]);generalize upd H2 l1 (.lst [.ref tp])=H3 at s3 t3 ⊢
   have s13:=s2.trans s3;refine⟨lo,l1,pts,_,rfl,rfl,s13 _ _ p1,t3,szN (by rw[p2.length,z0t];show _+1<=1000;omega),fun lo' fp'=>?_⟩
   have s4:=s13.trans (Zf (o:=.lst (pts++[.ref tp])) fp');have t4:=Zc (H:=H3) (a:=lo') (o:=.lst (pts++[.ref tp]));have t2':=(s3.trans (Zf (o:=.lst (pts++[.ref tp])) fp')) _ _ t2;generalize upd H3 lo' (.lst (pts++[.ref tp]))=H4 at s4 t4 t2' ⊢
   refine⟨_,rfl,d',_,rfl,wr (s4 _ _ q1),?_⟩;rw[zf6];have s5:=Yc (o:=.dK (pgF P0.len P0.rest lp lo' lv dv li lg lm)) fd' (s1.trans s4);have q5:=Zc (H:=H4) (a:=d') (o:=.dK (pgF P0.len P0.rest lp lo' lv dv li lg lm));have k5':=Xt.dict (s4 _ _ q1) (kvs':=pgF P0.len P0.rest lp lo' lv dv li lg lm);generalize upd H4 d' (.dK (pgF P0.len P0.rest lp lo' lv dv li lg lm))=H5 at s5 q5 k5' ⊢
   have k5:=(Xt.of s4).trans k5';refine⟨_,rfl,t,_,_,_,rfl,rfl,SqT.of (s5 _ _ ht),rfl,_,rfl,t,_,_,_,rfl,rfl,SqT.of (s5 _ _ ht),rfl,sz3 _ _ _,fun td ftd=>?_⟩
   have s6:=Zf (o:=.tup [.str "away",.int n,.int i]) ftd;have t6:=Zc (H:=H5) (a:=td) (o:=.tup [.str "away",.int n,.int i]);generalize upd H5 td (.tup [.str "away",.int n,.int i])=H6 at s6 t6 ⊢
   refine⟨_,rfl,d',_,rfl,wr (s6 _ _ q5),?_⟩;rw[J9];have s7:=Yc (o:=.dK (pgF P0.len P0.rest lp lo' lv (.ref td) li lg lm)) fd' (s5.trans s6);have q7:=Zc (H:=H6) (a:=d') (o:=.dK (pgF P0.len P0.rest lp lo' lv (.ref td) li lg lm));have k7':=Xt.dict (s6 _ _ q5) (kvs':=pgF P0.len P0.rest lp lo' lv (.ref td) li lg lm);generalize upd H6 d' (.dK (pgF P0.len P0.rest lp lo' lv (.ref td) li lg lm))=H7 at s7 q7 k7' ⊢
   have k7:=(k5.trans (.of s6)).trans k7';refine⟨_,rfl,_,rfl,sz1 _,fun l2 f2=>?_⟩
   have s8:=Zf (o:=.lst [.ref d']) f2;have t8:=Zc (H:=H7) (a:=l2) (o:=.lst [.ref d']);generalize upd H7 l2 (.lst [.ref d'])=H8 at s8 t8 ⊢
   refine⟨l,l2,_,_,rfl,rfl,s8 _ _ (s7 _ _ hl),t8,szN (by rw[z0t,z0w];show ds.length+1+1<=1000;omega),fun lr flr=>?_⟩
   have er:(ds++[d]).map V.ref++[.ref d']=(ds++[d]++[d']).map V.ref:=by rw[z0y (l₁:=ds++[d])];rfl
   rw[er];have s9:=s8.trans (Zf (o:=.lst ((ds++[d]++[d']).map V.ref)) flr);have t9:=Zc (H:=H8) (a:=lr) (o:=.lst ((ds++[d]++[d']).map V.ref));generalize upd H8 lr (.lst ((ds++[d]++[d']).map V.ref))=H9 at s9 t9 ⊢
   have k9:=k7.trans (.of s9);have t6':=s9 _ _ (k7'.2 _ _ t6);refine h lr d' H9 t9 (fun _=>?_) (s7.trans s9) (s7.free (s8.free flr)) fd'
   have b:=PB1.keepL k9;refine .join (P:=U1 P0 (.away i n)) (s9 _ _ q7) ⟨b.pp,⟨_,s9 _ _ (k7'.1 _ _ (s6 _ _ (k5'.1 _ _ t4))),?_,okf _ (s1.free (s13.free fp'))⟩,b.vv,⟨td,rfl,t6'⟩,b.li,b.gg,b.mm⟩ (okf _ fd');unfold U1;dsimp only;rw[z0y];exact(p2.mono k9.2).snoc (s9 _ _ (k7'.2 _ _ (s6 _ _ (k5'.2 _ _ t2'))))
noncomputable abbrev Yf:Stmt:=top 74
theorem Yz:Zl ["_law_cell_here","_law_clubs_here","_law_most","_law_mixed","_law_matches_here","_law_many","_law_grades","_law_rest_here","_law_k","_law_home","_law_guest"] ["_law_cell_here","_law_clubs_here","_law_most","_law_mixed"] (Zj Yf):=fnS
@[irreducible] noncomputable def Uu:List Expr:=zcc (Pu (Xu (Zt Yf) 2))
@[irreducible] noncomputable def Pd:Pos:=zcd (Pu (Xu (Zt Yf) 2))
theorem Lg:Zt Yf=[Xu (Zt Yf) 0,Xu (Zt Yf) 1,.Assign (zes (Xu (Zt Yf) 2)) (.List Uu Pd) (stP (Xu (Zt Yf) 2)),Xu (Zt Yf) 3,Xu (Zt Yf) 4,Xu (Zt Yf) 5]:=by unfold Uu Pd;kernel_rfl
theorem Lh:J8 Uu [1,2,3,4,5,6,7,8,9,1,1,1,1,2,2,3,3,4]:=by unfold Uu;exact⟨by kernel_rfl,by kernel_rfl⟩
theorem Hm(F:Fun K "_law_matches" "_law_matches" Yf f fd)(T:Tx K mg a)(zlx:Z9 P w K mg base "_law_mix" 1 ["_law_cell_here","_law_k"] zal):Z6 P w K mg base (CX1 P w) 2 f fd ["_law_cell_here","_law_clubs_here","_law_most","_law_mixed"] (L9 K):=by
 refine F.okX Yz (by walk_at "ar") fun _ _ _ _ H _ Q E hr h=>?_
 obtain⟨b,ns,cell,most,mixed,rfl,hb,hl1,hl2,nd,rng,hm1,hmx,h⟩:=h;rw[Lg];refine⟨_,(Zb (pS 4 Yz.nd (Ya Zd))
 (Zb (pS 5 Yz.nd (Zn (cL K) (by rfl) T.zkq PySem.boot_len (Za (pv 1) Zd)))
 (Zb (pS 6 Yz.nd (Ya (Pl [1,2,3,4,5,6,7,8,9,1,1,1,1,2,2,3,3,4] Lh)))
 (Zb (pS 7 Yz.nd (Zv Xi (pv 0) (Zv Xc (pv 2) Zi)))
 (Zb (Y6 PassesOwn.leaving rfl (Xh rfl T.zk8 (Za (Zv Yv (pv 0) (Zv Xc (pv 2) Zi)) Zd)) (pN 8 Yz.nd)
  (Zb (pS 9 Yz.nd (Zv Yv (pv 7) (pv 5)))
  (Zb (pS 10 Yz.nd (Zv Yv (Zv Xc (Zv Xc (pv 9) Zi) (Zv Yv (Zv Xi (pv 7) (pv 5)) (Zv Rr (pv 5) Zi))) (pv 5)))
  (Zb (Yu (pv 4) (Ye (Za (pI (iL K) (pv 1) (pv 9)) (Za (pI (iL K) (pv 1) (pv 10)) (Za (pI (iL K) (pv 6) (Zv Yv (Zv Xi (Zv Xi (pv 7) (pv 5)) (Zv Rr (pv 5) Zi)) Zi)) Zd)))))
  (Ze (pS 7 Yz.nd (pI (iL K) (Ya (Za (Zv Xi (Zv Xi (Zv Xi (pv 7) (pv 5)) (Zv Rr (pv 5) Zi)) Zi) (Za (pF zlx hr (Za (pv 7) (Za (pv 8) Zd))) Zd))) (pv 3))))))))
 (Ze (Zm (pv 4)))))))),?_⟩
 show let y1:TS:=_;let y2:TS:=Z2 _ y1;let y3:TS:=Z2 _ y2;let y4:TS:=_;let y5:TS:=Z2 (zc2 _ _ (Z2 _ y3)) y4;let y6:TS:=Z2 _ y5;let y7:TS:=Z2 _ y6;let y8:TS:=Z2 _ y7;Z2 _ y8 _ _ _;intro y1 y2 y3 y4 y5 y6 y7 y8;have sz0:([]:List V).length<=sizeLine:=z1j _;have sz3:∀ x y z:V,[x,y,z].length<=sizeLine:=fun x y z=>by show 3<=sizeLine;rw[sizeLine_eq];decide
 refine⟨sz0,fun r fr=>?_⟩
 have s1:=Zf (o:=.lst []) fr;have q1:=Zc (H:=H) (a:=r) (o:=.lst []);walk_at "if";generalize upd H r (.lst [])=H1 at s1 q1 ⊢
 refine⟨_,rfl,b,_,rfl,.inl (SqL.of (s1 _ _ hb)),?_⟩;rw[z0t];walk_at "if";refine C7 [1,2,3,4,5,6,7,8,9,1,1,1,1,2,2,3,3,4] (by decide) fun lg H2 hg s2 fg=>?_
 have frg:lg≠r:=(Zg q1 fg).symm;have hc:(0:Int)<(most:Int)+1:=by omega
 refine⟨_,rfl,_,rfl,_,_,rfl,rfl,_,_,rfl,rfl,⟨hc,by omega⟩,?_⟩
 walk_at "if";refine⟨_,rfl,_,rfl,_,_,rfl,rfl,_,_,rfl,rfl,hc,_,rfl,?_⟩;have c0:=z1v cell (show ((most:Int)+1)≠0 by omega)
 have c1:=z1q cell hc;have hn0:(0:Int)<(ns.length:Int):=by omega
 have hn1:(0:Int)<(ns.length:Int)-1:=by omega
 let jv2:Nat->L2.St->Hp->Prop:=fun i σ H'=>(∃ v8 v9 v10 R,σ=[some (.int cell),some (.ref b),some (.int most),some (.int mixed),some (.ref r),some (.int ns.length),some (.ref lg),some (.int R),v8,v9,v10])/\(∀ x o,H2 x=some o->x≠r->H' x=some o)/\∃ ts ms,H' r=some (.lst ts)/\Yb H' ts (ms.map pV)/\ms.length=i/\Aq ms
 refine⟨by omega,by omega,Xv jv2
  ⟨⟨_,_,_,_,rfl⟩,fun _ _ e _=>e,[],[],s2 _ _ q1,.nil,rfl,(fun m z=>nomatch z),(fun m z=>nomatch z)⟩ ?_ ?_⟩
 ·rintro i σ H' hi ⟨⟨v8,v9,v10,R,rfl⟩,k,ts,ms,hr',tl,hml,gm⟩
  have hb':=k _ _ (s2 _ _ (s1 _ _ hb)) (Zg hb fr);have hg':=k _ _ hg frg;have e0:=z1v R (show (ns.length:Int)≠0 by omega)
  have e1:=z1q R hn0;have f0:=z1v (R/(ns.length:Int)) (show (ns.length:Int)-1≠0 by omega)
  have f1:=z1q (R/(ns.length:Int)) hn1;have w0:=z1v (R/(ns.length:Int)/((ns.length:Int)-1)) (show (18:Int)≠0 by omega)
  have w1:=z1q (R/(ns.length:Int)/((ns.length:Int)-1)) (show (0:Int)<18 by omega)
  obtain⟨g0,g1,g2⟩:=zey e0 e1 (y:=1+R/(ns.length:Int)%((ns.length:Int)-1)) (by omega) (by omega)
  rw[<- Int.add_assoc] at g0 g1 g2
  refine⟨_,rfl,_,rfl,_,_,rfl,rfl,hn0,?_⟩;walk_at "if";refine⟨_,rfl,_,_,rfl,rfl,_,rfl,_,rfl,_,_,rfl,rfl,⟨hn0,by omega⟩,_,rfl,_,_,rfl,rfl,_,_,rfl,rfl,hn1,_,_,rfl,rfl,_,rfl,_,_,rfl,rfl,hn0,?_⟩
  walk_at "if";generalize hG:(R%(ns.length:Int)+1+R/(ns.length:Int)%((ns.length:Int)-1))%(ns.length:Int)=gu at g0 g1 g2 ⊢
  generalize hHo:R%(ns.length:Int)=ho at e0 e1 g2 ⊢
  refine⟨_,rfl,r,_,rfl,hr',?_⟩;have hgr:=Wo (xs:=E4) w0 (by show _<((18:Nat):Int);omega)
  have rgr:=Ar (R/(ns.length:Int)/((ns.length:Int)-1)%18).toNat (by omega)
  generalize hgv:E4.getD (R/(ns.length:Int)/((ns.length:Int)-1)%18).toNat 0=gv at hgr rgr
  have hho:=Wo (xs:=ns) e0 (by omega)
  have hgu:=Wo (xs:=ns) g0 (by omega)
  have mho:=Sb (ns:=ns) (i:=ho.toNat) (by omega)
  have mgu:=Sb (ns:=ns) (i:=gu.toNat) (by omega)
  have hne:ns.getD ho.toNat 0≠ns.getD gu.toNat 0:=fun z=>by
   have:=zez nd (by omega) (by omega) z
   omega
  generalize ns.getD ho.toNat 0=a1 at hho mho hne
  generalize ns.getD gu.toNat 0=a2 at hgu mgu hne
  refine⟨_,rfl,_,rfl,b,_,_,_,rfl,rfl,SqL.of hb',hho,_,rfl,_,rfl,b,_,_,_,rfl,rfl,SqL.of hb',hgu,?_⟩;refine⟨_,rfl,_,rfl,_,rfl,_,_,rfl,rfl,⟨hn0,by omega⟩,_,rfl,_,_,rfl,rfl,_,_,rfl,rfl,⟨hn1,by omega⟩,_,_,rfl,rfl,(by omega),lg,_,_,_,rfl,rfl,SqL.of hg',hgr,sz3 _ _ _,fun t ft=>?_⟩
  have s3:=Zf (o:=.tup [.int a1,.int a2,.int gv]) ft;have q3:=Zc (H:=H') (a:=t) (o:=.tup [.int a1,.int a2,.int gv]);generalize upd H' t (.tup [.int a1,.int a2,.int gv])=H3 at s3 q3 ⊢
  have tln:=tl.length;rw[z0t] at tln
  refine⟨ts,s3 _ _ hr',szN (by omega),?_⟩
  have hi':i<21:=by omega
  have k4:∀ x o,H3 x=some o->x≠r->upd H3 r (.lst (ts++[.ref t])) x=some o:=fun x o e n=>by rw[Zh n];exact e
  have q4:=Zc (H:=H3) (a:=r) (o:=.lst (ts++[.ref t]));have kt4:∀ x ys,H3 x=some (.tup ys)->upd H3 r (.lst (ts++[.ref t])) x=some (.tup ys):=fun x ys e=>k4 _ _ e (Yt e (s3 _ _ hr') (by intro z;cases z))
  dsimp only;generalize upd H3 r (.lst (ts++[.ref t]))=H4 at k4 q4 kt4 ⊢
  obtain⟨z,hz⟩:=at2 (R/(ns.length:Int)/((ns.length:Int)-1)/18) (Ae R (0+(i:Int))) hmx;refine⟨_,rfl,_,rfl,_,_,rfl,rfl,⟨hn0,by omega⟩,_,rfl,_,_,rfl,rfl,_,_,rfl,rfl,⟨hn1,by omega⟩,_,_,rfl,rfl,⟨by omega,by omega⟩,_,rfl,_,rfl,_,_,rfl,sz2,fun l2 f2=>⟨_,rfl,l2,_,_,_,rfl,rfl,SqL.of Zc,hz,?_⟩⟩
  have s5:=Zf (o:=.lst [.int (R/(ns.length:Int)/((ns.length:Int)-1)/18),.int (Ae R (0+(i:Int)))]) f2;refine⟨⟨_,_,_,_,rfl⟩,fun x o e n=>s5 _ _ (k4 _ _ (s3 _ _ (k _ _ e n)) n),ts++[.ref t],ms++[(a1,a2,gv)],s5 _ _ q4,?_,by rw[z0w,hml];rfl,?_,?_⟩
  ·rw[z0y]
   exact(tl.mono fun x ys e=>s5 _ _ (kt4 _ _ (s3 _ _ e))).snoc (s5 _ _ (kt4 _ _ q3))
  ·intro m hm
   rcases z06.mp hm with hm|hm
   ·exact gm.1 m hm
   ·rw[z0z.mp hm]
    have:=rng _ mho;have:=rng _ mgu;unfold badM;dsimp only;omega
  ·intro m hm
   rcases z06.mp hm with hm|hm
   ·exact gm.2 m hm
   ·rw[z0z.mp hm];exact hne
 ·rintro σ H' ⟨⟨v8,v9,v10,R,rfl⟩,k,ts,ms,hr',tl,hml,gm⟩
  refine⟨_,rfl,h r ts ms H' hr' tl (by omega) gm (fun x o e=>k _ _ (s2 _ _ (s1 _ _ e)) (Zg e fr)) fr⟩
noncomputable abbrev Me:Stmt:=top 75
theorem zct:Zl ["_law_season","_law_deed_here"] ["_law_season","_law_deed_here"] (Zj Me):=fnS
theorem zcu(F:Fun K "_law_do" "_law_do" Me f fd)(T:Tx K mg a)(znu:Zu P w K mg base a.zkg "enrol" 5 ["self","number","grade","club"] (za0 (ca a)))(zn5:Zu P w K mg base a.zkg "away" 7 ["self","at","number"] (zeo (ca a)))(zmu:Zu P w K mg base a.zkg "draw_up" 6 ["self","matches"] (Cu K (ca a)))(znj:Zu P w K mg base a.zkg "close" 4 ["self"] (za1 (ca a)))(zmb:Zu P w K mg base a.zkg "take_back" 2 ["self"] (J5 (ca a))):Z6 P w K mg base (CX1 P w) 8 f fd ["_law_season","_law_deed_here"] (zh6 K (ca a)):=by
 refine F.okX zct (by walk_at "ar") fun _ _ _ _ H _ Q E hr h=>?_
 obtain⟨A',S,t,d,rfl,SA,hd,gd,co,po,hz,hoz,htot,hl,hol,hln,hsn,hbk,h⟩:=h;refine⟨_,(Zb (Z5 (Zo W0 (pI (iU K) (pv 1) Zi) Zs (Zw _))
  (Ze (Zm (Yy (pv 0) T.zkh znu (hr.mono (by decide)) Zk (Za (pI (iU K) (pv 1) Zi) (Za (pI (iU K) (pv 1) Zi) (Za (pI (iU K) (pv 1) Zi) Zd))))))
  Zr)
 (Zb (Z5 (Zo W0 (pI (iU K) (pv 1) Zi) Zs (Zw _))
  (Ze (Zm (Yy (pv 0) T.zkh zn5 (hr.mono (by decide)) Zk (Za (pI (iU K) (pv 1) Zi) (Za (pI (iU K) (pv 1) Zi) Zd)))))
  Zr)
 (Zb (Z5 (Zo W0 (pI (iU K) (pv 1) Zi) Zs (Zw _))
  (Ze (Zm (Yy (pv 0) T.zkh zmu (hr.mono (by decide)) Zk (Za (Y7 (Yq (K:=K) rfl) (by rfl) T.zlg PyProof.Rows.boot_list (Za (pI (iU K) (pv 1) Zi) Zd)) Zd))))
  Zr)
 (Zb (Z5 (Zo W0 (pI (iU K) (pv 1) Zi) Zs (Zw _))
  (Ze (Zm (Yl (pv 0) T.zkh znj (hr.mono (by decide)) Zk)))
  Zr)
 (Ze (Zm (Yl (pv 0) T.zkh zmb (hr.mono (by decide)) Zk))))))),?_⟩
 obtain⟨⟨dx,v,a1,a2⟩,_⟩:=id SA;cases d with
 | enrol n g c0 =>
   have ht:H t=some (.tup [.str "enrol",.int n,.int g,.int c0]):=hd;obtain⟨g1,g2,g3,g4,g5⟩:=gd;have hb:=g3;unfold badI at hb
   refine⟨_,rfl,t,_,_,_,rfl,rfl,SqT.of ht,rfl,rfl,_,rfl,?_⟩;rw[C8];refine iteT ?_;refine⟨_,rfl,A'.p,dx,_,rfl,a1,Yg (by decide +kernel),_,rfl,t,_,_,_,rfl,rfl,SqT.of ht,rfl,_,rfl,t,_,_,_,rfl,rfl,SqT.of ht,rfl,_,rfl,t,_,_,_,rfl,rfl,SqT.of ht,rfl,A',S,n,g,c0,rfl,SA,⟨Ym (by omega) (by omega),Ym (by omega) (by omega),Ym (by omega) (by omega)⟩,by omega,by omega,?_⟩
   rw[if_neg (by omega),if_neg (by rw[g2];decide),if_neg g3,if_neg g4,if_neg (by omega),if_neg (by omega)]
   exact fun H' SA' f'=>h .non A' _ H' (.enrol n g c0) SA' (.refl A' H) f' (fun l z=>nomatch z)
 | away i n =>
   have ht:H t=some (.tup [.str "away",.int i,.int n]):=hd;obtain⟨g1,g2,g3,g4⟩:=gd;refine⟨_,rfl,t,_,_,_,rfl,rfl,SqT.of ht,rfl,rfl,_,rfl,?_⟩;rw[Rj (by decide +kernel)]
   refine iteF (Zz ?_);refine⟨_,rfl,t,_,_,_,rfl,rfl,SqT.of ht,rfl,rfl,_,rfl,?_⟩;rw[C8];refine iteT ?_;have si:Yk i:=Ym (by omega) (by omega)
   refine⟨_,rfl,A'.p,dx,_,rfl,a1,Yg (by decide +kernel),_,rfl,t,_,_,_,rfl,rfl,SqT.of ht,rfl,_,rfl,t,_,_,_,rfl,rfl,SqT.of ht,rfl,A',S,i,n,rfl,SA,si,hsn i n rfl,by omega,hoz,po,fun s hs=>?_,?_⟩
   ·obtain⟨c1,c2,c3,c4,c5⟩:=co s hs
    exact⟨c1,c2,c4,by omega⟩
   rw[if_neg (by omega),if_neg (by omega),if_pos g3,if_neg g4,if_neg (by omega)]
   refine⟨fun hc l H' hl' SA' f' fl=>h _ A' _ H' (.awayN hc hl') SA' (.refl A' H) f' (fun l2 z _=>by cases z;exact fl),fun s hi hs hp l H' hl' SA' f' fl=>?_,fun s p hi hs hp l us st e w' H' hl' tl CR SA' f' fl=>?_⟩
   ·subst hi
    exact h _ A' _ H' (.awayF hs hp hl') SA' (.refl A' H) f' (fun l2 z _=>by cases z;exact fl)
   ·subst hi
    exact h _ A' _ H' (.awayC hs hp hl' tl CR) SA' (.refl A' H) f' (fun l2 z _=>by cases z;exact fl)
 | draw ms =>
   obtain⟨l0,ts,ht,hl0,tl,okl⟩:∃ l ts,H t=some (.tup [.str "draw up",.ref l])/\H l=some (.lst ts)/\Yb H ts (ms.map pV)/\l∉A'.fp:=hd
   obtain⟨g1,g2,g3,g4,g5⟩:=gd;refine⟨_,rfl,t,_,_,_,rfl,rfl,SqT.of ht,rfl,rfl,_,rfl,?_⟩;rw[Rj (by decide +kernel)]
   refine iteF (Zz ?_);refine⟨_,rfl,t,_,_,_,rfl,rfl,SqT.of ht,rfl,rfl,_,rfl,?_⟩;rw[Rj (by decide +kernel)]
   refine iteF (Zz ?_);refine⟨_,rfl,t,_,_,_,rfl,rfl,SqT.of ht,rfl,rfl,_,rfl,?_⟩;rw[C8];refine iteT ?_;refine⟨_,rfl,A'.p,dx,_,rfl,a1,Yg (by decide +kernel),_,rfl,t,_,_,_,rfl,rfl,SqT.of ht,rfl,l0,ts,rfl,.inl (SqL.of hl0),fun l1 hl1=>?_⟩
   have s1:=Zf (o:=.lst ts) hl1;have q1:upd H l1 (.lst ts) l1=some (.lst ts):=Zc;generalize upd H l1 (.lst ts)=H1 at s1 q1
   have nb:¬ Rw ms:=fun ⟨m,hm,hb⟩=>g4 m hm hb
   have ns:¬ Rx ms:=fun ⟨m,hm,hb⟩=>g5 m hm hb
   refine⟨A',S,l1,ts,ms,rfl,SA.same s1,SqL.of q1,tl.same s1,fun m hm=>?_,by omega,by omega,po,?_⟩
   ·have:=g4 m hm
    unfold badM at this
    exact⟨Ym (by omega) (by omega),Ym (by omega) (by omega),Ym (by omega) (by omega)⟩
   rw[if_neg (by omega),if_neg (by rw[g2];decide)]
   refine⟨fun z=>absurd z (by omega),fun _ z=>absurd z nb,fun _ _ z=>absurd z ns,fun _ _ _=>⟨fun z=>absurd z (by omega),fun _ l gv H' hl' SA' FP SP f' fl=>?_⟩⟩
   exact h _ A' _ H' (.draw hl' FP SP) SA' (.refl A' H) ((FrS.of A' s1).trans f') (fun l2 z _=>by cases z;exact s1.free fl)
 | close =>
   have ht:H t=some (.tup [.str "close"]):=hd;obtain⟨g1,g2⟩:=gd;refine⟨_,rfl,t,_,_,_,rfl,rfl,SqT.of ht,rfl,rfl,_,rfl,?_⟩;rw[Rj (by decide +kernel)]
   refine iteF (Zz ?_);refine⟨_,rfl,t,_,_,_,rfl,rfl,SqT.of ht,rfl,rfl,_,rfl,?_⟩;rw[Rj (by decide +kernel)]
   refine iteF (Zz ?_);refine⟨_,rfl,t,_,_,_,rfl,rfl,SqT.of ht,rfl,rfl,_,rfl,?_⟩;rw[Rj (by decide +kernel)]
   refine iteF (Zz ?_);refine⟨_,rfl,t,_,_,_,rfl,rfl,SqT.of ht,rfl,rfl,_,rfl,?_⟩;rw[C8];refine iteT ?_;refine⟨_,rfl,A'.p,dx,_,rfl,a1,Yg (by decide +kernel),A',S,rfl,SA,htot,hl,hol,fun s hs=>?_,?_⟩
   ·obtain⟨c1,c2,c3,c4,c5⟩:=co s hs
    refine⟨c2.one,?_,by omega⟩
    rw[c2.len,c4];unfold mayS;rw[z0t]
   rw[if_neg (by omega)]
   exact⟨fun z=>absurd z g2,fun s x H' hs SA' f' fx=>h _ { A' with lt:=x } _ H' (.close hs) SA' ⟨x,rfl,.inr fx⟩ f' (fun l2 z=>nomatch z)⟩
 | back =>
   have ht:H t=some (.tup [.str "take back"]):=hd;refine⟨_,rfl,t,_,_,_,rfl,rfl,SqT.of ht,rfl,rfl,_,rfl,?_⟩;rw[Rj (by decide +kernel)]
   refine iteF (Zz ?_);refine⟨_,rfl,t,_,_,_,rfl,rfl,SqT.of ht,rfl,rfl,_,rfl,?_⟩;rw[Rj (by decide +kernel)]
   refine iteF (Zz ?_);refine⟨_,rfl,t,_,_,_,rfl,rfl,SqT.of ht,rfl,rfl,_,rfl,?_⟩;rw[Rj (by decide +kernel)]
   refine iteF (Zz ?_);refine⟨_,rfl,t,_,_,_,rfl,rfl,SqT.of ht,rfl,rfl,_,rfl,?_⟩;rw[Rj (by decide +kernel)]
   refine iteF (Zz ?_);obtain⟨S0,hs0⟩:=hbk rfl;obtain⟨d0,e1,e2,e3,e4,e5,e6⟩:=id hs0;refine⟨_,rfl,A'.p,dx,_,rfl,a1,Yg (by decide +kernel),A',S,rfl,SA,fun z=>absurd z gd,fun std d s he=>?_⟩
   rw[e1] at he
   obtain⟨he1,he2⟩:=List.append_inj' he rfl;have he2:(d0,S0.cur)=(d,s):=by simpa using he2
   cases he2;subst he1;refine⟨S0.ppl,S0.out,e2,fun t' H' ht' SA' f'=>?_⟩
   have eS:{ S with ppl:=S0.ppl,out:=S0.out,cur:=S0.cur,std:=S0.std }=S0:=by
    cases S;cases S0;simp only at e3 e4 e5 e6 ⊢
    subst e3 e4 e5 e6;rfl
   rw[eS] at SA'
   exact h _ A' S0 H' (.back e1 ht' hs0) SA' (.refl A' H) f' (fun l2 z hx=>by cases z;obtain⟨xs,hx⟩:=hx;rw[ht'] at hx;cases hx)
noncomputable abbrev R6:Stmt:=top 76
theorem Y3:Zl ["_law_pages","_law_cell_here","_law_pool_here","_law_most","_law_mixed","_law_clubs_here","_law_numbers_here","_law_page","_law_at_here","_law_kind","_law_rest_here","_law_day","_law_here","_law_known","_law_fresh","_law_club"] ["_law_pages","_law_cell_here","_law_pool_here","_law_most","_law_mixed"] (Zj R6):=fnS
theorem Bj(F:Fun K "_law_deed" "_law_deed" R6 f fd)(T:Tx K mg a)(znz:Z9 P w K mg base "_law_matches" 2 ["_law_cell_here","_law_clubs_here","_law_most","_law_mixed"] (L9 K)):Z6 P w K mg base (CX1 P w) 3 f fd ["_law_pages","_law_cell_here","_law_pool_here","_law_most","_law_mixed"] (Bd K):=by
 refine F.okX Y3 (by walk_at "ar") fun _ _ _ _ H _ Q E hr h=>?_
 obtain⟨ok,l,t,lc,ln,ds,d,P0,cell,cs,nu,most,mixed,rfl,hl,PA,PL,hm1,hmx,hov,hpp,h⟩:=h;have hu:=Wm hr;refine⟨_,(Zb (Mg (pv 2) (Wg (K:=K) (n:=2) rfl rfl (Zy (pN 5 Y3.nd) (Zy (pN 6 Y3.nd) Wf))))
 (Zb (pS 7 Y3.nd (pI (iL K) (pv 0) (Lj Qn Zi)))
 (Zb (pS 8 Y3.nd (Zv Xc (Zn (cL K) (by rfl) T.zkq PySem.boot_len (Za (pD hu (pv 7) Zs) Zd)) Zi))
 (Zb (pS 9 Y3.nd (Zv Yv (pv 1) Zi))
 (Zb (pS 10 Y3.nd (Zv Xi (pv 1) Zi))
 (Zb (Z5 (PW.pt (Jf (Zo W0 (pv 9) Zi (Zw _)) (O9 (Zo Ra (Zn (cL K) (by rfl) T.zkq PySem.boot_len (Za (pv 0) Zd)) Zi (Zw _)))))
  (Ze (Zm (Ye (Za Zs Zd))))
  Zr)
 (Zb (pS 11 Y3.nd (Zn (G5 rfl) (by rfl) T.zqg PyProof.Rows.boot_min (Za (pD hu (pv 7) Zs) (Za (Zv Xc (pv 8) (pI (iL K) (Ya (Za Zi (Za (Zv Xc Zi (Zv Yv (Zv Xi (pv 10) Zi) Zi)) Zd))) (Y7 zbe (by rfl) T.zqf PyProof.Rows.boot_int (Za (Na W0 (pv 9) Zi (Zw _)) Zd)))) Zd))))
 (Zb (Te (i:=12) Y3.nd rfl rfl rfl (cT ["_law_day","_law_page"] [11,7]) (Yh (K:=K) rfl (pD hu (pv 7) Zs)) (fun _ _ _ _ _=>Pf (Zo (Kj (K:=K) rfl hr.units) (Ye (Za (pv 1) (Za (pI (iU K) (pv 0) Zi) Zd))) (pD hu (pv 2) Zs) (by with_unfolding_all rfl))) (fun _ _ _ _ _=>(pI (iU K) (pv 0) Zi)))
 (Zb (Z5 (PW.pt (Jf (Zo (zak (K:=K) rfl hr.units) (pv 12) (Ya Zd) (Zw _)) (O9 (PW.pt (V0 (Zo Ra (pv 9) Zi (Zw _)) (Ws (PW.pt (Jf (Zo Ra (pv 9) Zi (Zw _)) (O9 (Zo V1 (pD hu (pv 7) Zs) Y5 (Zw _)))))))))))
  (Ze (Zm (Ye (Za Zs (Za (pv 11) (Za (pI (iL K) (pv 12) (Zv Yv (pv 10) (Zn (cL K) (by rfl) T.zkq PySem.boot_len (Za (pv 12) Zd)))) Zd))))))
  Zr)
 (Zb (Z5 (Zo V1 (pD hu (pv 7) Zs) Y5 (Zw _))
  (Ze (Zm (Ye (Za Zs Zd))))
  Zr)
 (Zb (pS 13 Y3.nd (Ua rfl (cT [] []) (Yh (K:=K) rfl (pD hu (pv 7) Zs)) (fun _ _ _ _ _=>V3) (fun _ _ _ _ _=>(pI (iU K) (pv 0) Zi))))
 (Zb (Te (i:=14) Y3.nd rfl rfl rfl (cT ["_law_known"] [13]) (Yh (K:=K) rfl (pv 6)) (fun _ _ _ _ _=>Pf (Zo (P6 (K:=K) rfl) (pv 0) (pv 1) (by with_unfolding_all rfl))) (fun _ _ _ _ _=>(pv 0)))
 (Zb (Z5 (PW.pt (Jf (Zo W0 (pv 9) Zi (Zw _)) (O9 (Zo (zak (K:=K) rfl hr.units) (pv 14) (Ya Zd) (Zw _)))))
  (Zb (pS 15 Y3.nd (pI (iL K) (pv 5) (Zv Yv (Zv Xi (pv 10) Zi) (Zn (cL K) (by rfl) T.zkq PySem.boot_len (Za (pv 5) Zd)))))
  (Ze (Zm (Ye (Za Zs (Za (pI (iL K) (pv 14) (Zv Yv (pv 10) (Zn (cL K) (by rfl) T.zkq PySem.boot_len (Za (pv 14) Zd)))) (Za (Zv Xc Zi (Zv Yv (Zv Xi (pv 10) Zi) Zi)) (Za (pv 15) Zd))))))))
  Zr)
 (Ze (Zm (Ye (Za Zs (Za (pF znz hr (Za (pv 10) (Za (pv 5) (Za (pv 3) (Za (pv 4) Zd))))) Zd)))))))))))))))))),?_⟩
 show let y1:TS:=_;let y2:TS:=Z2 _ y1;let y3:TS:=Z2 _ y2;let y4:TS:=Z2 _ y3;let y5:TS:=Z2 _ y4;let y6:TS:=Z2 _ y5;let y7:TS:=Z2 _ y6;let y8:TS:=Z2 _ y7;let y9:TS:=Z2 _ y8;let y10:TS:=Z2 _ y9;let y11:TS:=Z2 _ y10;let y12:TS:=Z2 _ y11;let y13:TS:=Z2 _ y12;Z2 _ y13 _ _ _;intro y1 y2 y3 y4 y5 y6 y7 y8 y9 y10 y11 y12 y13;have sz0:([]:List V).length<=sizeLine:=z1j _;obtain⟨lp,lo,lv,dv,li,lg,lm,a1,PB,okd⟩:=id PA.split;have hat:atI ((ds++[d]).map V.ref) (-1)=some (V.ref d):=by rw[z0y];exact L2.atI_last _ _
 obtain⟨vts,v1,v2,v3⟩:=PB.vv;refine⟨_,rfl,t,_,rfl,SqT.of PL.tup,rfl,_,_,rfl,_,_,rfl,rfl,?_⟩;walk_at "if";refine⟨_,rfl,_,rfl,l,_,_,_,rfl,rfl,SqL.of hl,hat,?_⟩;walk_at "if";refine⟨_,rfl,d,_,rfl,DGet.k (k:=.inr "over") a1,lv,vts,rfl,.inl (SqL.of v1),_,_,rfl,rfl,?_⟩;rw[v2.length];walk_at "if";refine⟨_,rfl,_,_,rfl,rfl,(by omega),?_⟩
 walk_at "if";refine⟨_,rfl,_,_,rfl,rfl,⟨by omega,by omega⟩,?_⟩
 walk_at "if";obtain⟨kd,hkd⟩:∃ kd,kd=cell%8:=⟨_,rfl⟩
 obtain⟨R,hR⟩:∃ R,R=cell/8:=⟨_,rfl⟩
 rw[<- hkd,<- hR];show Z2 _ _ _ [some (.ref l),some (.int cell),some (.ref t),some (.int most),some (.int mixed),some (.ref lc),some (.ref ln),some (.ref d),some (.int ((P0.over.length:Int)+1)),some (.int kd),some (.int R),none,none,none,none,none] H;have hdl:((((ds++[d]).map V.ref).length:Nat):Int)=(ds.length:Int)+1:=by rw[z0t,z0w];rfl
 have tup1:∀ (w:Str),([V.str w]).length<=sizeLine:=fun w=>by show 1<=sizeLine;rw[sizeLine_eq];decide
 refine Se (V4 (b:=decide (V.int kd=V.int 7)&&decide (1<(ds.length:Int)+1)) (Fl (fun Q q=>⟨_,rfl,rfl,_,rfl,q⟩) (fun Q q=>⟨_,rfl,l,_,rfl,.inl (SqL.of hl),_,_,rfl,rfl,_,rfl,by rw[hdl];exact q⟩)) (itB (fun hb=>?_) (fun _=>Zz ?_)))
 ·refine⟨tup1 _,fun tt ft=>?_⟩
  refine h tt .back _ (show upd H tt _ tt=_ from Zc) ?_ (Zf ft) ft
  rw[z17,decide_eq_true_eq,decide_eq_true_eq] at hb
  intro z;rw[z] at hb
  have:=hb.2;simp at this
 refine⟨_,rfl,d,_,rfl,DGet.k (k:=.inr "rounds") a1,_,rfl,_,rfl,_,_,rfl,rfl,⟨by omega,by omega⟩,_,_,rfl,rfl,(by omega),_,_,rfl,rfl,sz2,fun l2 f2=>?_⟩
 have s2:=Zf (o:=.lst [.int 0,.int (1+R/60%3)]) f2;have q2:=Zc (H:=H) (a:=l2) (o:=.lst [.int 0,.int (1+R/60%3)]);generalize upd H l2 (.lst [.int 0,.int (1+R/60%3)])=H2 at s2 q2 ⊢
 obtain⟨z,hz,hz0⟩:∃ z:Int,atI [V.int 0,V.int (1+R/60%3)] (if decide (V.int kd=V.int 6)=true then 1 else 0)=some (.int z)/\0<=z:=by
  cases decide (V.int kd=V.int 6) with
  | true=>exact⟨_,rfl,by omega⟩
  | false=>exact⟨0,rfl,by omega⟩
 refine⟨_,rfl,rfl,.inr ⟨_,rfl,l2,_,_,_,rfl,rfl,SqL.of q2,hz,_,_,rfl,rfl,_,_,rfl,?_⟩⟩;obtain⟨day,hday,hd1,hd2⟩:∃ day:Int,(if ((P0.over.length:Int)+1+z)<(P0.len:Int) then ((P0.over.length:Int)+1+z) else (P0.len:Int))=day/\(P0.over.length:Int)<day/\day<=P0.len:=⟨_,rfl,by split<;>omega,by split<;>omega⟩
 rw[hday];walk_at "if";obtain⟨pts,p1,p2,p3⟩:=PB.pp;obtain⟨ots,o1,o2,o3⟩:=PB.oo;have hpl:pts.length=P0.ppl.length:=by rw[p2.length,z0t]
 have hls:=PB.li.some;refine⟨_,rfl,d,_,rfl,DGet.k (k:=.inr "people") (s2 _ _ a1),lp,rfl,⟨_,SqL.of (s2 _ _ p1)⟩,Wq (K:=K) (a:=lp) (xs:=pts) (fun i ys H'=>Same H2 H'/\ys=(((P0.ppl.take i).filter fun x=>!decide ((day,x.1)∈P0.out)).map (·.1)).map V.int) ⟨Same.refl _,rfl⟩ (fun i ys H' _ ⟨z,_⟩=>SqL.of (z _ _ (s2 _ _ p1))) (szN (by omega)) (fun i ys H' ⟨_,e⟩=>by rw[e,z0t,z0t];exact z09 (z1n _ _) (z1z _ _)) ?_ ?_⟩
 ·rintro j x ys H3 hx3 ⟨s3,rfl⟩
  obtain⟨tp,pp,rfl,hpp',htp⟩:=Nk p2 hx3;have sh3:=s2.trans s3;refine⟨_,rfl,_,rfl,tp,_,_,_,rfl,rfl,SqT.of (sh3 _ _ htp),(show atI (pV pp) 0=some _ from rfl),sz2,fun t3 f3=>?_⟩
  have s4:=Zf (o:=.tup [.int day,.int pp.1]) f3;have q4:=Zc (H:=H3) (a:=t3) (o:=.tup [.int day,.int pp.1]);generalize upd H3 t3 (.tup [.int day,.int pp.1])=H4 at s4 q4 ⊢
  have sh4:=sh3.trans s4;refine⟨_,rfl,d,_,rfl,DGet.k (k:=.inr "out") (sh4 _ _ a1),t3,lo,ots,_,_,P0.out,rfl,rfl,SqT.of q4,SqL.of (sh4 _ _ o1),o2.same sh4,_,rfl,?_⟩;rw[if_pos rfl,Y8 hpp',z2c,z0y,z0y];refine itB (fun hb=>?_) (fun hb=>?_)
  ·refine⟨_,rfl,tp,_,_,_,rfl,rfl,SqT.of (sh4 _ _ htp),(show atI (pV pp) 0=some _ from rfl),s3.trans s4,?_⟩
   rw[z2f (p:=fun x:P3=>!decide ((day,x.1)∈P0.out)) (a:=pp) hb,z2s]
   rfl
  ·refine⟨s3.trans s4,?_⟩
   rw[z2e (p:=fun x:P3=>!decide ((day,x.1)∈P0.out)) (a:=pp) (by rw[hb];decide),z2s]
   simp
 rintro ys H3 ⟨s3,rfl⟩ lh flh;rw[hpl,z1b];obtain⟨he,hhe⟩:∃ he,he=(P0.ppl.filter fun x=>!decide ((day,x.1)∈P0.out)).map (·.1):=⟨_,rfl⟩
 rw[<- hhe];have hel:he.length<=100:=by rw[hhe,z0t];exact z09 (z1n _ _) hpp
 have hem:∀ n∈he,n∈P0.ppl.map (·.1)/\(day,n)∉P0.out:=fun n hn=>by
  rw[hhe] at hn
  obtain⟨x,hx,rfl⟩:=z02.mp hn;obtain⟨hx1,hx2⟩:=z1t.mp hx;exact⟨z02.mpr ⟨x,hx1,rfl⟩,by simpa using hx2⟩
 have s4:=(s2.trans s3).trans (Zf (o:=.lst (he.map V.int)) flh);have q4:=Zc (H:=H3) (a:=lh) (o:=.lst (he.map V.int));show Wt 12 (V.ref lh) _ (upd H3 lh (.lst (he.map V.int))) _;generalize upd H3 lh (.lst (he.map V.int))=H4 at s4 q4 ⊢
 walk_at "if";refine Se (Cf (b:=!he.isEmpty&&(decide (3<kd)||(decide (0<kd)&&P0.lis.isSome))) (Fy (Kb rfl q4) (fun H5 s5=>Rv (Qt (fun Q q=>⟨_,rfl,_,_,rfl,rfl,_,rfl,q⟩) (Fl (fun Q q=>⟨_,rfl,_,_,rfl,rfl,_,rfl,q⟩) (fun Q q=>⟨_,rfl,d,_,rfl,DGet.k (k:=.inr "listed") (s5 _ _ (s4 _ _ a1)),rfl,_,rfl,by rw[hls];exact q⟩))))) (fun H5 s5=>itB (fun hb=>?_) (fun _=>Zz ?_)))
 ·rw[z17] at hb
  have hne:he.length≠0:=by have:=hb.1;intro z;rw[z2n.mp z] at this;exact absurd this (by decide)
  have hpos:(0:Int)<(he.length:Int):=by omega
  have y0:=z1v R (show (he.length:Int)≠0 by omega)
  have y1:=z1q R hpos;have hix:=Wo (xs:=he) y0 (by omega)
  have mix:=Sb (ns:=he) (i:=(R%(he.length:Int)).toNat) (by omega)
  generalize he.getD (R%(he.length:Int)).toNat 0=n at hix mix
  refine⟨_,rfl,_,rfl,_,rfl,_,rfl,lh,_,rfl,.inl (SqL.of (s5 _ _ q4)),?_⟩;rw[z0t];refine⟨_,_,rfl,rfl,hpos,lh,_,_,_,rfl,rfl,SqL.of (s5 _ _ q4),hix,(by show 3<=sizeLine;rw[sizeLine_eq];decide),fun tt ft=>?_⟩
  exact h tt (.away day n) _ (show upd H5 tt _ tt=_ from Zc) ⟨hd1,hd2,(hem n mix).1,(hem n mix).2⟩ ((s4.trans s5).trans (Zf ft)) ((s4.trans s5).free ft)
 have s05:=s4.trans s5;dsimp only;refine Se (V4 (b:=P0.lis.isSome) (fun Q q=>⟨_,rfl,d,_,rfl,DGet.k (k:=.inr "listed") (s05 _ _ a1),rfl,_,rfl,by rw[hls];exact q⟩) (itB (fun hb=>?_) (fun hb=>Zz ?_)))
 ·refine⟨tup1 _,fun tt ft=>?_⟩
  exact h tt .close _ (show upd H5 tt _ tt=_ from Zc) (fun z=>by rw[z] at hb;cases hb) (s05.trans (Zf ft)) (s05.free ft)
 have hno:P0.lis=none:=by
  cases hq:P0.lis with
  | none=>rfl
  | some ms=>rw[hq] at hb;cases hb
 dsimp only;have nul:=PL.nfew;have csl:=PL.few;refine⟨_,rfl,d,_,rfl,DGet.k (k:=.inr "people") (s05 _ _ a1),lp,rfl,⟨_,SqL.of (s05 _ _ p1)⟩,Wq (K:=K) (a:=lp) (xs:=pts) (fun i ys H'=>Same H5 H'/\ys=((P0.ppl.take i).map (·.1)).map V.int) ⟨Same.refl _,rfl⟩ (fun i ys H' _ ⟨z,_⟩=>SqL.of (z _ _ (s05 _ _ p1))) (szN (by omega)) (fun i ys H' ⟨_,e⟩=>by rw[e,z0t,z0t];exact z1z _ _) ?_ ?_⟩
 ·rintro j x ys H6 hx6 ⟨s6,rfl⟩
  obtain⟨tp,pp,rfl,hpp',htp⟩:=Nk p2 hx6;unfold tYes;dsimp only;rw[if_pos rfl];refine⟨_,rfl,tp,_,_,_,rfl,rfl,SqT.of (s6 _ _ (s05 _ _ htp)),(show atI (pV pp) 0=some _ from rfl),s6,?_⟩
  rw[Y8 hpp',z0y,z0y];rfl
 rintro ys H6 ⟨s6,rfl⟩ lk flk;rw[hpl,z1b];obtain⟨kn,hkn⟩:∃ kn,kn=P0.ppl.map (·.1):=⟨_,rfl⟩
 rw[<- hkn];have s7:=(s05.trans s6).trans (Zf (o:=.lst (kn.map V.int)) flk);have q7:=Zc (H:=H6) (a:=lk) (o:=.lst (kn.map V.int));show Wt 13 (V.ref lk) _ (upd H6 lk (.lst (kn.map V.int))) _;generalize upd H6 lk (.lst (kn.map V.int))=H7 at s7 q7 ⊢
 walk_at "if";refine⟨_,rfl,ln,rfl,⟨_,SqL.of (s7 _ _ PL.nums)⟩,Wq (K:=K) (a:=ln) (xs:=nu.map V.int) (fun i ys H'=>H'=H7/\ys=((nu.take i).filter fun n=>!decide (n∈kn)).map V.int) ⟨rfl,rfl⟩ (fun i ys H' _ ⟨z,_⟩=>by rw[z];exact SqL.of (s7 _ _ PL.nums)) (szN (by rw[z0t];omega)) (fun i ys H' ⟨_,e⟩=>by rw[e,z0t];exact z09 (z1n _ _) (z1z _ _)) ?_ ?_⟩
 ·rintro j x ys H8 hx8 ⟨rfl,rfl⟩
  rw[z0x] at hx8
  obtain⟨n,hn,rfl⟩:=z11.mp hx8;refine⟨_,rfl,_,rfl,lk,_,rfl,.inl (SqL.of q7),rfl,(z2w.mpr fun y hy=>by obtain⟨i,_,rfl⟩:=z02.mp hy;rfl),_,rfl,?_⟩
  rw[if_pos rfl,K9,Y8 hn,z2c,z0y];refine itB (fun hb=>?_) (fun hb=>?_)
  ·refine⟨_,rfl,rfl,?_⟩
   rw[z2f (p:=fun n:Int=>!decide (n∈kn)) (a:=n) hb,z2s]
   rfl
  ·refine⟨rfl,?_⟩
   rw[z2e (p:=fun n:Int=>!decide (n∈kn)) (a:=n) (by rw[hb];decide),z2s]
   simp
 rintro ys H8 ⟨rfl,rfl⟩ lf flf;rw[z0t,z1b];obtain⟨fs,hfs⟩:∃ fs,fs=nu.filter fun n=>!decide (n∈kn):=⟨_,rfl⟩
 rw[<- hfs];have hfm:∀ n∈fs,n∈nu/\n∉P0.ppl.map (·.1):=fun n hn=>by
  rw[hfs] at hn
  obtain⟨hx1,hx2⟩:=z1t.mp hn;exact⟨hx1,by rw[<- hkn];simpa using hx2⟩
 have hfl:fs.length<=100:=by rw[hfs];exact z09 (z1n _ _) (by omega)
 have s9:=s7.trans (Zf (o:=.lst (fs.map V.int)) flf);have q9:=Zc (H:=H8) (a:=lf) (o:=.lst (fs.map V.int));show Wt 14 (V.ref lf) _ (upd H8 lf (.lst (fs.map V.int))) _;generalize upd H8 lf (.lst (fs.map V.int))=H9 at s9 q9 ⊢
 walk_at "if";refine Se (Cf (b:=decide (V.int kd=V.int 3) && !fs.isEmpty) (Fy (Rv (fun Q q=>⟨_,rfl,rfl,_,rfl,q⟩)) (fun H10 s10=>Kb rfl (s10 _ _ q9))) (fun H10 s10=>itB (fun hb=>?_) (fun _=>Zz ?_)))
 ·rw[z17] at hb
  have hne:fs.length≠0:=by have:=hb.2;intro z;rw[z2n.mp z] at this;exact absurd this (by decide)
  have hpos:(0:Int)<(fs.length:Int):=by omega
  have y0:=z1v R (show (fs.length:Int)≠0 by omega)
  have y1:=z1q R hpos;have hix:=Wo (xs:=fs) y0 (by omega)
  have mix:=Sb (ns:=fs) (i:=(R%(fs.length:Int)).toNat) (by omega)
  generalize fs.getD (R%(fs.length:Int)).toNat 0=n at hix mix
  have hcl:(0:Int)<(cs.length:Int):=by omega
  have w0:=z1v (R/360) (show (cs.length:Int)≠0 by omega)
  have w1:=z1q (R/360) hcl;have hcs:=Wo (xs:=cs) w0 (by omega)
  have mcs:=Sb (ns:=cs) (i:=(R/360%(cs.length:Int)).toNat) (by omega)
  generalize cs.getD (R/360%(cs.length:Int)).toNat 0=c at hcs mcs
  have s010:=s9.trans s10;refine⟨_,rfl,_,rfl,_,_,rfl,rfl,⟨by omega,by omega⟩,_,rfl,lc,_,rfl,.inl (SqL.of (s010 _ _ PL.clubs)),?_⟩
  rw[z0t];refine⟨_,_,rfl,rfl,hcl,lc,_,_,_,rfl,rfl,SqL.of (s010 _ _ PL.clubs),hcs,?_⟩;walk_at "if";refine⟨_,rfl,_,rfl,_,rfl,lf,_,rfl,.inl (SqL.of (s10 _ _ q9)),?_⟩;rw[z0t];refine⟨_,_,rfl,rfl,hpos,lf,_,_,_,rfl,rfl,SqL.of (s10 _ _ q9),hix,_,rfl,_,_,rfl,rfl,⟨by omega,by omega⟩,_,_,rfl,rfl,(by omega),_,_,rfl,rfl,_,rfl,(by show 4<=sizeLine;rw[sizeLine_eq];decide),fun tt ft=>?_⟩
  exact h tt (.enrol n (1+R/40%9) c) _ (show upd H10 tt _ tt=_ from Zc) ⟨hno,(hfm n mix).1,(hfm n mix).2,by omega,by omega,mcs⟩ (s010.trans (Zf ft)) (s010.free ft)
 have s010:=s9.trans s10;dsimp only;refine⟨_,rfl,_,rfl,_,rfl,_,rfl,lc,cs,R,most,mixed,rfl,s010 _ _ PL.clubs,by omega,by omega,PL.cnd,PL.crng,hm1,hmx,fun lm' ts ms H11 hlm tl hml gm s11 flm=>⟨sz2,fun tt ft=>?_⟩⟩
 have s12:=Zf (o:=.tup [.str "draw up",.ref lm']) ft;exact h tt (.draw ms) _ ⟨lm',ts,Zc,s12 _ _ hlm,tl.same s12,s010.free flm⟩ ⟨hno,hml,gm⟩ ((s010.trans s11).trans s12) ((s010.trans s11).free ft)
noncomputable abbrev Xk:Stmt:=top 77
theorem Ke:Zl ["_law_script","_law_crowd","_law_many"] ["_law_script","_law_crowd"] (Zj Xk):=fnS
@[irreducible] noncomputable def Sz:List Expr:=zcc (C5 (Pu (Xu (Zt Xk) 0)))
@[irreducible] noncomputable def Kf:Pos:=zcd (C5 (Pu (Xu (Zt Xk) 0)))
theorem Gv:Zt Xk=[.Assign (zes (Xu (Zt Xk) 0)) (.Subscript (.List Sz Kf) (zf4 (Pu (Xu (Zt Xk) 0))) (zf5 (Pu (Xu (Zt Xk) 0)))) (stP (Xu (Zt Xk) 0)),Xu (Zt Xk) 1]:=by unfold Sz Kf;kernel_rfl
theorem Gw:J8 Sz [4,3,5,4,6,10,4,8]:=by unfold Sz;exact⟨by kernel_rfl,by kernel_rfl⟩
theorem Bl(F:Fun K "_law_pool" "_law_pool" Xk f fd)(T:Tx K mg a)(zku:Z9 P w K mg base "_law_at" 1 ["_law_script","_law_k"] (Ac K))(zon:Z9 P w K mg base "_law_clubs" 1 ["_law_cell_here","_law_many"] zam)(zn2:Z9 P w K mg base "_law_numbers" 1 ["_law_cell_here","_law_many"] Jt):Z6 P w K mg base (CX1 P w) 2 f fd ["_law_script","_law_crowd"] (C0 K):=by
 refine F.okX Ke (by walk_at "ar") fun _ _ _ _ H _ Q E hr h=>?_
 obtain⟨b,ns,cr,rfl,hS,hc1,hc2,h⟩:=h;rw[Gv];refine⟨_,(Zb (pS 2 Ke.nd (pI (iL K) (Ya (Pl [4,3,5,4,6,10,4,8] Gw)) (Zv Yv (Zv Xi (pF zku hr (Za (pv 0) (Za Zi Zd))) Zi) Zi)))
 (Ze (Zm (Ye (Za (pF zon hr (Za (pF zku hr (Za (pv 0) (Za Zi Zd))) (Za (pv 2) Zd))) (Za (pF zn2 hr (Za (pF zku hr (Za (pv 0) (Za Zi Zd))) (Za (pv 1) Zd))) Zd)))))),?_⟩
 refine zh8 [4,3,5,4,6,10,4,8] (by decide) fun l H1 q1 s1 fl=>?_
 have h0:=z1v (Xg ns 0/4) (show (8:Int)≠0 by decide)
 have h1:=z1q (Xg ns 0/4) (show (0:Int)<8 by decide)
 refine⟨_,rfl,b,ns,0,rfl,s1.seq hS,_,_,rfl,rfl,⟨by decide,by decide⟩,_,_,rfl,rfl,(show (0:Int)<8 by decide),l,_,_,_,rfl,rfl,SqL.of q1,Wo (xs:=[4,3,5,4,6,10,4,8]) h0 (by show _<((8:Nat):Int);omega),?_⟩
 obtain⟨m,hm,hm1,hm2⟩:∃ m:Nat,([4,3,5,4,6,10,4,8]:List Int).getD (Xg ns 0/4%8).toNat 0=m/\3<=m/\m<=10:=by
  have hk:(Xg ns 0/4%8).toNat<8:=by omega
  generalize (Xg ns 0/4%8).toNat=k at hk
  match k,hk with
  | 0,_=>exact⟨4,rfl,by decide,by decide⟩
  | 1,_=>exact⟨3,rfl,by decide,by decide⟩
  | 2,_=>exact⟨5,rfl,by decide,by decide⟩
  | 3,_=>exact⟨4,rfl,by decide,by decide⟩
  | 4,_=>exact⟨6,rfl,by decide,by decide⟩
  | 5,_=>exact⟨10,rfl,by decide,by decide⟩
  | 6,_=>exact⟨4,rfl,by decide,by decide⟩
  | 7,_=>exact⟨8,rfl,by decide,by decide⟩
 rw[hm];refine⟨_,rfl,b,ns,3,rfl,s1.seq hS,_,rfl,_,m,rfl,by omega,fun lc H2 hlc s2 f2=>?_⟩
 refine⟨_,rfl,b,ns,2,rfl,(s1.trans s2).seq hS,_,rfl,_,cr,rfl,by omega,fun ln H3 hln s3 f3=>?_⟩
 refine⟨sz2,fun t ht=>?_⟩
 have s4:=Zf (o:=.tup [.ref lc,.ref ln]) ht;have s13:=s1.trans (s2.trans s3);refine h t lc ln _ _ _ ⟨Zc,s4 _ _ (s3 _ _ hlc),s4 _ _ hln,by rw[Hz];exact⟨hm1,hm2⟩,C3 _ hm2,zca _ _,by rw[Nj];exact⟨hc1,hc2⟩,C4 _ (by omega),zcb _ _⟩ (Nj _ _) (s13.trans s4) (s13.free ht) (s1.free f2) ((s1.trans s2).free f3)
noncomputable abbrev Yd:Stmt:=top 78
theorem Yx:Zl ["_law_script","_law_pool_here","_law_clubs_here","_law_numbers_here","_law_many","_law_grades","_law_rest_here","_law_deeds","_law_k"] ["_law_script","_law_pool_here"] (Zj Yd):=fnS
@[irreducible] noncomputable def Tc:List Expr:=zcc (Pu (Xu (Zt Yd) 3))
@[irreducible] noncomputable def Ob:Pos:=zcd (Pu (Xu (Zt Yd) 3))
theorem K3:Zt Yd=[Xu (Zt Yd) 0,Xu (Zt Yd) 1,Xu (Zt Yd) 2,.Assign (zes (Xu (Zt Yd) 3)) (.List Tc Ob) (stP (Xu (Zt Yd) 3)),Xu (Zt Yd) 4,Xu (Zt Yd) 5,Xu (Zt Yd) 6,Xu (Zt Yd) 7]:=by unfold Tc Ob;kernel_rfl
theorem K4:J8 Tc [1,2,3,4,5,6,7,8,9,9,9,9,9,8,8,7,6,5]:=by unfold Tc;exact⟨by kernel_rfl,by kernel_rfl⟩
theorem Gx(F:Fun K "_law_people" "_law_people" Yd f fd)(T:Tx K mg a)(zku:Z9 P w K mg base "_law_at" 1 ["_law_script","_law_k"] (Ac K))(zlx:Z9 P w K mg base "_law_mix" 1 ["_law_cell_here","_law_k"] zal):Z6 P w K mg base (CX1 P w) 2 f fd ["_law_script","_law_pool_here"] (Ih K):=by
 refine F.okX Yx (by walk_at "ar") fun _ _ _ _ H _ Q E hr h=>?_
 obtain⟨b,t,lc,ln,ns,cs,nu,rfl,hS,PA,h⟩:=h;rw[K3];refine⟨_,(Zb (Mg (pv 1) (Wg (K:=K) (n:=2) rfl rfl (Zy (pN 2 Yx.nd) (Zy (pN 3 Yx.nd) Wf))))
 (Zb (pS 4 Yx.nd (Zv Yv (pF zku hr (Za (pv 0) (Za Zi Zd))) (Zv Xc (Zn (cL K) (by rfl) T.zkq PySem.boot_len (Za (pv 3) Zd)) Zi)))
 (Zb (Z5 (Zo W0 (Zv Yv (Zv Xi (pF zku hr (Za (pv 0) (Za Zi Zd))) (Zv Xc (Zn (cL K) (by rfl) T.zkq PySem.boot_len (Za (pv 3) Zd)) Zi)) Zi) Zi (Zw _))
  (Ze (pS 4 Yx.nd (Zv Rr (Zn (cL K) (by rfl) T.zkq PySem.boot_len (Za (pv 3) Zd)) (Zv Yv (pv 4) Zi))))
  Zr)
 (Zb (pS 5 Yx.nd (Ya (Pl [1,2,3,4,5,6,7,8,9,9,9,9,9,8,8,7,6,5] K4)))
 (Zb (pS 6 Yx.nd (pF zku hr (Za (pv 0) (Za Zi Zd))))
 (Zb (pS 7 Yx.nd (Ya Zd))
 (Zb (Y6 PassesOwn.leaving rfl (Xh rfl T.zk8 (Za (pv 4) Zd)) (pN 8 Yx.nd)
  (Zb (Yu (pv 7) (Ye (Za Zs (Za (pI (iL K) (pv 3) (pv 8)) (Za (pI (iL K) (pv 5) (Zv Yv (pv 6) Zi)) (Za (pI (iL K) (pv 2) (Zv Yv (Zv Xi (pv 6) Zi) (Zn (cL K) (by rfl) T.zkq PySem.boot_len (Za (pv 2) Zd)))) Zd))))))
  (Ze (pS 6 Yx.nd (pI (iL K) (Ya (Za (Zv Xi (Zv Xi (pv 6) Zi) (Zn (cL K) (by rfl) T.zkq PySem.boot_len (Za (pv 2) Zd))) (Za (pF zlx hr (Za (pv 6) (Za (pv 8) Zd))) Zd))) (Zv Yv (pF zku hr (Za (pv 0) (Za Zi Zd))) Zi))))))
 (Ze (Zm (pv 7)))))))))),?_⟩
 show let y1:TS:=_;let y2:TS:=Z2 _ y1;let y3:TS:=Z2 _ y2;let y4:TS:=Z2 _ y3;let y5:TS:=Z2 _ y4;let y6:TS:=Z2 _ y5;let y7:TS:=Z2 _ y6;Z2 _ y7 _ _ _;intro y1 y2 y3 y4 y5 y6 y7;have sz0:([]:List V).length<=sizeLine:=z1j _;have hw:(0:Int)<(nu.length:Int)+1:=by omega
 obtain⟨c1,c2⟩:=PA.few;obtain⟨n1,n2⟩:=PA.nfew;refine⟨_,rfl,t,_,rfl,SqT.of PA.tup,rfl,_,_,rfl,_,_,rfl,rfl,?_⟩;walk_at "if";refine⟨_,rfl,b,ns,4,rfl,hS,_,rfl,ln,_,rfl,.inl (SqL.of PA.nums),_,_,rfl,rfl,?_⟩;rw[z0t];refine⟨_,_,rfl,rfl,hw,?_⟩;walk_at "if";have u0:=z1v (Xg ns 4) (show (nu.length:Int)+1≠0 by omega)
 have u1:=z1q (Xg ns 4) hw
 let jv3:L2.St->Hp->Prop:=fun σ' H'=>H'=H/\∃ m:Nat,σ'=[some (.ref b),some (.ref t),some (.ref lc),some (.ref ln),some (.int m),none,none,none,none]/\m<=nu.length
 refine D8 (b:=decide (V.int (Xg ns 4/((nu.length:Int)+1)%2)=V.int 1)) jv3 (fun Q q=>?_) (fun _ N hN=>?_) (fun _ N hN=>?_) ?_
 ·refine⟨_,rfl,b,ns,4,rfl,hS,_,rfl,ln,_,rfl,.inl (SqL.of PA.nums),_,_,rfl,rfl,?_⟩
  rw[z0t];exact⟨_,_,rfl,rfl,⟨hw,by omega⟩,_,_,rfl,rfl,by omega,rfl,_,rfl,q⟩
 ·refine⟨_,rfl,ln,_,rfl,.inl (SqL.of PA.nums),?_⟩
  rw[z0t];refine⟨_,rfl,_,_,rfl,rfl,by omega,_,_,rfl,rfl,hN _ _ ⟨rfl,((nu.length:Int)-Xg ns 4%((nu.length:Int)+1)%2).toNat,?_,by omega⟩⟩
  rw[z20 (by omega)];rfl
 ·refine Zz (hN _ _ ⟨rfl,(Xg ns 4%((nu.length:Int)+1)).toNat,?_,by omega⟩)
  rw[z20 (by omega)];rfl
 rintro σ H' ⟨rfl,m,rfl,hm⟩;refine C7 [1,2,3,4,5,6,7,8,9,9,9,9,9,8,8,7,6,5] (by decide) fun lg H2 hg s2 fg=>?_
 refine⟨_,rfl,b,ns,5,rfl,s2.seq hS,sz0,fun r fr=>?_⟩
 have s1:=s2.trans (Zf (o:=.lst []) fr);have q1:=Zc (H:=H2) (a:=r) (o:=.lst []);have hg1:=Zf (o:=.lst []) fr _ _ hg;walk_at "if";generalize upd H2 r (.lst [])=H1 at s1 q1 hg1 ⊢
 have fr0:=s2.free fr;have frg:lg≠r:=Zg hg fr
 let jv4:Nat->L2.St->Hp->Prop:=fun i σ H3=>(∃ v8 R,σ=[some (.ref b),some (.ref t),some (.ref lc),some (.ref ln),some (.int m),some (.ref lg),some (.int R),some (.ref r),v8])/\(∀ x o,H1 x=some o->x≠r->H3 x=some o)/\∃ ts es,H3 r=some (.lst ts)/\Yb H3 ts ((es:List P3).map enV)/\es.length=i/\es.map (·.1)=nu.take i/\(∀ x∈es,1<=x.2.1/\x.2.1<=9/\x.2.2∈cs)
 refine⟨_,rfl,_,rfl,by omega,by omega,Xv jv4
  ⟨⟨_,_,rfl⟩,fun _ _ e _=>e,[],[],q1,.nil,rfl,rfl,(fun m z=>nomatch z)⟩ ?_ ?_⟩
 ·rintro i σ H3 hi ⟨⟨v8,R,rfl⟩,k,ts,es,hr',tl,hml,enu,eok⟩
  rw[z1a] at hi
  rw[z18];have s3:Same H' H3:=fun x o e=>k _ _ (s1 _ _ e) (Zg e fr0)
  have hg3:=k _ _ hg1 frg;have PA3:=PA.same s3;have hcl:(0:Int)<(cs.length:Int):=by omega
  have w0:=z1v R (show (18:Int)≠0 by omega)
  have w1:=z1q R (show (0:Int)<18 by omega)
  have y0:=z1v (R/18) (show (cs.length:Int)≠0 by omega)
  have y1:=z1q (R/18) hcl;have hgr:=Wo (xs:=E5) w0 (by show _<((18:Nat):Int);omega)
  have rgr:=As (R%18).toNat (by omega)
  generalize hgv:E5.getD (R%18).toNat 0=gv at hgr rgr
  have hcs:=Wo (xs:=cs) y0 (by omega)
  have mcs:=Sb (ns:=cs) (i:=(R/18%(cs.length:Int)).toNat) (by omega)
  generalize cs.getD (R/18%(cs.length:Int)).toNat 0=c at hcs mcs
  have hni:i<nu.length:=by omega
  have hnu:nu[i]?=some (nu[i]'hni):=z0u hni;have etk:nu.take (i+1)=nu.take i++[nu[i]'hni]:=z1p hni;generalize nu[i]'hni=n at hnu etk
  walk_at "if";refine⟨_,rfl,r,_,rfl,hr',?_⟩;refine⟨_,rfl,_,rfl,ln,_,_,_,rfl,rfl,SqL.of PA3.nums,Z8 (by rw[z0x,hnu];rfl),_,rfl,_,rfl,_,_,rfl,rfl,(by omega),lg,_,_,_,rfl,rfl,SqL.of hg3,hgr,?_⟩
  refine⟨_,rfl,_,rfl,_,_,rfl,rfl,⟨by omega,by omega⟩,_,rfl,lc,_,rfl,.inl (SqL.of PA3.clubs),?_⟩
  rw[z0t];refine⟨_,_,rfl,rfl,hcl,lc,_,_,_,rfl,rfl,SqL.of PA3.clubs,hcs,(by show 4<=sizeLine;rw[sizeLine_eq];decide),fun tt ft=>?_⟩
  have s4:=Zf (o:=.tup [.str "enrol",.int n,.int gv,.int c]) ft;have q4:=Zc (H:=H3) (a:=tt) (o:=.tup [.str "enrol",.int n,.int gv,.int c]);generalize upd H3 tt (.tup [.str "enrol",.int n,.int gv,.int c])=H4 at s4 q4 ⊢
  have tln:=tl.length;rw[z0t] at tln
  refine⟨ts,s4 _ _ hr',szN (by omega),?_⟩
  have k5:∀ x o,H4 x=some o->x≠r->upd H4 r (.lst (ts++[.ref tt])) x=some o:=fun x o e n=>by rw[Zh n];exact e
  have q5:=Zc (H:=H4) (a:=r) (o:=.lst (ts++[.ref tt]));have kt5:∀ x ys,H4 x=some (.tup ys)->upd H4 r (.lst (ts++[.ref tt])) x=some (.tup ys):=fun x ys e=>k5 _ _ e (Yt e (s4 _ _ hr') (by intro z;cases z))
  dsimp only;generalize upd H4 r (.lst (ts++[.ref tt]))=H5 at k5 q5 kt5 ⊢
  have s05:Same H' H5:=fun x o e=>k5 _ _ (s4 _ _ (s3 _ _ e)) (Zg e fr0)
  have PA5:=PA.same s05;obtain⟨mx,hmx,hmx1⟩:∃ mx:Nat,Xg ns 0%2=mx/\mx<=1:=⟨(Xg ns 0%2).toNat,by omega,by omega⟩
  obtain⟨z,hz⟩:=at2 (R/18/(cs.length:Int)) (Ae R (i:Int)) hmx1;refine⟨_,rfl,_,_,rfl,rfl,⟨by omega,by omega⟩,_,rfl,lc,_,rfl,.inl (SqL.of PA5.clubs),?_⟩
  rw[z0t];refine⟨_,_,rfl,rfl,⟨hcl,by omega⟩,_,rfl,_,rfl,_,_,rfl,sz2,fun l2 f2=>?_⟩
  have s6:=Zf (o:=.lst [.int (R/18/(cs.length:Int)),.int (Ae R (i:Int))]) f2;have q6:=Zc (H:=H5) (a:=l2) (o:=.lst [.int (R/18/(cs.length:Int)),.int (Ae R (i:Int))]);generalize upd H5 l2 (.lst [.int (R/18/(cs.length:Int)),.int (Ae R (i:Int))])=H6 at s6 q6 ⊢
  refine⟨_,rfl,b,ns,0,rfl,(s05.trans s6).seq hS,_,_,rfl,rfl,(by omega),l2,_,_,_,rfl,rfl,SqL.of q6,(by rw[hmx];exact hz),?_⟩
  refine⟨⟨_,_,rfl⟩,fun x o e n=>s6 _ _ (k5 _ _ (s4 _ _ (k _ _ e n)) n),ts++[.ref tt],es++[(n,gv,c)],s6 _ _ q5,?_,by rw[z0w,hml];rfl,?_,?_⟩
  ·rw[z0y]
   exact(tl.mono fun x ys e=>s6 _ _ (kt5 _ _ (s4 _ _ e))).snoc (s6 _ _ (kt5 _ _ q4))
  ·rw[z0y,enu,etk];rfl
  ·intro m hm
   rcases z06.mp hm with hm|hm
   ·exact eok m hm
   ·rw[z0z.mp hm];exact⟨rgr.1,rgr.2,mcs⟩
 ·rintro σ H3 ⟨⟨v8,R,rfl⟩,k,ts,es,hr',tl,hml,enu,eok⟩
  rw[z1a] at hml enu
  refine⟨_,rfl,h r ts es H3 hr' tl (by rw[hml];exact enu) (by omega) eok (fun x o e=>k _ _ (s1 _ _ e) (Zg e fr0)) fr0⟩
noncomputable abbrev Uv:Stmt:=top 79
theorem Tj:Zl ["_law_season","_law_pages","_law_deeds","_law_deed_here"] ["_law_season","_law_pages","_law_deeds"] (Zj Uv):=fnS
theorem K5(F:Fun K "_law_enrolled" "_law_enrolled" Uv f fd)(T:Tx K mg a)(zn7:Z9 P w K mg base "_law_do" 8 ["_law_season","_law_deed_here"] (zh6 K (ca a)))(zme:Z9 P w K mg base "_law_paged" 3 ["_law_pages","_law_deed_here"] (E3 K)):Z6 P w K mg base (CX1 P w) 9 f fd ["_law_season","_law_pages","_law_deeds"] (Ii K (ca a)):=by
 refine F.okX Tj (by walk_at "ar") fun _ _ _ _ H _ Q E hr h=>?_
 obtain⟨mb,A',l,le,ts,es,ds,d,P0,S,nu,n,rfl,SA,hl,hlo,F,hle,hlf,tl,nd,eok,hp30,hn90,hcur,hlen,h⟩:=h;refine⟨_,(Zb (Y6 PassesOwn.leaving rfl (Yh (K:=K) rfl (pv 2)) (pN 3 Tj.nd)
  (Zb (Z7 (pF zn7 hr (Za (pv 0) (Za (pv 3) Zd))))
  (Ze (pS 1 Tj.nd (pF zme hr (Za (pv 1) (Za (pv 3) Zd)))))))
 (Ze (Zm (pv 1)))),?_⟩
 have tln:=tl.length;rw[z0t] at tln
 let jv5:Nat->L2.St->Hp->Prop:=fun i σ H1=>∃ A1 l1 ds1 d1 P1 S1 v,σ=[some (.ref A'.p),some (.ref l1),some (.ref le),v]/\Z0 (ca a) H1 A1 S1/\H1 l1=some (.lst ((ds1++[d1]).map V.ref))/\l1∉A1.fp/\Tu mb (·∉A1.fp) H1 nu (n+i) ds1 d1 P1 S1/\FrN A' A1 H H1/\S1.cur=none/\S1.led=S.led/\S1.len=S.len/\S1.ppl=S.ppl++es.take i
 refine⟨_,rfl,le,rfl,⟨_,SqL.of hle⟩,Wb (K:=K) (a:=le) (xs:=ts) jv5
  ⟨A',l,ds,d,P0,S,_,rfl,SA,hl,hlo,F,.refl _ _,hcur,rfl,rfl,by simp⟩ (fun i σ H1 _ ⟨A1,_,_,_,_,_,_,_,_,_,_,_,f,_⟩=>SqL.of (f.k _ _ hle hlf).1) ?_ ?_⟩
 ·rintro i x σ H1 hx ⟨A1,l1,ds1,d1,P1,S1,v,rfl,SA1,hl1,ho1,F1,f1,e1,e2,e3,e4⟩
  have hi:i<ts.length:=(z0v.mp hx).1;have hie:i<es.length:=by omega
  have hex:es[i]?=some (es[i]'hie):=z0u hie;have etk:=Y8 hex;have hmem:es[i]'hie∈es:=z1s hie;obtain⟨t,ht1,ht2⟩:∃ t,x=.ref t/\H t=some (.tup (enV (es[i]'hie))):=by
   obtain⟨t,r,z1,z2,z3⟩:=tl.get hx;rw[z0x,hex] at z2
   cases z2;exact⟨t,z1,z3⟩
  have hfr:(es[i]'hie).1∉(es.take i).map (·.1):=fun z=>by
   obtain⟨y,hy,ey⟩:=z02.mp z;obtain⟨j,hj,rfl⟩:=z13 hy;rw[z2p] at hj
   rw[List.getElem_take] at ey
   have h1:(es.map (·.1))[j]'(by rw[z0t];omega)=(es.map (·.1))[i]'(by rw[z0t];omega):=by rw[List.getElem_map,List.getElem_map];exact ey
   have:=(List.getElem_inj nd).mp h1;omega
  have hok:=eok _ hmem;generalize es[i]'hie=x0 at hex etk hmem ht2 hfr hok
  obtain⟨k,gr,c⟩:=x0;subst ht1;have hD:Ti (·∉A1.fp) H1 t (.enrol k gr c):=f1.kt _ _ ht2
  have g:L7 S1 (.enrol k gr c):=by
   refine⟨by rw[e2,e3];exact hlen,e1,hok.2.1,?_,?_⟩
   ·rw[e4,z0y]
    intro z;rcases z06.mp z with z|z
    ·exact hok.2.2 z
    ·exact hfr z
   ·rw[e4,z0w,z2p];omega
  obtain⟨b1,b2,b3,b4,b5,b6,b7,b8,b9,b10⟩:=F1.pre g (by omega)
  refine⟨_,rfl,_,rfl,A1,S1,t,_,(by rw[f1.p];rfl),SA1,hD,g,b1,b2,b3,b4,b5,b6,b7,b8,b9,b10,fun v' A2 S2 H2 af SA2 nx fr _=>?_⟩
  have f12:=FrN.next SA1 nx fr;obtain⟨c1,c2,c3,c4,c5⟩:=F1.pre2 g (by omega)
  refine⟨_,rfl,_,rfl,(·∉A2.fp),l1,t,ds1,d1,P1,.enrol k gr c,rfl,(f12.k _ _ hl1 ho1).1,F1.pg.fr f12,hD.fr f12,c1,c2,c3,c4,c5,fun l3 d3 H3 hl3 pg s3 fl3 fd3=>?_⟩
  obtain⟨ds2,d2,P2,ek,Pe,eP,_⟩:=turn F1 SA1 af SA2 nx fr g (fun k' gr' c' z=>by cases z;exact hok.1) pg s3 fd3
  cases af with
  | enrol k gr c =>
    rw[ek] at hl3
    refine⟨A2,l3,ds2,d2,P2,_,_,rfl,SA2.same s3,hl3,SA2.newOk _ fl3,Pe.full (fun s hs=>?_) (fun z=>?_),f1.trans (f12.trans (.of s3)),e1,e2,e3,?_⟩
    ·have hs:S1.cur=some s:=hs
     rw[e1] at hs;cases hs
    ·rw[eP nofun]
     show P1.mv=_;rw[F1.re.mv z,Oz e1];exact(Oz e1).symm
    ·show S1.ppl++[(k,gr,c)]=_
     rw[e4,etk,z2l]
 ·rintro σ H1 ⟨A1,l1,ds1,d1,P1,S1,v,rfl,SA1,hl1,ho1,F1,f1,e1,e2,e3,e4⟩
  rw[tln] at F1
  exact⟨_,rfl,h A1 l1 ds1 d1 P1 S1 H1 SA1 hl1 ho1 F1 f1 e1 e2 e3⟩
noncomputable abbrev X5:Stmt:=top 80
theorem Bm:Zl ["_law_script"] ["_law_script"] (Zj X5):=fnS
@[irreducible] noncomputable def S4:List Expr:=zcc (C5 (zf3 (Xu (Zt X5) 0)))
@[irreducible] noncomputable def Kg:Pos:=zcd (C5 (zf3 (Xu (Zt X5) 0)))
theorem Gy:Zt X5=[.Return (some (.Subscript (.List S4 Kg) (zf4 (zf3 (Xu (Zt X5) 0))) (zf5 (zf3 (Xu (Zt X5) 0))))) (stP (Xu (Zt X5) 0))]:=by unfold S4 Kg;kernel_rfl
theorem Gz:J8 S4 [0,1,2,3,4,5,6,7,8,9,10,0,0,0,1,1,1,2,2,0,1,3]:=by unfold S4;exact⟨by kernel_rfl,by kernel_rfl⟩
theorem Bn(F:Fun K "_law_rest" "_law_rest" X5 f fd)(T:Tx K mg a)(zku:Z9 P w K mg base "_law_at" 1 ["_law_script","_law_k"] (Ac K)):Z6 P w K mg base (CX1 P w) 2 f fd ["_law_script"] (Cy K):=by
 refine F.okX Bm (by walk_at "ar") fun _ _ _ _ H _ Q E hr h=>?_
 obtain⟨b,ns,rfl,hS,h⟩:=h;rw[Gy];refine⟨_,(Ze (Zm (pI (iL K) (Ya (Pl [0,1,2,3,4,5,6,7,8,9,10,0,0,0,1,1,1,2,2,0,1,3] Gz)) (Zv Yv (pF zku hr (Za (pv 0) (Za Zi Zd))) Zi)))),?_⟩;refine zh7 L4 (by decide) fun l H1 q1 s1 fl=>?_
 have h0:=z1v (Xg ns 1) (show (22:Int)≠0 by decide)
 have h1:=z1q (Xg ns 1) (show (0:Int)<22 by decide)
 have hat:=Wo (xs:=L4) h0 (show _<((22:Nat):Int) by omega)
 have hb:0<=L4.getD (Xg ns 1%22).toNat 0/\L4.getD (Xg ns 1%22).toNat 0<=10:=by
  generalize (Xg ns 1%22).toNat=k;rw[z1l];cases e:L4[k]? with
  | none=>exact⟨by decide,by decide⟩
  | some x =>
    have hm:=z05 e;have:∀ x∈L4,0<=x/\x<=10:=by decide
    exact this x hm
 have hfin:=h (L4.getD (Xg ns 1%22).toNat 0).toNat H1 rfl (by omega) s1
 rw[z20 hb.1] at hfin
 exact⟨_,rfl,b,ns,1,rfl,s1.seq hS,_,_,rfl,rfl,(show (0:Int)<22 by decide),l,_,_,_,rfl,rfl,SqL.of q1,hat,hfin⟩
noncomputable abbrev T8:Stmt:=top 81
theorem G0:Zl ["_law_script"] ["_law_script"] (Zj T8):=fnS
theorem G1(F:Fun K "_law_rounds" "_law_rounds" T8 f fd)(T:Tx K mg a)(zku:Z9 P w K mg base "_law_at" 1 ["_law_script","_law_k"] (Ac K)):Z6 P w K mg base (CX1 P w) 2 f fd ["_law_script"] (J6 K):=by
 refine F.okX G0 (by walk_at "ar") fun _ _ _ _ H _ Q E hr h=>?_
 obtain⟨b,ns,rfl,hS,h⟩:=h;refine⟨_,(Ze (Zm (pI (iL K) (Ya (Za Zi (Za (Zv Xc Zi (Zv Yv (Zv Xi (pF zku hr (Za (pv 0) (Za Zi Zd))) Zi) Zi)) Zd))) (Zv Yv (Zv Xi (pF zku hr (Za (pv 0) (Za Zi Zd))) Zi) Zi)))),?_⟩;refine⟨_,rfl,b,ns,1,rfl,hS,?_⟩;refine⟨_,_,rfl,rfl,⟨by decide,by decide⟩,_,_,rfl,rfl,(show (0:Int)<60 by decide),_,_,rfl,rfl,sz2,fun l hl=>?_⟩
 have s1:=Zf (o:=.lst [V.int 60,V.int (1+Xg ns 1/22%60)]) hl;have q1:upd H l (.lst [V.int 60,V.int (1+Xg ns 1/22%60)]) l=some (.lst [V.int 60,V.int (1+Xg ns 1/22%60)]):=Zc;refine⟨_,rfl,b,ns,0,rfl,s1.seq hS,_,_,rfl,rfl,⟨by decide,by decide⟩,_,_,rfl,rfl,(show (0:Int)<2 by decide),?_⟩
 have h01:Xg ns 0/2%2=0\/Xg ns 0/2%2=1:=by omega
 have hat:atI [V.int 60,V.int (1+Xg ns 1/22%60)] (Xg ns 0/2%2)=some (.int (((Qz ns).toNat:Nat):Int))/\1<=(Qz ns).toNat/\(Qz ns).toNat<=60:=by
  unfold Qz;rcases h01 with e|e
  ·rw[e,if_pos rfl];exact⟨rfl,by decide,by decide⟩
  ·rw[e,if_neg (by decide),z20 (by omega)]
   exact⟨rfl,by omega,by omega⟩
 exact⟨l,_,_,_,rfl,rfl,SqL.of q1,hat.1,h _ _ rfl hat.2.1 hat.2.2 s1⟩
noncomputable abbrev R7:Stmt:=top 82
theorem Bo:Zl ["_law_script","_law_k"] ["_law_script","_law_k"] (Zj R7):=fnS
theorem Bp(F:Fun K "_law_cell" "_law_cell" R7 f fd)(T:Tx K mg a)(zku:Z9 P w K mg base "_law_at" 1 ["_law_script","_law_k"] (Ac K))(zlx:Z9 P w K mg base "_law_mix" 1 ["_law_cell_here","_law_k"] zal):Z6 P w K mg base (CX1 P w) 2 f fd ["_law_script","_law_k"] (Cz K):=by
 refine F.okX Bo (by walk_at "ar") fun _ _ _ _ H _ Q E hr h=>?_
 obtain⟨b,ns,k,rfl,hS,hk,h⟩:=h;refine⟨_,(Zb (Z5 (Zo W0 (Zv Yv (pF zku hr (Za (pv 0) (Za Zi Zd))) Zi) Zi (Zw _))
  (Ze (Zm (pF zlx hr (Za (pI (iL K) (pv 0) (pv 1)) (Za (pv 1) Zd)))))
  Zr)
 (Ze (Zm (pI (iL K) (pv 0) (pv 1))))),?_⟩
 have hk':(ns.map V.int)[k]?=some (.int (ns[k]'hk)):=by rw[z0x,z0u hk];rfl
 refine⟨_,rfl,b,ns,0,rfl,hS,_,_,rfl,rfl,(show (0:Int)<2 by decide),rfl,_,rfl,?_⟩
 refine itB (fun _=>?_) (fun _=>?_)
 ·exact⟨_,rfl,_,rfl,b,_,_,_,rfl,rfl,hS,Z8 hk',_,rfl,_,_,rfl,h _ H (Same.refl _)⟩
 ·exact⟨_,rfl,_,rfl,b,_,_,_,rfl,rfl,hS,Z8 hk',h _ H (Same.refl _)⟩
noncomputable abbrev Vt:Stmt:=top 83
theorem Y9:Zl ["_law_found","_law_page","_law_k","_law_listed","_law_goes","_law_moves","_law_may","_law_due"] ["_law_found","_law_page"] (Zj Vt):=fnS
theorem Li(F:Fun K "_law_facts_are" "_law_facts_are" Vt f fd)(T:Tx K mg a)(znm:Z9 P w K mg base "_law_rows_are" 4 ["_law_found","_law_due"] (Fi K)):Z6 P w K mg base (CX1 P w) 5 f fd ["_law_found","_law_page"] (Il K):=by
 refine F.okX Y9 (by walk_at "ar") fun _ _ _ _ H _ Q E hr h=>?_
 obtain⟨ok,l,d,ls,P0,rfl,hl,PA,PO,rl,h⟩:=h;have hu:=Wm hr;refine⟨_,(Zb (Z5 (PW.pt (V0 (Wa (X1 (Zn (Va (K:=K) rfl) (by rfl) T.zkx PyProof.Rows.boot_isinstance (Za (pv 0) (Za (Tn rfl T.zlg PyProof.Rows.boot_list (show RelV (.ty "list") _ from rfl)) Zd))))) (Ws (Zo Jg (Zn (cL K) (by rfl) T.zkq PySem.boot_len (Za (pv 0) Zd)) (Zn (cL K) (by rfl) T.zkq PySem.boot_len (Za (pD hu (pv 1) Zs) Zd)) (Zw _)))))
  (Ze (Zm Xq))
  Zr)
 (Zb (Y6 PassesOwn.leaving rfl (Xh rfl T.zk8 (Za (Zn (cL K) (by rfl) T.zkq PySem.boot_len (Za (pv 0) Zd)) Zd)) (pN 2 Y9.nd)
  (Zb (Mg (pI (iL K) (pD hu (pv 1) Zs) (pv 2)) (Wg (K:=K) (n:=4) rfl rfl (Zy (pN 3 Y9.nd) (Zy (pN 4 Y9.nd) (Zy (pN 5 Y9.nd) (Zy (pN 6 Y9.nd) Wf))))))
  (Zb (Te (i:=7) Y9.nd rfl rfl rfl (cT ["_law_goes","_law_listed"] [4,3]) (Xh rfl T.zk8 (Za (Zn (cL K) (by rfl) T.zkq PySem.boot_len (Za (pv 3) Zd)) Zd)) (fun _ _ _ _ _=>V3) (fun _ _ _ _ _=>(Ye (Za (pI (iU K) (pI (iL K) (pv 2) (pv 0)) Zi) (Za (pI (iU K) (pI (iL K) (pv 2) (pv 0)) Zi) (Za (pI (iU K) (pI (iL K) (pv 2) (pv 0)) Zi) (Za (pI (iL K) (pv 1) (pv 0)) Zd)))))))
  (Ze (Z5 (Wa (X1 (pF znm hr (Za (pI (iL K) (pv 0) (pv 2)) (Za (pv 7) Zd)))))
   (Ze (Zm Xq))
   Zr)))))
 (Ze (Zm Xq)))),?_⟩
 obtain⟨lp,lo,lv,dv,li,lg,lm,a1,PB,okd⟩:=id PA.split;obtain⟨vts,u1,u2,u3⟩:=PB.vv;have hvl:=u2.length;have hll:=rl.length;rw[z0t] at hll
 have hz:=PO.1;refine⟨_,rfl,_,_,_,_,rfl,.of (.lst hl),.inl ⟨_,rfl⟩,Js K,_,rfl,?_⟩;refine iteF ?_;refine⟨_,rfl,l,_,rfl,.inl (SqL.of hl),_,rfl,d,_,rfl,DGet.k (k:=.inr "over") a1,lv,vts,rfl,.inl (SqL.of u1),rfl,_,rfl,?_⟩;rw[show (ls.map V.ref).length=vts.length by rw[z0t];omega,z01 rfl]
 refine iteF (Zz ?_);dsimp only
 let jv6:Nat->L2.St->Hp->Prop:=fun i σ H'=>(∃ v2 v3 v4 v5 v6 v7,σ=[some (.ref l),some (.ref d),v2,v3,v4,v5,v6,v7])/\Same H H'
 refine⟨_,rfl,l,_,rfl,.inl (SqL.of hl),_,rfl,by omega,by rw[z0t];omega,Xv jv6 ⟨⟨_,_,_,_,_,_,rfl⟩,Same.refl _⟩ ?_ ?_⟩
 ·rintro i σ H1 hi ⟨⟨v2,v3,v4,v5,v6,v7,rfl⟩,s1⟩
  rw[z1a,z0t] at hi
  rw[z18];have hiv:i<vts.length:=by omega
  obtain⟨t,l1,g1,m1,y1,ts,s,ex,hs,ht,hl1,tl1,hg1,_,_⟩:=u2.get (z0u hiv);have hvt:vts[i]?=some (.ref t):=by rw[z0u hiv,ex]
  obtain⟨lr,trs,w1,w2,w3⟩:=rl.getR (i:=i) (rs:=Z3 s) (by rw[z0x,hs];rfl)
  obtain⟨p1,p2,p3⟩:=PO.2.2 s (z05 hs);have tln:ts.length=s.ms.length:=by rw[tl1.length,z0t]
  have rln:(Z3 s).length=s.ms.length:=by unfold Z3;rw[z2y,p2,Nat.min_self]
  walk_at "if";refine⟨_,rfl,d,_,rfl,DGet.k (k:=.inr "over") (s1 _ _ a1),_,rfl,lv,_,_,_,rfl,rfl,SqL.of (s1 _ _ u1),Z8 hvt,t,_,rfl,SqT.of (s1 _ _ ht),rfl,_,_,rfl,_,_,rfl,_,_,rfl,_,_,rfl,rfl,?_⟩;walk_at "if";refine⟨_,rfl,l1,ts,rfl,.inl (SqL.of (s1 _ _ hl1)),_,rfl,by omega,by omega,?_⟩
  rw[z1a];refine Og (fun j ys H'=>Same H1 H'/\Yb H' ys (((Z3 s).take j).map row4)/\ys.length=j) ⟨Same.refl _,.nil,rfl⟩ (szN (by omega)) (fun j ys H' ⟨_,_,e⟩=>by omega) (fun j ys H' hj p=>?_) (fun ys H' p l' hl'=>?_)
  ·obtain⟨s2,tl2,hyl⟩:=p
   have s02:=s1.trans s2;rw[z18];have hj2:j<s.gv.length:=by omega
   have hgj:s.gv[j]?=some (s.gv[j]'hj2):=z0u hj2;have hone:=p3 _ (z1s hj2);generalize s.gv[j]'hj2=xv at hgj hone
   obtain⟨tj,mj,e1,hmj,htj⟩:=Nk tl1 (z0u hj);have htj':ts[j]?=some (.ref tj):=by rw[z0u hj,e1]
   have hr3:(Z3 s)[j]?=some (J0 mj xv):=by unfold Z3;rw[List.getElem?_zipWith,hmj,hgj]
   unfold tYes;dsimp only;rw[if_pos rfl];refine⟨_,rfl,_,rfl,l1,_,_,_,rfl,rfl,SqL.of (s02 _ _ hl1),Z8 htj',tj,_,_,_,rfl,rfl,SqT.of (s02 _ _ htj),(show atI (pV mj) 0=some _ from rfl),?_⟩
   refine⟨_,rfl,_,rfl,l1,_,_,_,rfl,rfl,SqL.of (s02 _ _ hl1),Z8 htj',tj,_,_,_,rfl,rfl,SqT.of (s02 _ _ htj),(show atI (pV mj) 1=some _ from rfl),?_⟩
   refine⟨_,rfl,_,rfl,l1,_,_,_,rfl,rfl,SqL.of (s02 _ _ hl1),Z8 htj',tj,_,_,_,rfl,rfl,SqT.of (s02 _ _ htj),(show atI (pV mj) 2=some _ from rfl),?_⟩
   refine⟨_,rfl,_,rfl,g1,_,_,_,rfl,rfl,SqL.of (s02 _ _ hg1),Z8 hgj,(by show 4<=sizeLine;rw[sizeLine_eq];decide),fun t9 f9=>?_⟩
   have s9:=Zf (o:=.tup [.int mj.1,.int mj.2.1,.int mj.2.2,xv]) f9;refine⟨s2.trans s9,?_,by rw[z0w,hyl];rfl⟩
   rw[Y8 hr3,z0y];refine(tl2.same s9).snoc ?_;have er:row4 (J0 mj xv)=[.int mj.1,.int mj.2.1,.int mj.2.2,xv]:=by
    rcases hone with rfl|⟨w,rfl⟩<;>rfl
   rw[er];exact Zc
  ·obtain⟨s2,tl2,hyl⟩:=p
   rw[tln,<- rln,z1b] at tl2
   have s3:=s2.trans (Zf (o:=.lst ys) hl');have q3:=Zc (H:=H') (a:=l') (o:=.lst ys);have tl3:=tl2.same (Zf (o:=.lst ys) hl');show Wt 7 (V.ref l') _ (upd H' l' (.lst ys)) _;generalize upd H' l' (.lst ys)=H3 at s3 q3 tl3 ⊢
   have s03:=s1.trans s3;walk_at "if";refine⟨_,rfl,_,rfl,l,_,_,_,rfl,rfl,SqL.of (s03 _ _ hl),Z8 (by rw[z0x,w1];rfl),_,rfl,lr,l',trs,ys,(Z3 s).map row4,rfl,s03 _ _ w2,SqL.of q3,w3.same s03,tl3,fun r hr=>?_,by rw[z0t];omega,true,rfl,iteF (Zz ⟨⟨_,_,_,_,_,_,rfl⟩,s03⟩)⟩
   obtain⟨q,_,rfl⟩:=z02.mp hr;refine⟨by show 4<=1000;decide,fun x hx=>?_⟩
   simp[row4] at hx
   rcases hx with rfl|rfl|rfl|rfl
   ·exact .inr ⟨_,rfl⟩
   ·exact .inr ⟨_,rfl⟩
   ·exact .inr ⟨_,rfl⟩
   ·cases q.w with
    | none=>exact .inl rfl
    | some n=>exact .inr ⟨_,rfl⟩
 ·rintro σ H1 ⟨⟨v2,v3,v4,v5,v6,v7,rfl⟩,s1⟩
  exact h H1 s1
noncomputable abbrev R8:Stmt:=top 84
theorem W7:Zl ["_law_facts","_law_rest_here","_law_met_here","_law_day","_law_home","_law_guest","_law_grade","_law_number"] ["_law_facts","_law_rest_here"] (Zj R8):=fnS
theorem Bq(F:Fun K "_law_read" "_law_read" R8 f fd)(T:Tx K mg a):Z6 P w K mg base (CX1 P w) 1 f fd ["_law_facts","_law_rest_here"] (ze3 K):=by
 refine F.okX W7 (by walk_at "ar") fun _ _ _ _ H _ Q E hr h=>?_
 obtain⟨l,ls,P0,rfl,hl,rl,PO,h⟩:=h;have hu:=Wm hr;refine⟨_,(Zb (pS 2 W7.nd Nd)
 (Zb (Y6 PassesOwn.leaving rfl (Yh (K:=K) rfl (Jn (Jq (K:=K) rfl) (pv 0) (Ee (Zn (Mi rfl) (by rfl) T.zpy PyProof.Rows.boot_max (Za Zi (Za (Zv Rr (Zn (cL K) (by rfl) T.zkq PySem.boot_len (Za (pv 0) Zd)) (pv 1)) Zd)))) Ed)) (pN 3 W7.nd)
  (Ze (Y6 PassesOwn.leaving rfl (Yh (K:=K) rfl (pv 3)) (Wg (K:=K) (n:=4) rfl rfl (Zy (pN 4 W7.nd) (Zy (pN 5 W7.nd) (Zy (pN 6 W7.nd) (Zy (pN 7 W7.nd) Wf)))))
   (Ze (Z5 (Zo V1 (pv 7) Y5 (Zw _))
    (Zb (Ys hu (pv 2) (Ye (Za (pv 7) (Za (pv 4) Zd))) Xq rfl)
    (Ze (Ys hu (pv 2) (Ye (Za (pv 7) (Za (pv 5) Zd))) Xq rfl)))
    Zr)))))
 (Ze (Zm (pv 2))))),?_⟩
 refine fun m fm=>?_
 have s1:=Zf (o:=.dT []) fm;have m1:(upd H m (.dT [])) m=some (.dT []):=Zc;generalize upd H m (.dT [])=H1 at s1 m1 ⊢
 walk_at "if";refine⟨_,rfl,?_⟩;have hll:(ls.map V.ref).length=P0.over.length:=by rw[z0t,rl.length,z0t]
 refine⟨_,rfl,l,_,rfl,.inl (SqL.of (s1 _ _ hl)),_,rfl,_,_,rfl,rfl,_,_,rfl,_,rfl,l,_,rfl,SqL.of (s1 _ _ hl),fun c fc=>?_⟩
 rw[Bb _ _ P0.rest,hll];obtain⟨k0,hk0⟩:∃ k:Nat,k=((P0.over.length:Int)-P0.rest).toNat:=⟨_,rfl⟩
 rw[<- hk0,<- List.map_drop];have s2:=Zf (o:=.lst ((ls.drop k0).map V.ref)) fc;have c2:(upd H1 c (.lst ((ls.drop k0).map V.ref))) c=some (.lst ((ls.drop k0).map V.ref)):=Zc;have ncm:c≠m:=fun z=>by rw[z,m1] at fc;cases fc
 have rl2:=((rl.drop k0).same s1).same s2;rw[<- List.map_drop] at rl2
 have m2:=s2 _ _ m1;have hin:∀ s∈P0.over.drop k0,s∈P0.over:=fun s hs=>List.mem_of_mem_drop hs
 have hdl:(ls.drop k0).length=(P0.over.drop k0).length:=by rw[rl2.length,z0t]
 generalize upd H1 c (.lst ((ls.drop k0).map V.ref))=H2 at s2 c2 rl2 m2 ⊢
 generalize ls.drop k0=lz at c2 rl2 hdl ⊢
 have hlen:(P0.over.drop k0).length<=100:=by rw[List.length_drop];have:=PO.1;omega
 refine⟨c,rfl,⟨_,SqL.of c2⟩,Wb (K:=K) (a:=c) (xs:=lz.map V.ref) (fun i σ H'=>(∃ v1 v2 v3 v4 v5,σ=[some (.ref l),some (.int P0.rest),some (.ref m),v1,v2,v3,v4,v5])/\(∀ x o,H2 x=some o->x≠m->H' x=some o) /\
  ∃ kvs,H' m=some (.dT kvs)/\Q0 kvs (P0.over.drop k0) i 0/\kvs.length<=40*i) ⟨⟨_,_,_,_,_,rfl⟩,fun _ _ e _=>e,[],m2,.zero _,by simp⟩ (fun i σ H' _ ⟨_,k,_⟩=>SqL.of (k _ _ c2 ncm)) ?_ ?_⟩
 ·rintro i x σ H' hx ⟨⟨v1,v2,v3,v4,v5,rfl⟩,k2,kvs,hm,mi,kl⟩
  have hi:i<lz.length:=by have:=(z0v.mp hx).1;rw[z0t] at this;exact this
  obtain⟨lx,hlx,rfl⟩:∃ lx,lz[i]?=some lx/\x=.ref lx:=by
   rw[z0x] at hx
   obtain⟨y,z1,z2⟩:=z11.mp hx;exact⟨y,z1,z2.symm⟩
  obtain⟨ts,rs,hrs,hlx2,tlx⟩:=rl2.has hlx;obtain⟨s,hs,rfl⟩:∃ s,(P0.over.drop k0)[i]?=some s/\Z3 s=rs:=by rw[z0x] at hrs;exact z11.mp hrs
  have hln:lx≠m:=Yt hlx2 m2 (by intro z;cases z)
  have hsz:=PO.2.2 s (hin s (z05 hs));have rln:(Z3 s).length=s.ms.length:=Nq hsz.2.1;have tln:ts.length=(Z3 s).length:=by rw[tlx.length,z0t]
  walk_at "if";refine⟨_,rfl,lx,rfl,⟨_,SqL.of (k2 _ _ hlx2 hln)⟩,Wb (K:=K) (a:=lx) (xs:=ts) (fun j σ H'=>(∃ v1 v2 v3 v4,σ=[some (.ref l),some (.int P0.rest),some (.ref m),some (.ref lx),v1,v2,v3,v4])/\(∀ x o,H2 x=some o->x≠m->H' x=some o) /\
   ∃ kvs,H' m=some (.dT kvs)/\Q0 kvs (P0.over.drop k0) i j/\kvs.length<=40*i+2*j) ⟨⟨_,_,_,_,rfl⟩,k2,kvs,hm,mi,by omega⟩ (fun j σ H' _ ⟨_,k,_⟩=>SqL.of (k _ _ hlx2 hln)) ?_ ?_⟩
  ·rintro j x σ H3 hx3 ⟨⟨v1,v2,v3,v4,rfl⟩,k3,kvs3,hm3,mi3,kl3⟩
   obtain⟨tr,r,rfl,hr3,htr⟩:=zdw tlx hx3;have hj:j<(Z3 s).length:=(z0v.mp hr3).1;have htr2:=k3 _ _ htr (Yt htr m2 (by intro z;cases z))
   refine⟨tr,_,rfl,SqT.of htr2,rfl,_,_,rfl,_,_,rfl,_,_,rfl,_,_,rfl,rfl,?_⟩;refine⟨_,rfl,rfl,_,rfl,?_⟩;cases hw:r.w with
   | none =>
     refine iteF ?_;exact⟨⟨_,_,_,_,rfl⟩,k3,kvs3,hm3,mi3.none hs hr3 hw,by omega⟩
   | some w =>
     refine iteT ?_;have big:∀ n:Nat,n<=200000->n<sizeLine:=fun n hn=>z24 (z16 hn (by decide)) Td
     refine⟨_,rfl,_,rfl,_,rfl,sz2,fun t2 ht2=>⟨m,_,rfl,DPut.t (k:=[Sum.inl w,Sum.inl r.h]) (by rw[Zh (Zg hm3 ht2)];exact hm3) Zc (big _ (by omega)),?_⟩⟩
     have k4:∀ x o,H2 x=some o->x≠m->upd (upd H3 t2 (.tup [oV (some w),.int r.h])) m (.dT (putK kvs3 [Sum.inl w,Sum.inl r.h] (.bl true))) x=some o:=fun x o e n=>by
      have:=k3 x o e n;rw[Zh n,Zh (Zg this ht2)];exact this
     have hm4:upd (upd H3 t2 (.tup [oV (some w),.int r.h])) m (.dT (putK kvs3 [Sum.inl w,Sum.inl r.h] (.bl true))) m=some (.dT (putK kvs3 [Sum.inl w,Sum.inl r.h] (.bl true))):=Zc;have l4:=Y1 kvs3 ([Sum.inl w,Sum.inl r.h]:List Key) (.bl true);generalize upd (upd H3 t2 (.tup [oV (some w),.int r.h])) m (.dT (putK kvs3 [Sum.inl w,Sum.inl r.h] (.bl true)))=H4 at k4 hm4 ⊢
     refine⟨_,rfl,_,rfl,_,rfl,sz2,fun t4 ht4=>⟨m,_,rfl,DPut.t (k:=[Sum.inl w,Sum.inl r.g]) (by rw[Zh (Zg hm4 ht4)];exact hm4) Zc (big _ (by omega)),?_⟩⟩
     have l5:=Y1 (putK kvs3 ([Sum.inl w,Sum.inl r.h]:List Key) (.bl true)) ([Sum.inl w,Sum.inl r.g]:List Key) (.bl true);refine⟨⟨_,_,_,_,rfl⟩,fun x o e n=>?_,_,Zc,mi3.some hs hr3 hw,by omega⟩
     have:=k4 x o e n;rw[Zh n,Zh (Zg this ht4)];exact this
  ·rintro σ H3 ⟨⟨v1,v2,v3,v4,rfl⟩,k3,kvs3,hm3,mi3,kl3⟩
   rw[tln] at mi3 kl3
   exact⟨⟨_,_,_,_,_,rfl⟩,k3,kvs3,hm3,mi3.next hs,by omega⟩
 ·rintro σ H' ⟨⟨v1,v2,v3,v4,v5,rfl⟩,k2,kvs,hm,mi,kl⟩
  rw[z0t,hdl] at mi
  exact⟨_,rfl,h m kvs H' hm (mi.all hk0) (fun x o e=>k2 _ _ (s2 _ _ (s1 _ _ e)) (Zg e fm)) fm⟩
noncomputable abbrev Uw:Stmt:=top 85
theorem Yi:Zl ["_law_season","_law_page","_law_facts","_law_met_here","_law_ledger","_law_day","_law_out","_law_k","_law_match","_law_open_to","_law_person","_law_due","_law_found"] ["_law_season","_law_page","_law_facts"] (Zj Uw):=fnS
theorem K6(F:Fun K "_law_bars_fit" "_law_bars_fit" Uw f fd)(T:Tx K mg a)(zo2:Z9 P w K mg base "_law_read" 1 ["_law_facts","_law_rest_here"] (ze3 K))(zn9:S7 P w K mg base "Ledger" a.zki 1 ["self"] (Er a.zki))(zll:Zu P w K mg base a.zki "write" 1 ["self","rows"] (Jy a.zki))(zmo:Z9 P w K mg base "_law_bars" 1 ["_law_page","_law_met_here","_law_person","_law_match"] (Ig K))(zm6:Z9 P w K mg base "_law_words_are" 1 ["_law_found","_law_due"] (zap K))(zmm:Zu P w K mg base a.zkg "reasons" 4 ["self","number","place"] (Lz (ca a)))(zmz:Z9 P w K mg base "_law_list_is" 3 ["_law_found","_law_due"] (D9 K))(zol:Zu P w K mg base a.zkg "may" 3 ["self","place"] (zgp (ca a)))(zn8:Z9 P w K mg base "takers" 4 ["people","match","out","ledger","rest"] (Ju K a.zki)):Z6 P w K mg base (CX1 P w) 5 f fd ["_law_season","_law_page","_law_facts"] (Ea K (ca a)):=by
 refine F.okX Yi (by walk_at "ar") fun _ _ _ _ H _ Q E hr h=>?_
 obtain⟨A',S,d,lf,ls,P0,sh,nu,n,rfl,SA,PA,RB,so,hcur,hn9,hf,rl,h⟩:=h;have hu:=Wm hr;refine⟨_,(Zb (pS 3 Yi.nd (pF zo2 hr (Za (pv 2) (Za (pD hu (pv 1) Zs) Zd))))
 (Zb (pS 4 Yi.nd (El zn9 (hr.mono (by decide)) Zk rfl))
 (Zb (Y6 PassesOwn.leaving rfl (Yh (K:=K) rfl (pv 2)) (pN 5 Yi.nd)
  (Ze (Z7 (Yy (pv 4) T.zk0 zll (hr.mono (by decide)) Zk (Za (pv 5) Zd)))))
 (Zb (Be (i:=6) Yi.nd rfl rfl rfl (P8.mk (xo:=["_law_day","_law_number"]) (ys:=["_law_facts"]) (js:=[2]) rfl rfl (by decide +kernel) (by decide +kernel) rfl (by repeat' (first|exact True.intro|apply And.intro|rfl)) (by repeat' (first|exact True.intro|apply And.intro|rfl)) (by decide +kernel)) (Yh (K:=K) rfl (pD hu (pv 1) Zs)) (fun _ _ _ _ _=>Pf (Zo W0 (pv 0) (Zv Xc (Zn (cL K) (by rfl) T.zkq PySem.boot_len (Za (pv 2) Zd)) Zi) (Zw _))) (fun _ _ _ _ _=>(Wg (K:=K) (n:=2) rfl rfl (Zy (To (i:=0) (show List.Nodup [("_law_day":Str),("_law_number":Str),("_law_facts":Str)] by decide +kernel) rfl (by first|exact Or.inl rfl|exact Or.inr rfl)) (Zy (To (i:=1) (show List.Nodup [("_law_day":Str),("_law_number":Str),("_law_facts":Str)] by decide +kernel) rfl (by first|exact Or.inl rfl|exact Or.inr rfl)) Wf)))) (fun _ _ _ _ _=>(pv 1)))
 (Zb (Y6 PassesOwn.leaving rfl (Xh rfl T.zk8 (Za (Zn (cL K) (by rfl) T.zkq PySem.boot_len (Za (pD hu (pv 1) Zs) Zd)) Zd)) (pN 7 Yi.nd)
  (Zb (pS 8 Yi.nd (pI (iL K) (pD hu (pv 1) Zs) (pv 7)))
  (Zb (pS 9 Yi.nd (Ya Zd))
  (Zb (Y6 PassesOwn.leaving rfl (Yh (K:=K) rfl (pD hu (pv 1) Zs)) (pN 10 Yi.nd)
   (Zb (pS 11 Yi.nd (pF zmo hr (Za (pv 1) (Za (pv 3) (Za (pv 10) (Za (pv 8) Zd))))))
   (Zb (Z5 (Wa (X1 (pF zm6 hr (Za (Yy (pv 0) T.zkh zmm (hr.mono (by decide)) Zk (Za (pI (iU K) (pv 10) Zi) (Za (pv 7) Zd))) (Za (pv 11) Zd)))))
    (Ze (Zm Xq))
    Zr)
   (Ze (Z5 (Zo (zaj (K:=K) rfl hr.units) (pv 11) (Ya Zd) (Zw _))
    (Ze (Yu (pv 9) (pI (iU K) (pv 10) Zi)))
    Zr)))))
  (Zb (Z5 (Wa (X1 (pF zmz hr (Za (Yy (pv 0) T.zkh zol (hr.mono (by decide)) Zk (Za (pv 7) Zd)) (Za (pv 9) Zd)))))
   (Ze (Zm Xq))
   Zr)
  (Zb (pS 12 Yi.nd (pF zn8 hr (Za (Y7 (Yq (K:=K) rfl) (by rfl) T.zlg PyProof.Rows.boot_list (Za (pD hu (pv 1) Zs) Zd)) (Za (pv 8) (Za (Y7 (Yq (K:=K) rfl) (by rfl) T.zlg PyProof.Rows.boot_list (Za (pv 6) Zd)) (Za (pv 4) (Za (pD hu (pv 1) Zs) Zd)))))))
  (Ze (Z5 (Wa (X1 (pF zmz hr (Za (pv 12) (Za (pv 9) Zd)))))
   (Ze (Zm Xq))
   Zr))))))))
 (Ze (Zm Xq))))))),?_⟩
 show let y1:TS:=_;let y2:TS:=Z2 _ y1;let y3:TS:=_;let y4:TS:=Z2 _ y3;let y5:TS:=Z2 _ y4;let y6:TS:=Z2 (zc2 _ _ (Z2 _ y2)) y5;let y7:TS:=Z2 _ y6;let y8:TS:=_;let y9:TS:=Z2 (zc2 _ _ (Z2 _ y7)) y8;let y10:TS:=Z2 _ y9;let y11:TS:=Z2 _ y10;let y12:TS:=Z2 _ y11;Z2 _ y12 _ _ _;intro y1 y2 y3 y4 y5 y6 y7 y8 y9 y10 y11 y12;obtain⟨lp,lo,lv,dv,li,lg,lm,a1,PB,okd⟩:=id PA.split;obtain⟨k1,k2,k3,k4,k5⟩:=so.cur sh hcur;have hlis:P0.lis=some sh.ms:=by rw[RB.lis,hcur];rfl
 obtain⟨ll,ts,rfl,b1,b2,b3⟩:∃ l ts,li=.ref l/\H l=some (.lst ts)/\Yb H ts (sh.ms.map pV)/\l∉A'.fp:=by have:=PB.li;rw[hlis] at this;exact this
 obtain⟨pts,p1,p2,p3⟩:=PB.pp;obtain⟨ots,o1,o2,o3⟩:=PB.oo;have hrows:P0.over.map Z3=S.led:=by rw[RB.rows,so.led]
 have rlP:RwL H ls (P0.over.map Z3):=by rw[hrows];exact rl
 have hpt:pts.length=P0.ppl.length:=by rw[p2.length,z0t]
 have htl:ts.length=sh.ms.length:=by rw[b2.length,z0t]
 have hml:sh.may.length=sh.ms.length:=by rw[k4];unfold mayS;rw[z0t]
 have hlsl:ls.length=P0.over.length:=by rw[rlP.length,z0t]
 have PO:=RB.ovok so;have hp100:P0.ppl.length<=100:=by rw[RB.ppl];have:=so.few;omega
 have hol:ots.length<=900:=by rw[o2.length,z0t,RB.out];have:=so.num.1;omega
 obtain⟨⟨dx,vv,ob,_⟩,_⟩:=id SA;refine⟨_,rfl,_,rfl,d,_,rfl,DGet.k (k:=.inr "rest") a1,lf,ls,P0,rfl,hf,rlP,PO,fun m kvs H1 hm mo s1 fm=>?_⟩
 walk_at "if";intro pl dxl hpl hdxl nel;refine⟨pl,dxl,rfl,Zc,fun lr ld H2 L0 k0 f0 g0 n0=>⟨rfl,?_⟩⟩
 obtain⟨s2,fr0,fd0⟩:=Cb hpl hdxl nel k0 f0 g0;have nrf:∀ {x o},H1 x=some o->x≠lr/\x≠ld:=fun z=>⟨Zg z fr0,Zg z fd0⟩
 walk_at "if";have hf1:=s1 _ _ hf;have rl1:=rl.same s1;have r20:∀ rs∈S.led,rs.length<=20:=fun rs hrs=>by
  rw[so.led] at hrs
  obtain⟨s,hs,rfl⟩:=z02.mp hrs;have:=so.old s hs;rw[Nq this.2.1];exact this.1
 let jv1:Nat->L2.St->Hp->Prop:=fun i σ H'=>(∃ v5,σ=[some (.ref A'.p),some (.ref d),some (.ref lf),some (.ref m),some (.ref pl),v5,none,none,none,none,none,none,none])/\Same H1 H'/\V5 a.zki H' pl lr ld (S.led.take i)
 refine⟨_,rfl,lf,rfl,⟨_,SqL.of (s2 _ _ hf1)⟩,Wb (K:=K) (a:=lf) (xs:=ls.map V.ref) jv1 ⟨⟨_,rfl⟩,s2,L0⟩ (fun i σ H' _ ⟨_,z,_⟩=>SqL.of (z _ _ hf1)) ?_ ?_⟩
 ·rintro i x σ H3 hx ⟨⟨v5,rfl⟩,s3,LA⟩
  obtain⟨lx,hlx,rfl⟩:∃ lx,ls[i]?=some lx/\x=.ref lx:=by
   rw[z0x] at hx
   obtain⟨y,z1,z2⟩:=z11.mp hx;exact⟨y,z1,z2.symm⟩
  obtain⟨tx,rs,hrs,hlx2,tlx⟩:=rl1.has hlx;obtain⟨⟨dxl',hpl'⟩,_⟩:=id LA;have ht1:=Av (k:=20) (S.led.take i) fun rs hrs=>r20 rs (List.mem_of_mem_take hrs)
  have ht2:(S.led.take i).length<=60:=by rw[z2p];have:=so.len;omega
  have ht3:=r20 rs (z05 hrs);walk_at "if";refine⟨_,rfl,pl,dxl',_,rfl,hpl',Ni (by decide +kernel) (by decide +kernel),_,rfl,pl,lr,ld,S.led.take i,lx,tx,rs,rfl,LA,s3 _ _ hlx2,(nrf hlx2).1,tlx.same s3,by omega,by omega,fun H4 LA4 kk=>?_⟩
  refine⟨⟨_,rfl⟩,fun x o e=>kk _ _ (s3 _ _ e) (nrf e).1 (nrf e).2,?_⟩
  rw[Y8 hrs];exact LA4
 rintro σ H3 ⟨⟨v5,rfl⟩,s3,LA⟩;have hlz:(ls.map V.ref).length=S.led.length:=by rw[z0t,rl.length]
 rw[hlz,z1b] at LA
 clear L0 k0 f0 g0 n0 hpl hdxl;have s03:=s1.trans s3;have hm3:=s3 _ _ hm;walk_at "if";have e1:(((ls.map V.ref).length:Nat):Int)+1=(P0.over.length:Int)+1:=by rw[z0t,hlsl]
 have hotl:ots.length=P0.out.length:=by rw[o2.length,z0t]
 refine⟨_,rfl,d,_,rfl,DGet.k (k:=.inr "out") (s03 _ _ a1),lo,rfl,⟨_,SqL.of (s03 _ _ o1)⟩,J2 (K:=K) (xs:=ots) (fun i ys H'=>H'=H3/\ys=(((P0.out.take i).filter fun x=>decide (x.1=(P0.over.length:Int)+1)).map (·.2)).map V.int) ⟨rfl,rfl⟩ (fun i ys H' _ ⟨e,_⟩=>by rw[e];exact SqL.of (s03 _ _ o1)) (szN (by omega)) (fun i ys H' ⟨_,e⟩=>by rw[e,z0t,z0t];exact z09 (z1n _ _) (z1z _ _)) ?_ ?_⟩
 ·rintro i x ys H' hx ⟨rfl,rfl⟩
  have hi:i<P0.out.length:=by have:=(z0v.mp hx).1;omega
  have hoi:P0.out[i]?=some (P0.out[i]'hi):=z0u hi;generalize P0.out[i]'hi=oi at hoi
  obtain⟨t,ht1,ht2⟩:=o2.getR (i:=i) (r:=oiV oi) (by rw[z0x,hoi];rfl)
  rw[ht1] at hx
  cases hx;refine⟨t,_,rfl,SqT.of (s03 _ _ ht2),rfl,_,_,rfl,_,_,rfl,rfl,⟨[some (.int oi.1),some (.int oi.2)],rfl,rfl⟩,?_⟩;refine⟨_,rfl,_,rfl,lf,_,rfl,.inl (SqL.of (s3 _ _ hf1)),_,_,rfl,rfl,rfl,_,rfl,?_⟩;have eb:decide (V.int oi.1=V.int ((((ls.map V.ref).length:Nat):Int)+1))=decide (oi.1=(P0.over.length:Int)+1):=by rw[e1];exact decide_eq_decide.mpr ⟨fun z=>V.int.inj z,fun z=>by rw[z]⟩
  have e2:∀ ws,(((P0.out.take (i+1)).filter fun x=>decide (x.1=(P0.over.length:Int)+1)).map (·.2)).map V.int=(((P0.out.take i).filter fun x=>decide (x.1=(P0.over.length:Int)+1)).map (·.2)).map V.int++ws↔ws=if decide (oi.1=(P0.over.length:Int)+1)=true then [V.int oi.2] else []:=fun ws=>by
   rw[Y8 hoi,z2c,z0y,z0y,z2h];cases q:decide (oi.1=(P0.over.length:Int)+1)<;>simp[q,eq_comm]
  rw[eb];refine itB (fun hb=>?_) (fun hb=>?_)
  ·exact⟨_,rfl,rfl,((e2 [V.int oi.2]).mpr (by rw[hb];rfl)).symm⟩
  ·have:=(e2 []).mpr (by rw[hb];rfl)
   rw[z2j] at this
   exact⟨rfl,this.symm⟩
 rintro ys H' ⟨rfl,rfl⟩ lq hlq;rw[hotl,z1b];have s4:=Zf (o:=.lst (outP P0 ((P0.over.length:Int)+1))) hlq;have q4:=Zc (H:=H') (a:=lq) (o:=.lst (outP P0 ((P0.over.length:Int)+1)));show Wt 6 (V.ref lq) _ (upd H' lq (.lst (outP P0 ((P0.over.length:Int)+1)))) _;generalize upd H' lq (.lst (outP P0 ((P0.over.length:Int)+1)))=H4 at s4 q4 ⊢
 have s04:=s03.trans s4;have hm4:=s4 _ _ hm3;have LA4:=LA.same s4;walk_at "if"
 let jv2:Nat->L2.St->Hp->Prop:=fun i σ H'=>(∃ v7 v8 v9 v10 v11 v12,σ=[some (.ref A'.p),some (.ref d),some (.ref lf),some (.ref m),some (.ref pl),v5,some (.ref lq),v7,v8,v9,v10,v11,v12])/\Same H4 H'
 refine⟨_,rfl,d,_,rfl,DGet.k (k:=.inr "listed") (s04 _ _ a1),ll,ts,rfl,.inl (SqL.of (s04 _ _ b1)),_,rfl,by omega,by omega,Xv jv2 ⟨⟨_,_,_,_,_,_,rfl⟩,Same.refl _⟩ ?_ ?_⟩
 rotate_left
 ·rintro σ H5 ⟨⟨v7,v8,v9,v10,v11,v12,rfl⟩,s5⟩
  exact h H5 (s04.trans s5)
 rintro i σ H5 hi ⟨⟨v7,v8,v9,v10,v11,v12,rfl⟩,s5⟩;rw[z1a] at hi
 rw[z18];have s05:=s04.trans s5;obtain⟨tm,mm,e3,hmm,htm⟩:=Nk b2 (z0u hi);have htm1:ts[i]?=some (.ref tm):=by rw[z0u hi,e3]
 have him:i<sh.ms.length:=by omega
 walk_at "if";refine⟨_,rfl,d,_,rfl,DGet.k (k:=.inr "listed") (s05 _ _ a1),_,rfl,ll,_,_,_,rfl,rfl,SqL.of (s05 _ _ b1),Z8 htm1,?_⟩;walk_at "if";refine⟨z1j _,fun r hr'=>?_⟩
 have q6:=Zc (H:=H5) (a:=r) (o:=.lst []);have s6:=Zf (o:=.lst []) hr';generalize upd H5 r (.lst [])=H6 at q6 s6 ⊢
 walk_at "if";have s06:=s05.trans s6
 let jv3:Nat->L2.St->Hp->Prop:=fun j σ H'=>(∃ v10 v11,σ=[some (.ref A'.p),some (.ref d),some (.ref lf),some (.ref m),some (.ref pl),v5,some (.ref lq),some (.int (i:Int)),some (.ref tm),some (.ref r),v10,v11,v12])/\Same H5 H'/\H' r=some (.lst (((P0.ppl.take j).filter fun x=>(Vx P0 x mm).isEmpty).map fun x=>V.int x.1))
 refine⟨_,rfl,d,_,rfl,DGet.k (k:=.inr "people") (s06 _ _ a1),lp,rfl,⟨_,SqL.of (s06 _ _ p1)⟩,Wb (K:=K) (a:=lp) (xs:=pts) jv3 ⟨⟨_,_,rfl⟩,s6,q6⟩ (fun j σ H' _ ⟨_,z,_⟩=>SqL.of (z _ _ (s05 _ _ p1))) ?_ ?_⟩
 ·rintro j x σ H7 hx ⟨⟨v10,v11,rfl⟩,s7,hr7⟩
  obtain⟨tp,pp,rfl,hpp,htp⟩:=Nk p2 hx;have s07:=s05.trans s7;have hin:pp∈S.ppl:=by rw[<- RB.ppl];exact z05 hpp
  have hinn:pp.1∈S.ppl.map (·.1):=z02.mpr ⟨pp,hin,rfl⟩
  have hwp:=RB.why so pp mm;have hjl:j<P0.ppl.length:=(z0v.mp hpp).1;walk_at "if";refine⟨_,rfl,_,rfl,_,rfl,_,rfl,(·∉A'.fp),d,m,tp,tm,P0,kvs,pp,mm,rfl,PA.same s07,s7 _ _ (s5 _ _ hm4),mo,s07 _ _ htp,s07 _ _ htm,fun lw H8 hlw s8 fw=>?_⟩
  walk_at "if";have s08:=s07.trans s8;refine Se ?_;refine⟨_,rfl,A'.p,dx,_,rfl,s08 _ _ ob,Yg (by decide +kernel),_,rfl,tp,_,_,_,rfl,rfl,SqT.of (s08 _ _ htp),(show atI (pV pp) 0=some _ from rfl),_,rfl,A',S,pp.1,(i:Int),rfl,SA.same s08,so.pok.small pp hin,Ym (by omega) (by omega),so.lt (by rw[hcur];exact nofun),(by have:=so.len;omega),(fun z=>by rw[hcur] at z;cases z),fun s hs=>?_⟩
  rw[hcur] at hs
  cases hs;refine⟨fun z=>absurd hinn z,fun _=>⟨fun z=>by omega,fun k m' g c hk hmk hgc lz H9 hlz s9 flz=>?_⟩⟩
  have ek:k=i:=by omega
  subst ek;rw[hmm] at hmk
  cases hmk;have epp:(pp.1,g,c)=pp:=zay so.nd hgc hin rfl;have g1:g=pp.2.1:=by rw[<- epp]
  have g2:c=pp.2.2:=by rw[<- epp]
  subst g1 g2;rw[show ((pp.1,pp.2.1,pp.2.2):P3)=pp from rfl,<- hwp] at hlz
  have hw9:=s9 _ _ hlw;refine⟨_,rfl,lz,lw,Vx P0 pp mm,rfl,hlz,SqL.of hw9,z09 (zd1 _ _ _ _ _ _ _ _ _) (by decide),true,rfl,iteF (Zz ?_)⟩
  dsimp only;have s09:=s08.trans s9;have s79:=s7.trans (s8.trans s9);have hr9:=s9 _ _ (s8 _ _ hr7);refine⟨_,rfl,z1j _,fun le hle=>?_⟩
  refine⟨_,_,.lst (SqL.of (Zf hle _ _ hw9)) (Oy _),.lst (SqL.of Zc) .nil,za7 _ za8,Es,_,rfl,?_⟩;have s10:=Zf (o:=.lst []) hle;generalize upd H9 le (.lst [])=H10 at s10 ⊢
  rw[if_neg (show ¬ false=true by decide),Et]
  have e4:∀ ws,((P0.ppl.take (j+1)).filter fun x=>(Vx P0 x mm).isEmpty).map (fun x=>V.int x.1)=((P0.ppl.take j).filter fun x=>(Vx P0 x mm).isEmpty).map (fun x=>V.int x.1)++ws↔ws=if (Vx P0 pp mm).isEmpty then [V.int pp.1] else []:=fun ws=>by
   rw[Y8 hpp,z2c,z0y,z2h];cases q:(Vx P0 pp mm).isEmpty<;>simp[q,eq_comm]
  refine itB (fun hb=>?_) (fun hb=>Zz ?_)
  ·refine⟨_,rfl,r,_,rfl,s10 _ _ hr9,_,rfl,tp,_,_,_,rfl,rfl,SqT.of (s10 _ _ (s09 _ _ htp)),(show atI (pV pp) 0=some _ from rfl),_,s10 _ _ hr9,T9 (by rw[z0t];have:=z09 (z1n (fun x=>(Vx P0 x mm).isEmpty) (P0.ppl.take j)) (z1z _ _);omega),⟨_,_,rfl⟩,Yc hr' (s79.trans s10),?_⟩
   rw[(e4 [V.int pp.1]).mpr (by rw[show (Vx P0 pp mm).isEmpty=true from hb];rfl)]
   exact Zc
  ·refine⟨⟨_,_,rfl⟩,s79.trans s10,?_⟩
   have:=(e4 []).mpr (by rw[show (Vx P0 pp mm).isEmpty=false from hb];rfl)
   rw[z2j] at this
   rw[this];exact s10 _ _ hr9
 rintro σ H7 ⟨⟨v10,v11,rfl⟩,s7,hr7⟩;rw[hpt,z1b] at hr7
 have s07:=s05.trans s7;have emay:((P0.ppl.filter fun x=>(Vx P0 x mm).isEmpty).map fun x=>V.int x.1)=(mayM S mm).map V.int:=by
  have:=RB.may so [mm];unfold Qh mayS at this
  simp only[z04,z23,List.cons.injEq,and_true] at this
  rw[<- this,z2m];rfl
 have hmay:sh.may[i]?=some (mayM S mm):=by rw[k4];unfold mayS;rw[z0x,hmm];rfl
 have hone:∀ x∈(mayM S mm).map V.int,oneV x:=fun x hx=>by obtain⟨n,_,rfl⟩:=z02.mp hx;exact .inr ⟨_,rfl⟩
 have hmlen:((mayM S mm).map V.int).length<=1000:=by
  rw[<- emay,z0t];exact z09 (z1n _ _) (by omega)
 rw[emay] at hr7
 walk_at "if";refine Se ?_;refine⟨_,rfl,A'.p,dx,_,rfl,s07 _ _ ob,Yg (by decide +kernel),_,rfl,A',S,(i:Int),rfl,SA.same s07,Ym (by omega) (by omega),(fun z=>by rw[hcur] at z;cases z),fun s hs=>?_⟩
 rw[hcur] at hs
 cases hs;refine⟨hml,fun z=>by omega,fun k r' hk hr2 lz H8 hlz s8 flz=>?_⟩
 have ek:k=i:=by omega
 subst ek;rw[hmay] at hr2
 cases hr2;refine⟨_,rfl,lz,r,_,rfl,hlz,SqL.of (s8 _ _ hr7),hone,hmlen,true,rfl,iteF (Zz ?_)⟩;walk_at "if";have s08:=s07.trans s8;have s58:=s7.trans s8;refine⟨_,rfl,d,_,rfl,DGet.k (k:=.inr "people") (s08 _ _ a1),lp,pts,rfl,.inl (SqL.of (s08 _ _ p1)),fun lp2 flp2=>?_⟩
 have s9:=Zf (o:=.lst pts) flp2;have q9:=Zc (H:=H8) (a:=lp2) (o:=.lst pts);generalize upd H8 lp2 (.lst pts)=H9 at s9 q9 ⊢
 refine⟨_,rfl,_,rfl,lq,_,rfl,.inl (SqL.of (s9 _ _ (s58 _ _ (s5 _ _ q4)))),fun lo2 flo2=>?_⟩
 have s10:=Zf (o:=.lst (outP P0 ((P0.over.length:Int)+1))) flo2;have q10:=Zc (H:=H9) (a:=lo2) (o:=.lst (outP P0 ((P0.over.length:Int)+1)));generalize upd H9 lo2 (.lst (outP P0 ((P0.over.length:Int)+1)))=H10 at s10 q10 ⊢
 have s510:=s58.trans (s9.trans s10);have s010:=s05.trans s510;have LA10:=(LA4.same s5).same s510;rw[<- hrows] at LA10
 refine⟨_,rfl,_,rfl,d,_,rfl,DGet.k (k:=.inr "rest") (s010 _ _ a1),lp2,lo2,tm,pl,lr,ld,P0.over.map Z3,pts,P0.ppl,outP P0 ((P0.over.length:Int)+1),mm.1,mm.2.1,mm.2.2,P0.rest,rfl,s10 _ _ q9,p2.same s010,q10,ze4 _ _,s010 _ _ htm,LA10,by omega,fun lt H11 hlt s11 flt=>?_⟩
 have ef:P0.ppl.filter (So (P0.over.map Z3) mm.1 mm.2.1 mm.2.2 (outP P0 ((P0.over.length:Int)+1)) P0.rest)=P0.ppl.filter fun x=>(Vx P0 x mm).isEmpty:=List.filter_congr fun x _=>zcn rfl
 rw[ef,emay] at hlt
 walk_at "if";have s511:=s510.trans s11;refine⟨_,rfl,_,rfl,lt,r,_,rfl,hlt,SqL.of (s11 _ _ (s10 _ _ (s9 _ _ (s8 _ _ hr7)))),hone,hmlen,true,rfl,iteF (Zz ?_)⟩;exact⟨⟨_,_,_,_,_,_,rfl⟩,s5.trans s511⟩
noncomputable abbrev Hn:Stmt:=top 86
theorem Sk:Zl ["_law_script","_law_mixed","_law_season","_law_pool_here","_law_pages","_law_k","_law_deed_here","_law_page","_law_facts"] ["_law_script"] (Zj Hn):=fnS
theorem zic(F:Fun K "law" "law" Hn f fd)(T:Tx K mg a)(zku:Z9 P w K mg base "_law_at" 1 ["_law_script","_law_k"] (Ac K))(zp7:S7 P w K mg base "Season" a.zkg 3 ["self","rounds","rest"] (zaz (ca a)))(zob:Z9 P w K mg base "_law_rest" 2 ["_law_script"] (Cy K))(zna:Z9 P w K mg base "_law_rounds" 2 ["_law_script"] (J6 K))(zo1:Z9 P w K mg base "_law_pool" 2 ["_law_script","_law_crowd"] (C0 K))(zoq:Z9 P w K mg base "_law_first" 1 ["_law_rounds_here","_law_rest_here"] za4)(zns:Z9 P w K mg base "_law_enrolled" 9 ["_law_season","_law_pages","_law_deeds"] (Ii K (ca a)))(zoh:Z9 P w K mg base "_law_people" 2 ["_law_script","_law_pool_here"] (Ih K))(zo5:Z9 P w K mg base "_law_deed" 3 ["_law_pages","_law_cell_here","_law_pool_here","_law_most","_law_mixed"] (Bd K))(zoy:Z9 P w K mg base "_law_cell" 2 ["_law_script","_law_k"] (Cz K))(zn7:Z9 P w K mg base "_law_do" 8 ["_law_season","_law_deed_here"] (zh6 K (ca a)))(zme:Z9 P w K mg base "_law_paged" 3 ["_law_pages","_law_deed_here"] (E3 K))(zmh:Zu P w K mg base a.zkg "facts" 3 ["self"] (Fz (ca a)))(zma:Z9 P w K mg base "_law_facts_are" 5 ["_law_found","_law_page"] (Il K))(znp:Z9 P w K mg base "_law_bars_fit" 5 ["_law_season","_law_page","_law_facts"] (Ea K (ca a)))(zn0:Zu P w K mg base a.zkg "goes" 4 ["self","at"] (zeq (ca a)))(zmx:Z9 P w K mg base "_law_is_filling" 2 ["_law_may","_law_given"] (Ls K))(zmy:Z9 P w K mg base "_law_open" 2 ["_law_page"] (Ao K)):Z6 P w K mg base (CX1 P w) 10 f fd ["_law_script"] (zan K):=by
 refine F.okX Sk (by walk_at "ar") fun _ _ _ _ H _ Q E hr h=>?_
 obtain⟨b,ns,rfl,hS,hlen,h⟩:=h;have hu:=Wm hr;refine⟨_,(Zb (pS 1 Sk.nd (Zv Yv (pF zku hr (Za (pv 0) (Za Zi Zd))) Zi))
 (Zb (pS 2 Sk.nd (Ek zp7 (hr.mono (by decide)) Zk rfl (Za (pF zna hr (Za (pv 0) Zd)) (Za (pF zob hr (Za (pv 0) Zd)) Zd))))
 (Zb (pS 3 Sk.nd (pF zo1 hr (Za (pv 0) (Za Zi Zd))))
 (Zb (pS 4 Sk.nd (Ya (Za (pF zoq hr (Za (pF zna hr (Za (pv 0) Zd)) (Za (pF zob hr (Za (pv 0) Zd)) Zd))) Zd)))
 (Zb (pS 4 Sk.nd (pF zns hr (Za (pv 2) (Za (pv 4) (Za (pF zoh hr (Za (pv 0) (Za (pv 3) Zd))) Zd)))))
 (Zb (Y6 PassesOwn.leaving rfl (G3 rfl T.zk8 (Za Zi (Za (Zn (G5 rfl) (by rfl) T.zqg PyProof.Rows.boot_min (Za Zi (Za (Zn (cL K) (by rfl) T.zkq PySem.boot_len (Za (pv 0) Zd)) Zd))) Zd))) (pN 5 Sk.nd)
  (Zb (Z5 (Zo W0 (Zn (cL K) (by rfl) T.zkq PySem.boot_len (Za (pD hu (pI (iL K) (pv 4) (Lj Qn Zi)) Zs) Zd)) (pD hu (pI (iL K) (pv 4) (Lj Qn Zi)) Zs) (Zw _))
   (Ze zcz)
   Zr)
  (Zb (pS 6 Sk.nd (pF zo5 hr (Za (pv 4) (Za (pF zoy hr (Za (pv 0) (Za (pv 5) Zd))) (Za (pv 3) (Za Zi (Za (pv 1) Zd)))))))
  (Zb (Z7 (pF zn7 hr (Za (pv 2) (Za (pv 6) Zd))))
  (Zb (pS 4 Sk.nd (pF zme hr (Za (pv 4) (Za (pv 6) Zd))))
  (Zb (pS 7 Sk.nd (pI (iL K) (pv 4) (Lj Qn Zi)))
  (Zb (pS 8 Sk.nd (Yl (pv 2) T.zkh zmh (hr.mono (by decide)) Zk))
  (Zb (Z5 (Wa (X1 (pF zma hr (Za (pv 8) (Za (pv 7) Zd)))))
   (Ze (Zm Xq))
   Zr)
  (Ze (Z5 (Zo V1 (pD hu (pv 7) Zs) Y5 (Zw _))
   (Zb (Z5 (Wa (X1 (pF znp hr (Za (pv 2) (Za (pv 7) (Za (pv 8) Zd))))))
    (Ze (Zm Xq))
    Zr)
   (Zb (Ys hu (pv 7) Zs (Y7 (Yq (K:=K) rfl) (by rfl) T.zlg PyProof.Rows.boot_list (Za (Yy (pv 2) T.zkh zn0 (hr.mono (by decide)) Zk (Za (Zv Xc (Zn (cL K) (by rfl) T.zkq PySem.boot_len (Za (pD hu (pv 7) Zs) Zd)) Zi) Zd)) Zd)) rfl)
   (Ze (Z5 (Wa (X1 (pF zmx hr (Za (pF zmy hr (Za (pv 7) Zd)) (Za (pD hu (pv 7) Zs) Zd)))))
    (Ze (Zm Xq))
    Zr))))
   Zr))))))))))
 (Ze (Zm (pF zma hr (Za (Yl (pv 2) T.zkh zmh (hr.mono (by decide)) Zk) (Za (pI (iL K) (pv 4) (Lj Qn Zi)) Zd))))))))))),?_⟩
 show let y1:TS:=_;let y2:TS:=Z2 _ y1;let y3:TS:=(Br _ (Z2 _ y2) _);let y4:TS:=Z2 _ y3;let y5:TS:=Z2 _ y4;let y6:TS:=Z2 _ y5;let y7:TS:=Z2 _ y6;let y8:TS:=Z2 _ y7;let y9:TS:=Z2 _ y8;let y10:TS:=_;let y11:TS:=Z2 (zc2 _ _ (Z2 _ y9)) y10;let y12:TS:=Z2 _ y11;let y13:TS:=Z2 _ y12;let y14:TS:=Z2 _ y13;let y15:TS:=Z2 _ y14;Z2 _ y15 _ _ _;intro y1 y2 y3 y4 y5 y6 y7 y8 y9 y10 y11 y12 y13 y14 y15;refine⟨_,rfl,b,ns,0,rfl,hS,_,_,rfl,rfl,(show (0:Int)<2 by decide),?_⟩
 obtain⟨mx,hmx,hmx1⟩:∃ mx:Nat,Xg ns 0%2=(mx:Int)/\mx<=1:=⟨(Xg ns 0%2).toNat,by omega,by omega⟩
 walk_at "if";rw[hmx];refine⟨_,rfl,b,ns,rfl,hS,fun rr H1 hrr hr1 hr60 s1=>?_⟩
 refine⟨_,rfl,b,ns,rfl,s1.seq hS,fun rq H2 hrq hq10 s2=>?_⟩
 have s12:=s1.trans s2;have hS2:=s12.seq hS;intro p0 dx0 hp0 hdx0 ne0;refine⟨p0,dx0,rr,rq,rfl,Zc,Ym (by omega) (by omega),Ym (by omega) (by omega),?_⟩
 rw[if_neg (by omega),if_neg (by omega)]
 intro A1 H4 hAp SA4 k4 f4;rw[z1a,z1a] at SA4
 have s4:Same H2 H4:=fun x o e=>k4 x o (by rw[Zh (Zg e hp0),Zh (Zg e hdx0)];exact e) (Zg e hp0)
 have ff:∀ x∈A1.fp,H2 x=none:=fun x hx=>by
  by_cases z:x=p0
  ·rw[z];exact hp0
  ·have:=f4 x hx z
   rw[Zh z] at this
   by_cases w:x=dx0
   ·rw[w];exact hdx0
   ·rw[Zh w] at this;exact this
 have SC4:Qb K A1 H4 b (ns.map V.int):=.make hS2 A1 H4 s4 ff;clear f4 k4;subst hAp;refine⟨rfl,?_⟩;walk_at "if";refine⟨_,rfl,b,ns,7,rfl,SC4.sq,by decide,by decide,fun t lc ln cs nu H6 PL hnu s6 ft flc fln=>?_⟩
 have SA6:=SA4.same s6;have SC6:=SC4.fr (.of s6);have no5:=SA4.newOk;have PO6:Kd A1 H6 t lc ln cs nu:=⟨PL,no5 _ ft,no5 _ flc,no5 _ fln⟩;walk_at "if";refine⟨_,rfl,b,ns,rfl,SC6.sq,fun rr' H7 hrr' _ _ s7=>?_⟩
 have SC7:=SC6.fr (.of s7);refine⟨_,rfl,b,ns,rfl,SC7.sq,fun rq' H8 hrq' _ s8=>?_⟩
 cases (hrr'.trans hrr.symm);cases (hrq'.trans hrq.symm);refine⟨rr,rq,rfl,fun d9 H9 pg9 s9 fd9=>⟨(by show 1<=sizeLine;rw[sizeLine_eq];decide),fun l10 fl10=>?_⟩⟩
 have SC9:=((SC7.fr (.of s8)).fr (.of s9));have SA9:=((SA6.same s7).same s8).same s9;have PO9:=((PO6.fr (.of s7)).fr (.of s8)).fr (.of s9);have no8:=((SA6.same s7).same s8).newOk;have F9:=Ax (mb:=false) (nu:=nu) (n:=0) (pg9.imp (ok':=(·∉A1.fp)) fun x _ hx=>no8 x hx) hr60 hq10
 have s10:=Zf (o:=.lst [.ref d9]) fl10;have q10:=Zc (H:=H9) (a:=l10) (o:=.lst [.ref d9]);have o10:=SA9.newOk _ fl10;walk_at "if";generalize upd H9 l10 (.lst [.ref d9])=H10 at s10 q10 ⊢
 have SA10:=SA9.same s10;have SC10:=SC9.fr (.of s10);have PO10:=PO9.fr (.of s10);have F10:=F9.same s10;show Z2 _ _ _ [some (.ref b),some (.int mx),some (.ref A1.p),some (.ref t),some (.ref l10),none,none,none,none] H10;clear SA9 SC9 PO9 F9 SA6 SC6 PO6 PL SC7 SC4 SA4 no5 no8 pg9 hS hS2 s12;have nfew:=PO10.at_.nfew;refine⟨_,rfl,_,rfl,_,rfl,_,rfl,b,t,lc,ln,ns,cs,nu,rfl,SC10.sq,PO10.at_,fun le ts es H11 hle tl en el eok s11 fle=>?_⟩
 have SA11:=SA10.same s11;have nd11:(es.map (·.1)).Nodup:=by rw[en];exact PO10.at_.nnd.sublist (List.take_sublist _ _)
 refine⟨false,A1,l10,le,ts,es,[],d9,_,_,nu,0,rfl,SA11,s11 _ _ q10,o10,F10.same s11,hle,SA10.newOk _ fle,tl,nd11,fun x hx=>?_,(by show 0+es.length<=30;omega),by omega,rfl,(by show 0<rr;omega),fun A2 l2 ds2 d2 P2 S2 H12 SA12 hl12 ho12 F12 f12 hc12 he12 hn12=>?_⟩
 ·obtain⟨x1,x2,x3⟩:=eok x hx
  have hxn:x.1∈nu:=by
   have:x.1∈es.map (·.1):=z02.mpr ⟨x,hx,rfl⟩
   rw[en] at this
   exact List.mem_of_mem_take this
  refine⟨hxn,?_,nofun⟩;have:=PO10.at_.nrng _ hxn;have:=PO10.at_.crng _ x3;unfold badI;omega
 have SC12:=(SC10.fr (.of s11)).fr f12;have PO12:=(PO10.fr (.of s11)).fr f12;have hAp:=f12.p;walk_at "if";refine⟨_,rfl,b,_,rfl,.inl SC12.sq,?_⟩;rw[z0t];refine⟨_,_,rfl,6,_,rfl,⟨by omega,by omega,by split<;>omega,by split<;>omega⟩,?_⟩
 obtain⟨N0,hN0,hN1⟩:∃ N0:Nat,((if (ns.length:Int)<63 then (ns.length:Int) else 63)-6).toNat=N0/\∀ i:Nat,i<N0->6+i<ns.length:=⟨_,rfl,fun i hi=>by split at hi<;>omega⟩
 have hN57:N0<=57:=by rw[<- hN0];split<;>omega
 rw[hN0]
 let jv1:Nat->L2.St->Hp->Prop:=fun i σ H'=>∃ A2 l2 ds2 d2 P2 S2 v6 v7 v8 v9,σ=[some (.ref b),some (.int mx),some (.ref A1.p),some (.ref t),some (.ref l2),v6,v7,v8,v9]/\Z0 (ca a) H' A2 S2/\H' l2=some (.lst ((ds2++[d2]).map V.ref))/\l2∉A2.fp/\Tu false (·∉A2.fp) H' nu (30+i) ds2 d2 P2 S2/\Qb K A2 H' b (ns.map V.int)/\Kd A2 H' t lc ln cs nu/\A2.p=A1.p
 refine E9 jv1
  ⟨A2,l2,ds2,d2,P2,S2,_,_,_,_,rfl,SA12,hl12,ho12,⟨F12.pg,F12.re,F12.so.mono (by omega),?_⟩,SC12,PO12,hAp⟩ ?_ ?_
 ·obtain⟨nd,e|⟨S0,bb,rr'⟩⟩:=F12.tl
  ·exact⟨nd,.inl e⟩
  ·exact⟨nd,.inr ⟨S0,bb.mono (by omega),rr'⟩⟩
 ·rintro N hN i σ H1 hi ⟨A2,l2,ds2,d2,P2,S2,v6,v7,v8,v9,rfl,SA,hl2,ho2,F,SC,PO,eAp⟩
  have hki:=hN1 i hi;have e6:(6:Int)+(i:Int)=((6+i:Nat):Int):=by omega
  rw[e6];walk_at "if";obtain⟨lp,lo,lv,dv,li,lg,lm,a1,PB,okd⟩:=id F.pg.split;have hat:atI ((ds2++[d2]).map V.ref) (-1)=some (V.ref d2):=by rw[z0y];exact L2.atI_last _ _
  obtain⟨vts,u1,u2,u3⟩:=PB.vv;have hvl:(vts.length:Int)=(P2.over.length:Int):=by rw[u2.length]
  refine Se (V4 (b:=decide (V.int (P2.over.length:Int)=V.int (P2.len:Int))) (fun Q q=>⟨_,rfl,_,rfl,l2,_,_,_,rfl,rfl,SqL.of hl2,hat,d2,_,rfl,DGet.k (k:=.inr "over") a1,lv,vts,rfl,.inl (SqL.of u1),_,rfl,_,rfl,l2,_,_,_,rfl,rfl,SqL.of hl2,hat,d2,_,rfl,DGet.k (k:=.inr "rounds") a1,rfl,_,rfl,by rw[hvl];exact q⟩) (itB (fun _=>hN i _ _ ⟨A2,l2,ds2,d2,P2,S2,_,_,_,_,rfl,SA,hl2,ho2,F,SC,PO,eAp⟩) (fun hb=>Zz ?_)))
  have hlt:P2.over.length<P2.len:=by
   have h1:=F.re.b.olen;have h2:=F.so.olen;have h3:=F.so.len;have h4:=F.re.b.len;have h5:=of_decide_eq_false hb;have h6:P2.over.length≠P2.len:=fun z=>h5 (by rw[z])
   omega
  dsimp only;refine⟨_,rfl,_,rfl,_,rfl,b,ns,6+i,rfl,SC.sq,hki,fun cell H2 s2=>?_⟩
  have s3:=s2;refine⟨_,rfl,_,rfl,(·∉A2.fp),l2,t,lc,ln,ds2,d2,P2,cell,cs,nu,5,mx,rfl,s3 _ _ hl2,F.pg.same s3,PO.at_.same s3,by decide,hmx1,hlt,(by rw[F.re.b.ppl];have:=F.so.few;omega),fun t' D H4 hD gD s4 ft'=>?_⟩
  have s34:=s3.trans s4;have SA4:=SA.same s34;have F4:=F.same s34;have SC4:=SC.fr (.of s34);have PO4:=PO.fr (.of s34);have hD4:=zgb (SA.same s3) hD;have g:=zga F.re.b F.so gD hlt (by decide) ⟨nfew.2,PO.at_.nrng⟩ PO.at_.crng F.back
  have hkn:∀ k gr c,D=.enrol k gr c->k∈nu:=fun k gr c z=>by rw[z] at gD;exact gD.2.1
  walk_at "if";obtain⟨w1,w2,w3,w4,w5,w6,w7,w8,w9,w10⟩:=F4.pre g (by omega)
  refine⟨_,rfl,_,rfl,A2,S2,t',D,(by rw[<- eAp];rfl),SA4,hD4,g,w1,w2,w3,w4,w5,w6,w7,w8,w9,w10,fun v' A3 S3 H5 af SA5 nx fr _=>?_⟩
  have f5:=FrN.next SA4 nx fr;obtain⟨c1,c2,c3,c4,c5⟩:=F4.pre2 g (by omega)
  dsimp only;refine⟨_,rfl,_,rfl,(·∉A3.fp),l2,t',ds2,d2,P2,D,rfl,(f5.k _ _ (s34 _ _ hl2) ho2).1,F4.pg.fr f5,hD4.fr f5,c1,c2,c3,c4,c5,fun l6 d6 H6 hl6 pg6 s6 fl6 fd6=>?_⟩
  obtain⟨ds7,d7,P7,ek,Pe,eP,eR⟩:=turn F4 SA4 af SA5 nx fr g hkn pg6 s6 fd6;have SA6:=SA5.same s6;have o6:=SA5.newOk _ fl6;have SC6:=(SC4.fr f5).fr (.of s6);have PO6:=(PO4.fr f5).fr (.of s6);have eAp6:=f5.p.trans eAp;rw[ek] at hl6
  have hat7:atI ((ds7++[d7]).map V.ref) (-1)=some (V.ref d7):=by rw[z0y];exact L2.atI_last _ _
  walk_at "if";refine⟨_,rfl,_,rfl,l6,_,_,_,rfl,rfl,SqL.of hl6,hat7,?_⟩;walk_at "if";clear SA F SA4 F4 SC4 PO4 SC PO hD4 hD;obtain⟨lp7,lo7,lv7,dv7,li7,lg7,lm7,y1,y2,y3⟩:=id Pe.pg.split;have hls:=y2.li.some;have ho9:S3.led.length<=900:=by have:=Pe.so.len;omega
  have erw:P7.over.map Z3=S3.led:=by rw[Pe.rb.rows,Pe.so.led]
  obtain⟨⟨dx7,vv7,ob7,_⟩,_⟩:=id SA6;rw[eAp6] at ob7
  refine⟨_,rfl,A1.p,dx7,_,rfl,ob7,Yg (by decide +kernel),A3,S3,(by rw[eAp6];rfl),SA6,ho9,fun lf lfs H7 hlf rlf s7 flf _=>?_⟩
  have SA7:=SA6.same s7;have Pe7:=Pe.same s7;walk_at "if";refine Se ?_;refine⟨_,rfl,_,rfl,(·∉A3.fp),lf,d7,lfs,P7,rfl,hlf,Pe7.pg,Pe.rb.ovok Pe.so,(by rw[erw];exact rlf),fun H8 s8=>⟨true,rfl,iteF (Zz ?_)⟩⟩
  walk_at "if";have s78:=s7.trans s8;have SA8:=SA6.same s78;have Pe8:=Pe.same s78;have y18:=s78 _ _ y1;refine V4 (b:=P7.lis.isSome) (fun Q q=>⟨_,rfl,d7,_,rfl,DGet.k (k:=.inr "listed") y18,rfl,_,rfl,by rw[hls];exact q⟩) (itB (fun hb=>?_) (fun hb=>Zz ?_))
  rotate_left
  ·have hno:P7.lis=none:=by
    cases hq:P7.lis with
    | none=>rfl
    | some ms=>rw[hq] at hb;cases hb
   have hcn:=Pe.rb.undrawn hno;have eN:30+i+1=30+(i+1):=by omega
   rw[eN] at Pe8
   exact⟨A3,l6,ds7,d7,P7,S3,_,_,_,_,rfl,SA8,s78 _ _ hl6,o6,Pe8.full (fun s hs=>by rw[hcn] at hs;cases hs) (fun z=>nomatch z),SC6.fr (.of s78),PO6.fr (.of s78),eAp6⟩
  obtain⟨ms,hms⟩:=z14.mp hb;obtain⟨sh,hcur,hshm⟩:=Pe.rb.drawn hms;subst hshm;obtain⟨k1,k2,k3,k4,k5⟩:=Pe.so.cur sh hcur;obtain⟨vts7,z1,z2,z3⟩:=y2.vv;have hvl7:(vts7.length:Int)+1=atV S3:=by rw[z2.length];exact Pe.rb.at Pe.so
  have hpl7:P7.ppl.length<=100:=by rw[Pe.rb.ppl];have:=Pe.so.few;omega
  have hml:sh.may.length=sh.ms.length:=by rw[k4];unfold mayS;rw[z0t]
  have hgl:sh.gv.length=sh.may.length:=k2.len;refine Se ?_;refine⟨_,rfl,_,rfl,_,rfl,A3,S3,d7,lf,lfs,P7,sh,nu,_,(by rw[eAp6];rfl),SA8,Pe8.pg,Pe.rb,Pe.so,hcur,by omega,s8 _ _ hlf,rlf.same s8,fun H9 s9=>⟨true,rfl,iteF (Zz ?_)⟩⟩
  walk_at "if";have s69:=s78.trans s9;refine⟨_,rfl,A1.p,dx7,_,rfl,s69 _ _ ob7,Yg (by decide +kernel),_,rfl,d7,_,rfl,DGet.k (k:=.inr "over") (s69 _ _ y1),lv7,vts7,rfl,.inl (SqL.of (s69 _ _ z1)),_,_,rfl,rfl,A3,S3,atV S3,(by rw[eAp6,<- hvl7];rfl),SA6.same s69,zib Pe.so hcur fun lg2 H10 hlg2 s10 flg2=>?_⟩
  have s610:=s69.trans s10;refine⟨lg2,_,rfl,.inl (SqL.of hlg2),fun lg' flg=>?_⟩
  have s13:=s610.trans (Zf (o:=.lst sh.gv) flg);have q13:=Zc (H:=H10) (a:=lg') (o:=.lst sh.gv);have o13:=(SA6.same s610).newOk _ flg;generalize upd H10 lg' (.lst sh.gv)=H13 at s13 q13 ⊢
  have SA13:=SA6.same s13;obtain⟨kvs,b1,b2,F14⟩:=(Pe.same s13).goes q13 o13 (fun s hs=>by rw[hcur] at hs;cases hs;rfl) (fun z=>nomatch z)
  refine⟨_,rfl,d7,_,rfl,DPut.k (k:=.inr "goes") b1 b2,?_⟩;have eN:30+i+1=30+(i+1):=by omega
  rw[eN] at F14
  have SA14:=SA13.dictW (kvs':=putK kvs (.inr "goes") (.ref lg')) b1 y3;have l14:=(Xt.dict b1 (kvs':=putK kvs (.inr "goes") (.ref lg'))).1 _ _ (s13 _ _ hl6);have SC14:=(SC6.fr (.of s13)).dictW (kvs':=putK kvs (.inr "goes") (.ref lg')) b1;have PO14:=(PO6.fr (.of s13)).dictW (kvs':=putK kvs (.inr "goes") (.ref lg')) b1;generalize upd H13 d7 (.dK (putK kvs (.inr "goes") (.ref lg')))=H14 at F14 SA14 l14 SC14 PO14 ⊢
  walk_at "if";refine⟨_,rfl,(·∉A3.fp),d7,_,sh.ms,rfl,F14.pg,F14.re.b.ovok F14.so,hms,by omega,hpl7,fun lw ls H15 hlw ilw s15 flw _=>?_⟩
  rw[F14.re.b.may F14.so,<- k4] at ilw
  have F15:=F14.same s15;obtain⟨lp9,lo9,lv9,dv9,li9,lg9,lm9,x1,x2,x3⟩:=id F15.pg.split;obtain⟨gg1,gg2⟩:=x2.gg;refine⟨_,rfl,d7,_,rfl,DGet.k (k:=.inr "goes") x1,lw,lg9,ls,sh.may,sh.gv,rfl,hlw,ilw,by omega,gg1,k2,fun H16 s16=>⟨true,rfl,iteF (Zz ?_)⟩⟩
  have s1516:=s15.trans s16;exact⟨A3,l6,ds7,d7,_,S3,_,_,_,_,rfl,SA14.same s1516,s1516 _ _ l14,o6,F15.same s16,SC14.fr (.of s1516),PO14.fr (.of s1516),eAp6⟩
 ·rintro i σ H1 ⟨A2,l2,ds2,d2,P2,S2,v6,v7,v8,v9,rfl,SA,hl2,ho2,F,SC,PO,eAp⟩
  obtain⟨lp,lo,lv,dv,li,lg,lm,a1,PB,okd⟩:=id F.pg.split;have hat:atI ((ds2++[d2]).map V.ref) (-1)=some (V.ref d2):=by rw[z0y];exact L2.atI_last _ _
  obtain⟨⟨dx2,vv2,ob2,_⟩,_⟩:=id SA;rw[eAp] at ob2
  refine⟨_,rfl,A1.p,dx2,_,rfl,ob2,Yg (by decide +kernel),A2,S2,(by rw[eAp];rfl),SA,(by have:=F.so.len;omega),fun lf lfs H2 hlf rlf s2 _ _=>?_⟩
  exact⟨_,rfl,_,rfl,l2,_,_,_,rfl,rfl,SqL.of (s2 _ _ hl2),hat,(·∉A2.fp),lf,d2,lfs,P2,rfl,hlf,F.pg.same s2,F.re.b.ovok F.so,(by rw[F.re.b.rows,<- F.so.led];exact rlf),fun H3 s3=>h H3⟩
end
end K35

namespace K35
open PySem PySem.Spec PyProof.Rows L2 G PySem.W
theorem zid{l:OpenLaw}{w:World}{K:Frag}{h:Heap}{mg:Str->Option Value}{fa zof zk2 zlj zk3 zla zk9 zmv zlp zlb zmc zlv zlq znh zmt zky zli zki zkl zkk zkg f0 f1 f2 f3 f4 f5 f6 f7 f8 f9 f10 f11 f12 f13 f14 f15 f16 f17 f18 f19 f20 f21 f22 f23 f24 f25 f26 f27 f28 f29 f30 f31 f32 f33 f34 f35 f36 f37 f38 f39 f40 f41 f42 f43 f44 f45 f46 f47 f48 f49 f50 f51 f52 f53 f54 f55 f56 f57 f58 f59 f60 f61 f62 f63 f64 f65 f66 f67 f68 f69 f70 f71 f72 f73 f74 f75 f76 f77 f78 f79 f80 f81 f82 f83 f84 f85 f86 f87 f88 f89 f90:Addr}{tk0 tk1 tk2 tk3 tk4 tk5 tk6 tk7:Tok}{od0 an0 od1 an1 od2 an2 od3 an3 od4 an4 od5 an5 od6 an6 od7 an7 od8 an8 od9 an9 od10 an10 od11 an11 od12 an12 od13 an13 od14 an14 od15 an15 od16 an16 od17 an17 od18 an18 od19 an19 od20 an20 od21 an21 od22 an22 od23 an23 od24 an24 od25 an25 od26 an26 od27 an27 od28 an28 od29 an29 od30 an30 od31 an31 od32 an32 od33 an33 od34 an34 od35 an35 od36 an36 od37 an37 od38 an38 od39 an39 od40 an40 od41 an41 od42 an42 od43 an43 od44 an44 od45 an45 od46 an46 od47 an47 od48 an48 od49 an49 od50 an50 od51 an51 od52 an52 od53 an53 od54 an54 od55 an55 od56 an56 od57 an57 od58 an58 od59 an59 od60 an60 od61 an61 od62 an62 od63 an63 od64 an64 od65 an65 od66 an66 od67 an67 od68 an68 od69 an69 od70 an70 od71 an71 od72 an72 od73 an73 od74 an74 od75 an75 od76 an76 od77 an77 od78 an78 od79 an79 od80 an80 od81 an81 od82 an82 od83 an83 od84 an84 od85 an85 od86 an86 od87 an87 od88 an88 od89 an89 od90 an90:Option Addr}{sl0 sl1 sl2 sl3 sl4 sl5 sl6 sl7 sl8 sl9 sl10 sl11 sl12 sl13 sl14 sl15 sl16 sl17 sl18 sl19 sl20 sl21 sl22 sl23 sl24 sl25 sl26 sl27 sl28 sl29 sl30 sl31 sl32 sl33 sl34 sl35 sl36 sl37 sl38 sl39 sl40 sl41 sl42 sl43 sl44 sl45 sl46 sl47 sl48 sl49 sl50 sl51 sl52 sl53 sl54 sl55 sl56 sl57 sl58 sl59 sl60 sl61 sl62 sl63 sl64 sl65 sl66 sl67 sl68 sl69 sl70 sl71 sl72 sl73 sl74 sl75 sl76 sl77 sl78 sl79 sl80 sl81 sl82 sl83 sl84 sl85 sl86 sl87 sl88 sl89 sl90:Array (Option Value)}{oc0 kV0 dc0 pm0 cd0 ct0 oc1 kV1 dc1 pm1 cd1 ct1 oc2 kV2 dc2 pm2 cd2 ct2 oc3 kV3 dc3 pm3 cd3 ct3 oc4 kV4 dc4 pm4 cd4 ct4 oc5 kV5 dc5 pm5 cd5 ct5 oc6 kV6 dc6 pm6 cd6 ct6 oc7 kV7 dc7 pm7 cd7 ct7 oc8 kV8 dc8 pm8 cd8 ct8 oc9 kV9 dc9 pm9 cd9 ct9 oc10 kV10 dc10 pm10 cd10 ct10 oc11 kV11 dc11 pm11 cd11 ct11 oc12 kV12 dc12 pm12 cd12 ct12 oc13 kV13 dc13 pm13 cd13 ct13 oc14 kV14 dc14 pm14 cd14 ct14 oc15 kV15 dc15 pm15 cd15 ct15 oc16 kV16 dc16 pm16 cd16 ct16 oc17 kV17 dc17 pm17 cd17 ct17 oc18 kV18 dc18 pm18 cd18 ct18 oc19 kV19 dc19 pm19 cd19 ct19 oc20 kV20 dc20 pm20 cd20 ct20 oc21 kV21 dc21 pm21 cd21 ct21 oc22 kV22 dc22 pm22 cd22 ct22 oc23 kV23 dc23 pm23 cd23 ct23 oc24 kV24 dc24 pm24 cd24 ct24 oc25 kV25 dc25 pm25 cd25 ct25 oc26 kV26 dc26 pm26 cd26 ct26 oc27 kV27 dc27 pm27 cd27 ct27 oc28 kV28 dc28 pm28 cd28 ct28 oc29 kV29 dc29 pm29 cd29 ct29 oc30 kV30 dc30 pm30 cd30 ct30 oc31 kV31 dc31 pm31 cd31 ct31 oc32 kV32 dc32 pm32 cd32 ct32 oc33 kV33 dc33 pm33 cd33 ct33 oc34 kV34 dc34 pm34 cd34 ct34 oc35 kV35 dc35 pm35 cd35 ct35 oc36 kV36 dc36 pm36 cd36 ct36 oc37 kV37 dc37 pm37 cd37 ct37 oc38 kV38 dc38 pm38 cd38 ct38 oc39 kV39 dc39 pm39 cd39 ct39 oc40 kV40 dc40 pm40 cd40 ct40 oc41 kV41 dc41 pm41 cd41 ct41 oc42 kV42 dc42 pm42 cd42 ct42 oc43 kV43 dc43 pm43 cd43 ct43 oc44 kV44 dc44 pm44 cd44 ct44 oc45 kV45 dc45 pm45 cd45 ct45 oc46 kV46 dc46 pm46 cd46 ct46 oc47 kV47 dc47 pm47 cd47 ct47 oc48 kV48 dc48 pm48 cd48 ct48 oc49 kV49 dc49 pm49 cd49 ct49 oc50 kV50 dc50 pm50 cd50 ct50 oc51 kV51 dc51 pm51 cd51 ct51 oc52 kV52 dc52 pm52 cd52 ct52 oc53 kV53 dc53 pm53 cd53 ct53 oc54 kV54 dc54 pm54 cd54 ct54 oc55 kV55 dc55 pm55 cd55 ct55 oc56 kV56 dc56 pm56 cd56 ct56 oc57 kV57 dc57 pm57 cd57 ct57 oc58 kV58 dc58 pm58 cd58 ct58 oc59 kV59 dc59 pm59 cd59 ct59 oc60 kV60 dc60 pm60 cd60 ct60 oc61 kV61 dc61 pm61 cd61 ct61 oc62 kV62 dc62 pm62 cd62 ct62 oc63 kV63 dc63 pm63 cd63 ct63 oc64 kV64 dc64 pm64 cd64 ct64 oc65 kV65 dc65 pm65 cd65 ct65 oc66 kV66 dc66 pm66 cd66 ct66 oc67 kV67 dc67 pm67 cd67 ct67 oc68 kV68 dc68 pm68 cd68 ct68 oc69 kV69 dc69 pm69 cd69 ct69 oc70 kV70 dc70 pm70 cd70 ct70 oc71 kV71 dc71 pm71 cd71 ct71 oc72 kV72 dc72 pm72 cd72 ct72 oc73 kV73 dc73 pm73 cd73 ct73 oc74 kV74 dc74 pm74 cd74 ct74 oc75 kV75 dc75 pm75 cd75 ct75 oc76 kV76 dc76 pm76 cd76 ct76 oc77 kV77 dc77 pm77 cd77 ct77 oc78 kV78 dc78 pm78 cd78 ct78 oc79 kV79 dc79 pm79 cd79 ct79 oc80 kV80 dc80 pm80 cd80 ct80 oc81 kV81 dc81 pm81 cd81 ct81 oc82 kV82 dc82 pm82 cd82 ct82 oc83 kV83 dc83 pm83 cd83 ct83 oc84 kV84 dc84 pm84 cd84 ct84 oc85 kV85 dc85 pm85 cd85 ct85 oc86 kV86 dc86 pm86 cd86 ct86 oc87 kV87 dc87 pm87 cd87 ct87 oc88 kV88 dc88 pm88 cd88 ct88 oc89 kV89 dc89 pm89 cd89 ct89 oc90 kV90 dc90 pm90 cd90 ct90:Value}(X:K.In h)(G:h.Ns mainGlobals mg)(hfa:mg "law"=some (.ref fa))
  (zom:nsIn K mainGlobals "BookError"=some (some (.ref zof)))
  (znb:nsIn K mainGlobals "OutOfRange"=some (some (.ref zk2)))
  (zmk:nsIn K mainGlobals "KnownReferee"=some (some (.ref zlj)))
  (zls:nsIn K mainGlobals "TooManyReferees"=some (some (.ref zk3)))
  (zl1:nsIn K mainGlobals "UnknownReferee"=some (some (.ref zla)))
  (zl3:nsIn K mainGlobals "TooManyMatches"=some (some (.ref zk9)))
  (zoe:nsIn K mainGlobals "SameClub"=some (some (.ref zmv)))
  (zm3:nsIn K mainGlobals "NoSuchMatch"=some (some (.ref zlp)))
  (zm2:nsIn K mainGlobals "NoSuchRound"=some (some (.ref zlb)))
  (znw:nsIn K mainGlobals "RoundOver"=some (some (.ref zmc)))
  (znd:nsIn K mainGlobals "SeasonOver"=some (some (.ref zlv)))
  (zm1:nsIn K mainGlobals "AwayAlready"=some (some (.ref zlq)))
  (zos:nsIn K mainGlobals "DrawnUp"=some (some (.ref znh)))
  (zoj:nsIn K mainGlobals "NotDrawn"=some (some (.ref zmt)))
  (zlk:nsIn K mainGlobals "NothingToTakeBack"=some (some (.ref zky)))
  (zmj:nsIn K mainGlobals "TooManyDeeds"=some (some (.ref zli)))
  (zo8:nsIn K mainGlobals "Ledger"=some (some (.ref zki)))
  (zo7:nsIn K mainGlobals "Roster"=some (some (.ref zkl)))
  (zpz:nsIn K mainGlobals "Sheet"=some (some (.ref zkk)))
  (zpa:nsIn K mainGlobals "Season"=some (some (.ref zkg)))
  (zpo:plainGet K zki Str.empty=true)
  (zpn:hasDictIn K zki=true)
  (zpc:plainOver K zki=true)
  (zpm:findIn K (.ref zki) "__setattr__"=some (some (.builtin "object.__setattr__")))
  (zpd:makesIn K zki=true)
  (zpe:keepIn K (.ref zki)=true)
  (zl6:findIn K (.ref zki) "rounds"=some none)
  (zlu:findIn K (.ref zki) "meetings"=some none)
  (zpg:plainGet K zkl Str.empty=true)
  (zpb:hasDictIn K zkl=true)
  (zpw:plainOver K zkl=true)
  (zps:findIn K (.ref zkl) "__setattr__"=some (some (.builtin "object.__setattr__")))
  (zpq:makesIn K zkl=true)
  (zpf:keepIn K (.ref zkl)=true)
  (zld:findIn K (.ref zkl) "entries"=some none)
  (zp9:plainGet K zkk Str.empty=true)
  (zqa:hasDictIn K zkk=true)
  (zqc:plainOver K zkk=true)
  (zp8:findIn K (.ref zkk) "__setattr__"=some (some (.builtin "object.__setattr__")))
  (zp3:makesIn K zkk=true)
  (zp6:keepIn K (.ref zkk)=true)
  (zlw:findIn K (.ref zkk) "listed"=some none)
  (zov:findIn K (.ref zkk) "lists"=some none)
  (zm0:findIn K (.ref zkk) "given"=some none)
  (zor:findIn K (.ref zkk) "gaps"=some none)
  (zpp:plainGet K zkg Str.empty=true)
  (zpi:hasDictIn K zkg=true)
  (zph:plainOver K zkg=true)
  (zpx:findIn K (.ref zkg) "__setattr__"=some (some (.builtin "object.__setattr__")))
  (zpl:makesIn K zkg=true)
  (zpj:keepIn K (.ref zkg)=true)
  (zng:findIn K (.ref zkg) "length"=some none)
  (zoz:findIn K (.ref zkg) "rest"=some none)
  (zlf:findIn K (.ref zkg) "roster"=some none)
  (zlm:findIn K (.ref zkg) "ledger"=some none)
  (zl8:findIn K (.ref zkg) "absent"=some none)
  (znt:findIn K (.ref zkg) "sheets"=some none)
  (zk7:findIn K (.ref zkg) "sheet"=some none)
  (zlh:findIn K (.ref zkg) "standing"=some none)
  (znx:excIn K zlb [.type "ValueError",.type "Exception",.type "BaseException",.type "object"] "ValueError.__new__"=true)
  (zok:excIn K zk2 [.type "ValueError",.type "Exception",.type "BaseException",.type "object"] "ValueError.__new__"=true)
  (zmp:excIn K zk9 [.type "ValueError",.type "Exception",.type "BaseException",.type "object"] "ValueError.__new__"=true)
  (zo4:excIn K zmv [.type "ValueError",.type "Exception",.type "BaseException",.type "object"] "ValueError.__new__"=true)
  (zni:excIn K zlj [.type "ValueError",.type "Exception",.type "BaseException",.type "object"] "ValueError.__new__"=true)
  (zmi:excIn K zk3 [.type "ValueError",.type "Exception",.type "BaseException",.type "object"] "ValueError.__new__"=true)
  (zmq:excIn K zla [.type "ValueError",.type "Exception",.type "BaseException",.type "object"] "ValueError.__new__"=true)
  (zn3:excIn K zlp [.type "ValueError",.type "Exception",.type "BaseException",.type "object"] "ValueError.__new__"=true)
  (zog:excIn K zlv [.type "ValueError",.type "Exception",.type "BaseException",.type "object"] "ValueError.__new__"=true)
  (zpt:excIn K znh [.type "ValueError",.type "Exception",.type "BaseException",.type "object"] "ValueError.__new__"=true)
  (znr:excIn K zli [.type "ValueError",.type "Exception",.type "BaseException",.type "object"] "ValueError.__new__"=true)
  (zo3:excIn K zmt [.type "ValueError",.type "Exception",.type "BaseException",.type "object"] "ValueError.__new__"=true)
  (zoo:excIn K zmc [.type "ValueError",.type "Exception",.type "BaseException",.type "object"] "ValueError.__new__"=true)
  (zn6:excIn K zlq [.type "ValueError",.type "Exception",.type "BaseException",.type "object"] "ValueError.__new__"=true)
  (zl5:excIn K zky [.type "ValueError",.type "Exception",.type "BaseException",.type "object"] "ValueError.__new__"=true)
  (zpy:nsIn K mainGlobals "max"=some none)
  (zkq:nsIn K mainGlobals "len"=some none)
  (zot:nsIn K mainGlobals "tuple"=some none)
  (zlg:nsIn K mainGlobals "list"=some none)
  (zm4:nsIn K mainGlobals "enumerate"=some none)
  (zk8:nsIn K mainGlobals "range"=some none)
  (zql:nsIn K mainGlobals "zip"=some none)
  (zkx:nsIn K mainGlobals "isinstance"=some none)
  (zqf:nsIn K mainGlobals "int"=some none)
  (zp1:nsIn K mainGlobals "bool"=some none)
  (zqj:nsIn K mainGlobals "str"=some none)
  (zp0:nsIn K mainGlobals "dict"=some none)
  (zqg:nsIn K mainGlobals "min"=some none)
  (zl9:nsIn K mainGlobals "MOST_NUMBER"=some (some (.int 999 tk0)))
  (zlz:nsIn K mainGlobals "MOST_GRADE"=some (some (.int 9 tk1)))
  (zlt:nsIn K mainGlobals "MOST_CLUB"=some (some (.int 99 tk2)))
  (zlc:nsIn K mainGlobals "MOST_REFEREES"=some (some (.int 30 tk3)))
  (zlo:nsIn K mainGlobals "MOST_MATCHES"=some (some (.int 20 tk4)))
  (zl7:nsIn K mainGlobals "MOST_ROUNDS"=some (some (.int 60 tk5)))
  (zm5:nsIn K mainGlobals "MOST_REST"=some (some (.int 10 tk6)))
  (zl4:nsIn K mainGlobals "MOST_DEEDS"=some (some (.int 100 tk7)))
  (b0:NsB K "met_lately" f0)
  (l0:LkF K f0 "met_lately" "met_lately" Tv oc0 kV0 dc0 pm0 cd0 ct0 od0 an0 sl0)
  (c0:codeIn K cd0 "met_lately"=true)
  (k0:keepIn K (.ref f0)=true)
  (b1:NsB K "reasons" f1)
  (zm7:nsIn K mainGlobals "reasons_bars"=some (some (.ref f1)))
  (l1:LkF K f1 "reasons" "reasons" Pm oc1 kV1 dc1 pm1 cd1 ct1 od1 an1 sl1)
  (c1:codeIn K cd1 "reasons"=true)
  (k1:keepIn K (.ref f1)=true)
  (b2:NsB K "takers" f2)
  (l2:LkF K f2 "takers" "takers" Nu oc2 kV2 dc2 pm2 cd2 ct2 od2 an2 sl2)
  (c2:codeIn K cd2 "takers"=true)
  (k2:keepIn K (.ref f2)=true)
  (b3:FdB K zki "__init__" f3)
  (i3:isFn K (.ref f3)=true)
  (l3:LkF K f3 "__init__" "Ledger.__init__" Wv oc3 kV3 dc3 pm3 cd3 ct3 od3 an3 sl3)
  (c3:codeIn K cd3 "Ledger.__init__"=true)
  (k3:keepIn K (.ref f3)=true)
  (b4:FdB K zki "write" f4)
  (i4:isFn K (.ref f4)=true)
  (l4:LkF K f4 "write" "Ledger.write" Ub oc4 kV4 dc4 pm4 cd4 ct4 od4 an4 sl4)
  (c4:codeIn K cd4 "Ledger.write"=true)
  (k4:keepIn K (.ref f4)=true)
  (b5:FdB K zki "over" f5)
  (i5:isFn K (.ref f5)=true)
  (l5:LkF K f5 "over" "Ledger.over" U2 oc5 kV5 dc5 pm5 cd5 ct5 od5 an5 sl5)
  (c5:codeIn K cd5 "Ledger.over"=true)
  (k5:keepIn K (.ref f5)=true)
  (b6:FdB K zki "facts" f6)
  (i6:isFn K (.ref f6)=true)
  (l6:LkF K f6 "facts" "Ledger.facts" Uc oc6 kV6 dc6 pm6 cd6 ct6 od6 an6 sl6)
  (c6:codeIn K cd6 "Ledger.facts"=true)
  (k6:keepIn K (.ref f6)=true)
  (b7:FdB K zki "met" f7)
  (i7:isFn K (.ref f7)=true)
  (l7:LkF K f7 "met" "Ledger.met" Tw oc7 kV7 dc7 pm7 cd7 ct7 od7 an7 sl7)
  (c7:codeIn K cd7 "Ledger.met"=true)
  (k7:keepIn K (.ref f7)=true)
  (b8:NsB K "check_range" f8)
  (l8:LkF K f8 "check_range" "check_range" U3 oc8 kV8 dc8 pm8 cd8 ct8 od8 an8 sl8)
  (c8:codeIn K cd8 "check_range"=true)
  (k8:keepIn K (.ref f8)=true)
  (b9:NsB K "check_count" f9)
  (l9:LkF K f9 "check_count" "check_count" U4 oc9 kV9 dc9 pm9 cd9 ct9 od9 an9 sl9)
  (c9:codeIn K cd9 "check_count"=true)
  (k9:keepIn K (.ref f9)=true)
  (b10:NsB K "check_ranges" f10)
  (l10:LkF K f10 "check_ranges" "check_ranges" Ud oc10 kV10 dc10 pm10 cd10 ct10 od10 an10 sl10)
  (c10:codeIn K cd10 "check_ranges"=true)
  (k10:keepIn K (.ref f10)=true)
  (b11:NsB K "check_clubs" f11)
  (l11:LkF K f11 "check_clubs" "check_clubs" U5 oc11 kV11 dc11 pm11 cd11 ct11 od11 an11 sl11)
  (c11:codeIn K cd11 "check_clubs"=true)
  (k11:keepIn K (.ref f11)=true)
  (b12:NsB K "checked" f12)
  (l12:LkF K f12 "checked" "checked" Pn oc12 kV12 dc12 pm12 cd12 ct12 od12 an12 sl12)
  (c12:codeIn K cd12 "checked"=true)
  (k12:keepIn K (.ref f12)=true)
  (b13:FdB K zkl "__init__" f13)
  (i13:isFn K (.ref f13)=true)
  (l13:LkF K f13 "__init__" "Roster.__init__" Ww oc13 kV13 dc13 pm13 cd13 ct13 od13 an13 sl13)
  (c13:codeIn K cd13 "Roster.__init__"=true)
  (k13:keepIn K (.ref f13)=true)
  (b14:FdB K zkl "check_new" f14)
  (i14:isFn K (.ref f14)=true)
  (l14:LkF K f14 "check_new" "Roster.check_new" Wi oc14 kV14 dc14 pm14 cd14 ct14 od14 an14 sl14)
  (c14:codeIn K cd14 "Roster.check_new"=true)
  (k14:keepIn K (.ref f14)=true)
  (b15:FdB K zkl "check_known" f15)
  (i15:isFn K (.ref f15)=true)
  (l15:LkF K f15 "check_known" "Roster.check_known" Xy oc15 kV15 dc15 pm15 cd15 ct15 od15 an15 sl15)
  (c15:codeIn K cd15 "Roster.check_known"=true)
  (k15:keepIn K (.ref f15)=true)
  (b16:FdB K zkl "add" f16)
  (i16:isFn K (.ref f16)=true)
  (l16:LkF K f16 "add" "Roster.add" Tz oc16 kV16 dc16 pm16 cd16 ct16 od16 an16 sl16)
  (c16:codeIn K cd16 "Roster.add"=true)
  (k16:keepIn K (.ref f16)=true)
  (b17:FdB K zkl "strike" f17)
  (i17:isFn K (.ref f17)=true)
  (l17:LkF K f17 "strike" "Roster.strike" Vo oc17 kV17 dc17 pm17 cd17 ct17 od17 an17 sl17)
  (c17:codeIn K cd17 "Roster.strike"=true)
  (k17:keepIn K (.ref f17)=true)
  (b18:FdB K zkl "numbers" f18)
  (i18:isFn K (.ref f18)=true)
  (l18:LkF K f18 "numbers" "Roster.numbers" Vc oc18 kV18 dc18 pm18 cd18 ct18 od18 an18 sl18)
  (c18:codeIn K cd18 "Roster.numbers"=true)
  (k18:keepIn K (.ref f18)=true)
  (b19:FdB K zkl "entry" f19)
  (i19:isFn K (.ref f19)=true)
  (l19:LkF K f19 "entry" "Roster.entry" Ug oc19 kV19 dc19 pm19 cd19 ct19 od19 an19 sl19)
  (c19:codeIn K cd19 "Roster.entry"=true)
  (k19:keepIn K (.ref f19)=true)
  (b20:FdB K zkl "person" f20)
  (i20:isFn K (.ref f20)=true)
  (l20:LkF K f20 "person" "Roster.person" Vp oc20 kV20 dc20 pm20 cd20 ct20 od20 an20 sl20)
  (c20:codeIn K cd20 "Roster.person"=true)
  (k20:keepIn K (.ref f20)=true)
  (b21:NsB K "places_taken" f21)
  (l21:LkF K f21 "places_taken" "places_taken" Uh oc21 kV21 dc21 pm21 cd21 ct21 od21 an21 sl21)
  (c21:codeIn K cd21 "places_taken"=true)
  (k21:keepIn K (.ref f21)=true)
  (b22:NsB K "steps_into" f22)
  (l22:LkF K f22 "steps_into" "steps_into" T1 oc22 kV22 dc22 pm22 cd22 ct22 od22 an22 sl22)
  (c22:codeIn K cd22 "steps_into"=true)
  (k22:keepIn K (.ref f22)=true)
  (b23:NsB K "free_referee" f23)
  (l23:LkF K f23 "free_referee" "free_referee" Ui oc23 kV23 dc23 pm23 cd23 ct23 od23 an23 sl23)
  (c23:codeIn K cd23 "free_referee"=true)
  (k23:keepIn K (.ref f23)=true)
  (b24:NsB K "traced" f24)
  (l24:LkF K f24 "traced" "traced" Nv oc24 kV24 dc24 pm24 cd24 ct24 od24 an24 sl24)
  (c24:codeIn K cd24 "traced"=true)
  (k24:keepIn K (.ref f24)=true)
  (b25:NsB K "chain" f25)
  (l25:LkF K f25 "chain" "chain" Jd oc25 kV25 dc25 pm25 cd25 ct25 od25 an25 sl25)
  (c25:codeIn K cd25 "chain"=true)
  (k25:keepIn K (.ref f25)=true)
  (b26:NsB K "stepped" f26)
  (l26:LkF K f26 "stepped" "stepped" Pp oc26 kV26 dc26 pm26 cd26 ct26 od26 an26 sl26)
  (c26:codeIn K cd26 "stepped"=true)
  (k26:keepIn K (.ref f26)=true)
  (b27:NsB K "fill" f27)
  (l27:LkF K f27 "fill" "fill" Dc oc27 kV27 dc27 pm27 cd27 ct27 od27 an27 sl27)
  (c27:codeIn K cd27 "fill"=true)
  (k27:keepIn K (.ref f27)=true)
  (b28:NsB K "place_of" f28)
  (l28:LkF K f28 "place_of" "place_of" Rz oc28 kV28 dc28 pm28 cd28 ct28 od28 an28 sl28)
  (c28:codeIn K cd28 "place_of"=true)
  (k28:keepIn K (.ref f28)=true)
  (b29:FdB K zkk "__init__" f29)
  (i29:isFn K (.ref f29)=true)
  (l29:LkF K f29 "__init__" "Sheet.__init__" Vd oc29 kV29 dc29 pm29 cd29 ct29 od29 an29 sl29)
  (c29:codeIn K cd29 "Sheet.__init__"=true)
  (k29:keepIn K (.ref f29)=true)
  (b30:FdB K zkk "barred" f30)
  (i30:isFn K (.ref f30)=true)
  (l30:LkF K f30 "barred" "Sheet.barred" Uj oc30 kV30 dc30 pm30 cd30 ct30 od30 an30 sl30)
  (c30:codeIn K cd30 "Sheet.barred"=true)
  (k30:keepIn K (.ref f30)=true)
  (b31:FdB K zkk "fallen_out" f31)
  (i31:isFn K (.ref f31)=true)
  (l31:LkF K f31 "fallen_out" "Sheet.fallen_out" Wj oc31 kV31 dc31 pm31 cd31 ct31 od31 an31 sl31)
  (c31:codeIn K cd31 "Sheet.fallen_out"=true)
  (k31:keepIn K (.ref f31)=true)
  (b32:FdB K zkk "matches" f32)
  (i32:isFn K (.ref f32)=true)
  (l32:LkF K f32 "matches" "Sheet.matches" Vr oc32 kV32 dc32 pm32 cd32 ct32 od32 an32 sl32)
  (c32:codeIn K cd32 "Sheet.matches"=true)
  (k32:keepIn K (.ref f32)=true)
  (b33:FdB K zkk "match_at" f33)
  (i33:isFn K (.ref f33)=true)
  (l33:LkF K f33 "match_at" "Sheet.match_at" Ve oc33 kV33 dc33 pm33 cd33 ct33 od33 an33 sl33)
  (c33:codeIn K cd33 "Sheet.match_at"=true)
  (k33:keepIn K (.ref f33)=true)
  (b34:FdB K zkk "may" f34)
  (i34:isFn K (.ref f34)=true)
  (l34:LkF K f34 "may" "Sheet.may" Su oc34 kV34 dc34 pm34 cd34 ct34 od34 an34 sl34)
  (c34:codeIn K cd34 "Sheet.may"=true)
  (k34:keepIn K (.ref f34)=true)
  (b35:FdB K zkk "check_place" f35)
  (i35:isFn K (.ref f35)=true)
  (l35:LkF K f35 "check_place" "Sheet.check_place" X7 oc35 kV35 dc35 pm35 cd35 ct35 od35 an35 sl35)
  (c35:codeIn K cd35 "Sheet.check_place"=true)
  (k35:keepIn K (.ref f35)=true)
  (b36:FdB K zkk "goes" f36)
  (i36:isFn K (.ref f36)=true)
  (l36:LkF K f36 "goes" "Sheet.goes" T2 oc36 kV36 dc36 pm36 cd36 ct36 od36 an36 sl36)
  (c36:codeIn K cd36 "Sheet.goes"=true)
  (k36:keepIn K (.ref f36)=true)
  (b37:FdB K zkk "where" f37)
  (i37:isFn K (.ref f37)=true)
  (l37:LkF K f37 "where" "Sheet.where" U6 oc37 kV37 dc37 pm37 cd37 ct37 od37 an37 sl37)
  (c37:codeIn K cd37 "Sheet.where"=true)
  (k37:keepIn K (.ref f37)=true)
  (b38:FdB K zkk "chains" f38)
  (i38:isFn K (.ref f38)=true)
  (l38:LkF K f38 "chains" "Sheet.chains" Uk oc38 kV38 dc38 pm38 cd38 ct38 od38 an38 sl38)
  (c38:codeIn K cd38 "Sheet.chains"=true)
  (k38:keepIn K (.ref f38)=true)
  (b39:FdB K zkk "rows" f39)
  (i39:isFn K (.ref f39)=true)
  (l39:LkF K f39 "rows" "Sheet.rows" T3 oc39 kV39 dc39 pm39 cd39 ct39 od39 an39 sl39)
  (c39:codeIn K cd39 "Sheet.rows"=true)
  (k39:keepIn K (.ref f39)=true)
  (b40:NsB K "drawn_sheet" f40)
  (l40:LkF K f40 "drawn_sheet" "drawn_sheet" U7 oc40 kV40 dc40 pm40 cd40 ct40 od40 an40 sl40)
  (c40:codeIn K cd40 "drawn_sheet"=true)
  (k40:keepIn K (.ref f40)=true)
  (b41:FdB K zkg "__init__" f41)
  (i41:isFn K (.ref f41)=true)
  (l41:LkF K f41 "__init__" "Season.__init__" Wx oc41 kV41 dc41 pm41 cd41 ct41 od41 an41 sl41)
  (c41:codeIn K cd41 "Season.__init__"=true)
  (k41:keepIn K (.ref f41)=true)
  (b42:FdB K zkg "check_not_over" f42)
  (i42:isFn K (.ref f42)=true)
  (l42:LkF K f42 "check_not_over" "Season.check_not_over" Xj oc42 kV42 dc42 pm42 cd42 ct42 od42 an42 sl42)
  (c42:codeIn K cd42 "Season.check_not_over"=true)
  (k42:keepIn K (.ref f42)=true)
  (b43:FdB K zkg "check_undrawn" f43)
  (i43:isFn K (.ref f43)=true)
  (l43:LkF K f43 "check_undrawn" "Season.check_undrawn" Xo oc43 kV43 dc43 pm43 cd43 ct43 od43 an43 sl43)
  (c43:codeIn K cd43 "Season.check_undrawn"=true)
  (k43:keepIn K (.ref f43)=true)
  (b44:FdB K zkg "check_round" f44)
  (i44:isFn K (.ref f44)=true)
  (l44:LkF K f44 "check_round" "Season.check_round" Xz oc44 kV44 dc44 pm44 cd44 ct44 od44 an44 sl44)
  (c44:codeIn K cd44 "Season.check_round"=true)
  (k44:keepIn K (.ref f44)=true)
  (b45:FdB K zkg "check_room" f45)
  (i45:isFn K (.ref f45)=true)
  (l45:LkF K f45 "check_room" "Season.check_room" X8 oc45 kV45 dc45 pm45 cd45 ct45 od45 an45 sl45)
  (c45:codeIn K cd45 "Season.check_room"=true)
  (k45:keepIn K (.ref f45)=true)
  (b46:FdB K zkg "note" f46)
  (i46:isFn K (.ref f46)=true)
  (l46:LkF K f46 "note" "Season.note" U8 oc46 kV46 dc46 pm46 cd46 ct46 od46 an46 sl46)
  (c46:codeIn K cd46 "Season.note"=true)
  (k46:keepIn K (.ref f46)=true)
  (b47:FdB K zkg "sheet_at_hand" f47)
  (i47:isFn K (.ref f47)=true)
  (l47:LkF K f47 "sheet_at_hand" "Season.sheet_at_hand" Xp oc47 kV47 dc47 pm47 cd47 ct47 od47 an47 sl47)
  (c47:codeIn K cd47 "Season.sheet_at_hand"=true)
  (k47:keepIn K (.ref f47)=true)
  (b48:FdB K zkg "sheet_of" f48)
  (i48:isFn K (.ref f48)=true)
  (l48:LkF K f48 "sheet_of" "Season.sheet_of" Wy oc48 kV48 dc48 pm48 cd48 ct48 od48 an48 sl48)
  (c48:codeIn K cd48 "Season.sheet_of"=true)
  (k48:keepIn K (.ref f48)=true)
  (b49:FdB K zkg "takers_of" f49)
  (i49:isFn K (.ref f49)=true)
  (l49:LkF K f49 "takers_of" "Season.takers_of" Wk oc49 kV49 dc49 pm49 cd49 ct49 od49 an49 sl49)
  (c49:codeIn K cd49 "Season.takers_of"=true)
  (k49:keepIn K (.ref f49)=true)
  (b50:FdB K zkg "enrol" f50)
  (i50:isFn K (.ref f50)=true)
  (l50:LkF K f50 "enrol" "Season.enrol" Ul oc50 kV50 dc50 pm50 cd50 ct50 od50 an50 sl50)
  (c50:codeIn K cd50 "Season.enrol"=true)
  (k50:keepIn K (.ref f50)=true)
  (b51:FdB K zkg "draw_up" f51)
  (i51:isFn K (.ref f51)=true)
  (l51:LkF K f51 "draw_up" "Season.draw_up" Vf oc51 kV51 dc51 pm51 cd51 ct51 od51 an51 sl51)
  (c51:codeIn K cd51 "Season.draw_up"=true)
  (k51:keepIn K (.ref f51)=true)
  (b52:FdB K zkg "away" f52)
  (i52:isFn K (.ref f52)=true)
  (l52:LkF K f52 "away" "Season.away" U9 oc52 kV52 dc52 pm52 cd52 ct52 od52 an52 sl52)
  (c52:codeIn K cd52 "Season.away"=true)
  (k52:keepIn K (.ref f52)=true)
  (b53:FdB K zkg "step_in" f53)
  (i53:isFn K (.ref f53)=true)
  (l53:LkF K f53 "step_in" "Season.step_in" Vg oc53 kV53 dc53 pm53 cd53 ct53 od53 an53 sl53)
  (c53:codeIn K cd53 "Season.step_in"=true)
  (k53:keepIn K (.ref f53)=true)
  (b54:FdB K zkg "close" f54)
  (i54:isFn K (.ref f54)=true)
  (l54:LkF K f54 "close" "Season.close" Uo oc54 kV54 dc54 pm54 cd54 ct54 od54 an54 sl54)
  (c54:codeIn K cd54 "Season.close"=true)
  (k54:keepIn K (.ref f54)=true)
  (b55:FdB K zkg "take_back" f55)
  (i55:isFn K (.ref f55)=true)
  (l55:LkF K f55 "take_back" "Season.take_back" Wl oc55 kV55 dc55 pm55 cd55 ct55 od55 an55 sl55)
  (c55:codeIn K cd55 "Season.take_back"=true)
  (k55:keepIn K (.ref f55)=true)
  (b56:FdB K zkg "at_hand" f56)
  (i56:isFn K (.ref f56)=true)
  (l56:LkF K f56 "at_hand" "Season.at_hand" Vh oc56 kV56 dc56 pm56 cd56 ct56 od56 an56 sl56)
  (c56:codeIn K cd56 "Season.at_hand"=true)
  (k56:keepIn K (.ref f56)=true)
  (b57:FdB K zkg "is_away" f57)
  (i57:isFn K (.ref f57)=true)
  (l57:LkF K f57 "is_away" "Season.is_away" Vi oc57 kV57 dc57 pm57 cd57 ct57 od57 an57 sl57)
  (c57:codeIn K cd57 "Season.is_away"=true)
  (k57:keepIn K (.ref f57)=true)
  (b58:FdB K zkg "goes" f58)
  (i58:isFn K (.ref f58)=true)
  (l58:LkF K f58 "goes" "Season.goes" Ta oc58 kV58 dc58 pm58 cd58 ct58 od58 an58 sl58)
  (c58:codeIn K cd58 "Season.goes"=true)
  (k58:keepIn K (.ref f58)=true)
  (b59:FdB K zkg "may" f59)
  (i59:isFn K (.ref f59)=true)
  (l59:LkF K f59 "may" "Season.may" T4 oc59 kV59 dc59 pm59 cd59 ct59 od59 an59 sl59)
  (c59:codeIn K cd59 "Season.may"=true)
  (k59:keepIn K (.ref f59)=true)
  (b60:FdB K zkg "reasons" f60)
  (i60:isFn K (.ref f60)=true)
  (l60:LkF K f60 "reasons" "Season.reasons" Vj oc60 kV60 dc60 pm60 cd60 ct60 od60 an60 sl60)
  (c60:codeIn K cd60 "Season.reasons"=true)
  (k60:keepIn K (.ref f60)=true)
  (b61:FdB K zkg "facts" f61)
  (i61:isFn K (.ref f61)=true)
  (l61:LkF K f61 "facts" "Season.facts" Up oc61 kV61 dc61 pm61 cd61 ct61 od61 an61 sl61)
  (c61:codeIn K cd61 "Season.facts"=true)
  (k61:keepIn K (.ref f61)=true)
  (b62:NsB K "_law_whole" f62)
  (l62:LkF K f62 "_law_whole" "_law_whole" Sw oc62 kV62 dc62 pm62 cd62 ct62 od62 an62 sl62)
  (c62:codeIn K cd62 "_law_whole"=true)
  (k62:keepIn K (.ref f62)=true)
  (b63:NsB K "_law_at" f63)
  (l63:LkF K f63 "_law_at" "_law_at" N9 oc63 kV63 dc63 pm63 cd63 ct63 od63 an63 sl63)
  (c63:codeIn K cd63 "_law_at"=true)
  (k63:keepIn K (.ref f63)=true)
  (b64:NsB K "_law_mix" f64)
  (l64:LkF K f64 "_law_mix" "_law_mix" Pq oc64 kV64 dc64 pm64 cd64 ct64 od64 an64 sl64)
  (c64:codeIn K cd64 "_law_mix"=true)
  (k64:keepIn K (.ref f64)=true)
  (b65:NsB K "_law_numbers" f65)
  (l65:LkF K f65 "_law_numbers" "_law_numbers" Yn oc65 kV65 dc65 pm65 cd65 ct65 od65 an65 sl65)
  (c65:codeIn K cd65 "_law_numbers"=true)
  (k65:keepIn K (.ref f65)=true)
  (b66:NsB K "_law_clubs" f66)
  (l66:LkF K f66 "_law_clubs" "_law_clubs" Y2 oc66 kV66 dc66 pm66 cd66 ct66 od66 an66 sl66)
  (c66:codeIn K cd66 "_law_clubs"=true)
  (k66:keepIn K (.ref f66)=true)
  (b67:NsB K "_law_one_is" f67)
  (l67:LkF K f67 "_law_one_is" "_law_one_is" T6 oc67 kV67 dc67 pm67 cd67 ct67 od67 an67 sl67)
  (c67:codeIn K cd67 "_law_one_is"=true)
  (k67:keepIn K (.ref f67)=true)
  (b68:NsB K "_law_list_is" f68)
  (l68:LkF K f68 "_law_list_is" "_law_list_is" Tb oc68 kV68 dc68 pm68 cd68 ct68 od68 an68 sl68)
  (c68:codeIn K cd68 "_law_list_is"=true)
  (k68:keepIn K (.ref f68)=true)
  (b69:NsB K "_law_tuple_is" f69)
  (l69:LkF K f69 "_law_tuple_is" "_law_tuple_is" Ur oc69 kV69 dc69 pm69 cd69 ct69 od69 an69 sl69)
  (c69:codeIn K cd69 "_law_tuple_is"=true)
  (k69:keepIn K (.ref f69)=true)
  (b70:NsB K "_law_rows_are" f70)
  (l70:LkF K f70 "_law_rows_are" "_law_rows_are" Us oc70 kV70 dc70 pm70 cd70 ct70 od70 an70 sl70)
  (c70:codeIn K cd70 "_law_rows_are"=true)
  (k70:keepIn K (.ref f70)=true)
  (b71:NsB K "_law_is_filling" f71)
  (l71:LkF K f71 "_law_is_filling" "_law_is_filling" Vk oc71 kV71 dc71 pm71 cd71 ct71 od71 an71 sl71)
  (c71:codeIn K cd71 "_law_is_filling"=true)
  (k71:keepIn K (.ref f71)=true)
  (b72:NsB K "_law_words_are" f72)
  (l72:LkF K f72 "_law_words_are" "_law_words_are" Vs oc72 kV72 dc72 pm72 cd72 ct72 od72 an72 sl72)
  (c72:codeIn K cd72 "_law_words_are"=true)
  (k72:keepIn K (.ref f72)=true)
  (b73:NsB K "_law_first" f73)
  (l73:LkF K f73 "_law_first" "_law_first" Sx oc73 kV73 dc73 pm73 cd73 ct73 od73 an73 sl73)
  (c73:codeIn K cd73 "_law_first"=true)
  (k73:keepIn K (.ref f73)=true)
  (b74:NsB K "_law_met" f74)
  (l74:LkF K f74 "_law_met" "_law_met" Pr oc74 kV74 dc74 pm74 cd74 ct74 od74 an74 sl74)
  (c74:codeIn K cd74 "_law_met"=true)
  (k74:keepIn K (.ref f74)=true)
  (b75:NsB K "_law_bars" f75)
  (l75:LkF K f75 "_law_bars" "_law_bars" R1 oc75 kV75 dc75 pm75 cd75 ct75 od75 an75 sl75)
  (c75:codeIn K cd75 "_law_bars"=true)
  (k75:keepIn K (.ref f75)=true)
  (b76:NsB K "_law_open" f76)
  (l76:LkF K f76 "_law_open" "_law_open" R4 oc76 kV76 dc76 pm76 cd76 ct76 od76 an76 sl76)
  (c76:codeIn K cd76 "_law_open"=true)
  (k76:keepIn K (.ref f76)=true)
  (b77:NsB K "_law_paged" f77)
  (l77:LkF K f77 "_law_paged" "_law_paged" Sy oc77 kV77 dc77 pm77 cd77 ct77 od77 an77 sl77)
  (c77:codeIn K cd77 "_law_paged"=true)
  (k77:keepIn K (.ref f77)=true)
  (b78:NsB K "_law_matches" f78)
  (l78:LkF K f78 "_law_matches" "_law_matches" Yf oc78 kV78 dc78 pm78 cd78 ct78 od78 an78 sl78)
  (c78:codeIn K cd78 "_law_matches"=true)
  (k78:keepIn K (.ref f78)=true)
  (b79:NsB K "_law_do" f79)
  (l79:LkF K f79 "_law_do" "_law_do" Me oc79 kV79 dc79 pm79 cd79 ct79 od79 an79 sl79)
  (c79:codeIn K cd79 "_law_do"=true)
  (k79:keepIn K (.ref f79)=true)
  (b80:NsB K "_law_deed" f80)
  (l80:LkF K f80 "_law_deed" "_law_deed" R6 oc80 kV80 dc80 pm80 cd80 ct80 od80 an80 sl80)
  (c80:codeIn K cd80 "_law_deed"=true)
  (k80:keepIn K (.ref f80)=true)
  (b81:NsB K "_law_pool" f81)
  (l81:LkF K f81 "_law_pool" "_law_pool" Xk oc81 kV81 dc81 pm81 cd81 ct81 od81 an81 sl81)
  (c81:codeIn K cd81 "_law_pool"=true)
  (k81:keepIn K (.ref f81)=true)
  (b82:NsB K "_law_people" f82)
  (l82:LkF K f82 "_law_people" "_law_people" Yd oc82 kV82 dc82 pm82 cd82 ct82 od82 an82 sl82)
  (c82:codeIn K cd82 "_law_people"=true)
  (k82:keepIn K (.ref f82)=true)
  (b83:NsB K "_law_enrolled" f83)
  (l83:LkF K f83 "_law_enrolled" "_law_enrolled" Uv oc83 kV83 dc83 pm83 cd83 ct83 od83 an83 sl83)
  (c83:codeIn K cd83 "_law_enrolled"=true)
  (k83:keepIn K (.ref f83)=true)
  (b84:NsB K "_law_rest" f84)
  (l84:LkF K f84 "_law_rest" "_law_rest" X5 oc84 kV84 dc84 pm84 cd84 ct84 od84 an84 sl84)
  (c84:codeIn K cd84 "_law_rest"=true)
  (k84:keepIn K (.ref f84)=true)
  (b85:NsB K "_law_rounds" f85)
  (l85:LkF K f85 "_law_rounds" "_law_rounds" T8 oc85 kV85 dc85 pm85 cd85 ct85 od85 an85 sl85)
  (c85:codeIn K cd85 "_law_rounds"=true)
  (k85:keepIn K (.ref f85)=true)
  (b86:NsB K "_law_cell" f86)
  (l86:LkF K f86 "_law_cell" "_law_cell" R7 oc86 kV86 dc86 pm86 cd86 ct86 od86 an86 sl86)
  (c86:codeIn K cd86 "_law_cell"=true)
  (k86:keepIn K (.ref f86)=true)
  (b87:NsB K "_law_facts_are" f87)
  (l87:LkF K f87 "_law_facts_are" "_law_facts_are" Vt oc87 kV87 dc87 pm87 cd87 ct87 od87 an87 sl87)
  (c87:codeIn K cd87 "_law_facts_are"=true)
  (k87:keepIn K (.ref f87)=true)
  (b88:NsB K "_law_read" f88)
  (l88:LkF K f88 "_law_read" "_law_read" R8 oc88 kV88 dc88 pm88 cd88 ct88 od88 an88 sl88)
  (c88:codeIn K cd88 "_law_read"=true)
  (k88:keepIn K (.ref f88)=true)
  (b89:NsB K "_law_bars_fit" f89)
  (l89:LkF K f89 "_law_bars_fit" "_law_bars_fit" Uw oc89 kV89 dc89 pm89 cd89 ct89 od89 an89 sl89)
  (c89:codeIn K cd89 "_law_bars_fit"=true)
  (k89:keepIn K (.ref f89)=true)
  (b90:NsB K "law" f90)
  (l90:LkF K f90 "law" "law" Hn oc90 kV90 dc90 pm90 cd90 ct90 od90 an90 sl90)
  (c90:codeIn K cd90 "law"=true)
  (k90:keepIn K (.ref f90)=true)
  : ∃ fd:FuncData,(∀ (s:Shared) (v:Value),BindsTo s fd ⟨[v],[]⟩ [("_law_script",v)])/\∀ base:Heap,K.In base->base.Ns mainGlobals mg->Z6 l.prog w K mg base (CX1 l.prog w) 10 fa fd ["_law_script"] (zan K):=by
 have e:=hfa.symm.trans (mg_of X G b90);cases e
 let a:Ad:=⟨zof,zk2,zlj,zk3,zla,zk9,zmv,zlp,zlb,zmc,zlv,zlq,znh,zmt,zky,zli,zki,zkl,zkk,zkg⟩
 have T:Tx K mg a:=⟨⟨zpo,zpn,zpc,zpm⟩,
  zl6,
  zlu,
  ⟨zpg,zpb,zpw,zps⟩,
  zld,
  ⟨zp9,zqa,zqc,zp8⟩,
  zlw,
  zov,
  zm0,
  zor,
  ⟨zpp,zpi,zph,zpx⟩,
  zng,
  zoz,
  zlf,
  zlm,
  zl8,
  znt,
  zk7,
  zlh,
  ⟨mg_of X G zm2,znx⟩,
  ⟨mg_of X G znb,zok⟩,
  ⟨mg_of X G zl3,zmp⟩,
  ⟨mg_of X G zoe,zo4⟩,
  ⟨mg_of X G zmk,zni⟩,
  ⟨mg_of X G zls,zmi⟩,
  ⟨mg_of X G zl1,zmq⟩,
  ⟨mg_of X G zm3,zn3⟩,
  ⟨mg_of X G znd,zog⟩,
  ⟨mg_of X G zos,zpt⟩,
  ⟨mg_of X G zmj,znr⟩,
  ⟨mg_of X G zoj,zo3⟩,
  ⟨mg_of X G znw,zoo⟩,
  ⟨mg_of X G zm1,zn6⟩,
  ⟨mg_of X G zlk,zl5⟩,
  mg_none_of X G zpy,
  mg_none_of X G zkq,
  mg_none_of X G zot,
  mg_none_of X G zlg,
  mg_none_of X G zm4,
  mg_none_of X G zk8,
  mg_none_of X G zql,
  mg_none_of X G zkx,
  mg_none_of X G zqf,
  mg_none_of X G zp1,
  mg_none_of X G zqj,
  mg_none_of X G zp0,
  mg_none_of X G zqg,
  mg_of X G zom,
  mg_of X G znb,
  mg_of X G zmk,
  mg_of X G zls,
  mg_of X G zl1,
  mg_of X G zl3,
  mg_of X G zoe,
  mg_of X G zm3,
  mg_of X G zm2,
  mg_of X G znw,
  mg_of X G znd,
  mg_of X G zm1,
  mg_of X G zos,
  mg_of X G zoj,
  mg_of X G zlk,
  mg_of X G zmj,
  mg_of X G zo8,
  mg_of X G zo7,
  mg_of X G zpz,
  mg_of X G zpa,
  ⟨_,mg_of X G zl9⟩,
  ⟨_,mg_of X G zlz⟩,
  ⟨_,mg_of X G zlt⟩,
  ⟨_,mg_of X G zlc⟩,
  ⟨_,mg_of X G zlo⟩,
  ⟨_,mg_of X G zl7⟩,
  ⟨_,mg_of X G zm5⟩,
  ⟨_,mg_of X G zl4⟩⟩
 have F0:=Zq (st:=Tv) l0 c0 k0;have F1:=Zq (st:=Pm) l1 c1 k1;have F2:=Zq (st:=Nu) l2 c2 k2;have F3:=Zq (st:=Wv) l3 c3 k3;have F4:=Zq (st:=Ub) l4 c4 k4;have F5:=Zq (st:=U2) l5 c5 k5;have F6:=Zq (st:=Uc) l6 c6 k6;have F7:=Zq (st:=Tw) l7 c7 k7;have F8:=Zq (st:=U3) l8 c8 k8;have F9:=Zq (st:=U4) l9 c9 k9;have F10:=Zq (st:=Ud) l10 c10 k10;have F11:=Zq (st:=U5) l11 c11 k11;have F12:=Zq (st:=Pn) l12 c12 k12;have F13:=Zq (st:=Ww) l13 c13 k13;have F14:=Zq (st:=Wi) l14 c14 k14;have F15:=Zq (st:=Xy) l15 c15 k15;have F16:=Zq (st:=Tz) l16 c16 k16;have F17:=Zq (st:=Vo) l17 c17 k17;have F18:=Zq (st:=Vc) l18 c18 k18;have F19:=Zq (st:=Ug) l19 c19 k19;have F20:=Zq (st:=Vp) l20 c20 k20;have F21:=Zq (st:=Uh) l21 c21 k21;have F22:=Zq (st:=T1) l22 c22 k22;have F23:=Zq (st:=Ui) l23 c23 k23;have F24:=Zq (st:=Nv) l24 c24 k24;have F25:=Zq (st:=Jd) l25 c25 k25;have F26:=Zq (st:=Pp) l26 c26 k26;have F27:=Zq (st:=Dc) l27 c27 k27;have F28:=Zq (st:=Rz) l28 c28 k28;have F29:=Zq (st:=Vd) l29 c29 k29;have F30:=Zq (st:=Uj) l30 c30 k30;have F31:=Zq (st:=Wj) l31 c31 k31;have F32:=Zq (st:=Vr) l32 c32 k32;have F33:=Zq (st:=Ve) l33 c33 k33;have F34:=Zq (st:=Su) l34 c34 k34;have F35:=Zq (st:=X7) l35 c35 k35;have F36:=Zq (st:=T2) l36 c36 k36;have F37:=Zq (st:=U6) l37 c37 k37;have F38:=Zq (st:=Uk) l38 c38 k38;have F39:=Zq (st:=T3) l39 c39 k39;have F40:=Zq (st:=U7) l40 c40 k40;have F41:=Zq (st:=Wx) l41 c41 k41;have F42:=Zq (st:=Xj) l42 c42 k42;have F43:=Zq (st:=Xo) l43 c43 k43;have F44:=Zq (st:=Xz) l44 c44 k44;have F45:=Zq (st:=X8) l45 c45 k45;have F46:=Zq (st:=U8) l46 c46 k46;have F47:=Zq (st:=Xp) l47 c47 k47;have F48:=Zq (st:=Wy) l48 c48 k48;have F49:=Zq (st:=Wk) l49 c49 k49;have F50:=Zq (st:=Ul) l50 c50 k50;have F51:=Zq (st:=Vf) l51 c51 k51;have F52:=Zq (st:=U9) l52 c52 k52;have F53:=Zq (st:=Vg) l53 c53 k53;have F54:=Zq (st:=Uo) l54 c54 k54;have F55:=Zq (st:=Wl) l55 c55 k55;have F56:=Zq (st:=Vh) l56 c56 k56;have F57:=Zq (st:=Vi) l57 c57 k57;have F58:=Zq (st:=Ta) l58 c58 k58;have F59:=Zq (st:=T4) l59 c59 k59;have F60:=Zq (st:=Vj) l60 c60 k60;have F61:=Zq (st:=Up) l61 c61 k61;have F62:=Zq (st:=Sw) l62 c62 k62;have F63:=Zq (st:=N9) l63 c63 k63;have F64:=Zq (st:=Pq) l64 c64 k64;have F65:=Zq (st:=Yn) l65 c65 k65;have F66:=Zq (st:=Y2) l66 c66 k66;have F67:=Zq (st:=T6) l67 c67 k67;have F68:=Zq (st:=Tb) l68 c68 k68;have F69:=Zq (st:=Ur) l69 c69 k69;have F70:=Zq (st:=Us) l70 c70 k70;have F71:=Zq (st:=Vk) l71 c71 k71;have F72:=Zq (st:=Vs) l72 c72 k72;have F73:=Zq (st:=Sx) l73 c73 k73;have F74:=Zq (st:=Pr) l74 c74 k74;have F75:=Zq (st:=R1) l75 c75 k75;have F76:=Zq (st:=R4) l76 c76 k76;have F77:=Zq (st:=Sy) l77 c77 k77;have F78:=Zq (st:=Yf) l78 c78 k78;have F79:=Zq (st:=Me) l79 c79 k79;have F80:=Zq (st:=R6) l80 c80 k80;have F81:=Zq (st:=Xk) l81 c81 k81;have F82:=Zq (st:=Yd) l82 c82 k82;have F83:=Zq (st:=Uv) l83 c83 k83;have F84:=Zq (st:=X5) l84 c84 k84;have F85:=Zq (st:=T8) l85 c85 k85;have F86:=Zq (st:=R7) l86 c86 k86;have F87:=Zq (st:=Vt) l87 c87 k87;have F88:=Zq (st:=R8) l88 c88 k88;have F89:=Zq (st:=Uw) l89 c89 k89;have F90:=Zq (st:=Hn) l90 c90 k90;refine⟨fnOf "law" "law" (Sl Hn) (Zt Hn) (Zj Hn) .none kV90 dc90 pm90 an90 cd90 ct90,fun s v=>.of_eq rfl,fun base _ _=>?_⟩
 have zn9:=nMk (C:=a.zki) l.prog w base F3 (O1 F3 T ) ⟨zpd,b3,i3,zpe⟩ (mg_of X G zo8);have zll:=mMk (C:=a.zki) l.prog w base F4 (Kk F4 T ) ⟨b4,i4,k4⟩;have zkp:=mMk (C:=a.zki) l.prog w base F5 (Ip F5 T ) ⟨b5,i5,k5⟩;have znv:=mMk (C:=a.zki) l.prog w base F6 (Km F6 T ) ⟨b6,i6,k6⟩;have zoa:=mMk (C:=a.zki) l.prog w base F7 (Gf F7 T ) ⟨b7,i7,k7⟩;have zks:=dMk l.prog w base F8 (Ir F8 T ) (mg_of X G b8);have zn4:=dMk l.prog w base F9 (Iu F9 T ) (mg_of X G b9);have zny:=dMk l.prog w base F11 (Iv F11 T ) (mg_of X G b11);have zp5:=nMk (C:=a.zkl) l.prog w base F13 (O3 F13 T ) ⟨zpq,b13,i13,zpf⟩ (mg_of X G zo7);have zkn:=mMk (C:=a.zkl) l.prog w base F15 (Qj F15 T ) ⟨b15,i15,k15⟩;have zm8:=mMk (C:=a.zkl) l.prog w base F17 (M6 F17 T ) ⟨b17,i17,k17⟩;have zl0:=mMk (C:=a.zkl) l.prog w base F18 (Nt F18 T ) ⟨b18,i18,k18⟩;have zno:=dMk l.prog w base F21 (Kq F21 T ) (mg_of X G b21);have zoi:=dMk l.prog w base F22 (Gi F22 T ) (mg_of X G b22);have zne:=dMk l.prog w base F23 (Kr F23 T ) (mg_of X G b23);have zo9:=dMk l.prog w base F24 (zcq F24 T ) (mg_of X G b24);have zmr:=dMk l.prog w base F26 (A0 F26 T ) (mg_of X G b26);have zo0:=dMk l.prog w base F28 (Bg F28 T ) (mg_of X G b28);have znc:=nMk (C:=a.zkk) l.prog w base F29 (Ny F29 T ) ⟨zp3,b29,i29,zp6⟩ (mg_of X G zpz);have zm9:=mMk (C:=a.zkk) l.prog w base F32 (Lb F32 T ) ⟨b32,i32,k32⟩;have zk1:=mMk (C:=a.zkk) l.prog w base F35 (Q7 F35 T ) ⟨b35,i35,k35⟩;have zl2:=mMk (C:=a.zkk) l.prog w base F36 (Gk F36 T ) ⟨b36,i36,k36⟩;have znk:=mMk (C:=a.zkk) l.prog w base F38 (Kv F38 T ) ⟨b38,i38,k38⟩;have zod:=mMk (C:=a.zkk) l.prog w base F39 (Gn F39 T ) ⟨b39,i39,k39⟩;have zko:=mMk (C:=a.zkg) l.prog w base F44 (Ql F44 T ) ⟨b44,i44,k44⟩;have zkr:=mMk (C:=a.zkg) l.prog w base F45 (Q9 F45 T ) ⟨b45,i45,k45⟩;have zk6:=mMk (C:=a.zkg) l.prog w base F46 (Hc F46 T ) ⟨b46,i46,k46⟩;have zkm:=mMk (C:=a.zkg) l.prog w base F47 (Ro F47 T ) ⟨b47,i47,k47⟩;have zmf:=dMk l.prog w base F62 (Dg F62 T ) (mg_of X G b62);have zku:=dMk l.prog w base F63 (zcs F63 T ) (mg_of X G b63);have zlx:=dMk l.prog w base F64 (A4 F64 T ) (mg_of X G b64);have zn2:=dMk l.prog w base F65 (Hi F65 T ) (mg_of X G b65);have zon:=dMk l.prog w base F66 (Dh F66 T ) (mg_of X G b66);have zm6:=dMk l.prog w base F72 (Le F72 T ) (mg_of X G b72);have zoq:=dMk l.prog w base F73 (Dj F73 T ) (mg_of X G b73);have zpu:=dMk l.prog w base F74 (A5 F74 T ) (mg_of X G b74);have zmo:=dMk l.prog w base F75 (Bh F75 T ) (mg_of X G b75);have zo2:=dMk l.prog w base F88 (Bq F88 T ) (mg_of X G b88);have zml:=dMk l.prog w base F0 (Gd F0 T zkp zoa) (mg_of X G b0);have znf:=dMk l.prog w base F10 (Kn F10 T zks) (mg_of X G b10);have zk5:=mMk (C:=a.zkl) l.prog w base F14 (Px F14 T zks) ⟨b14,i14,k14⟩;have znn:=mMk (C:=a.zkl) l.prog w base F19 (Kp F19 T zkn) ⟨b19,i19,k19⟩;have zou:=dMk l.prog w base F25 (ze6 F25 T zno zoi zne zo9) (mg_of X G b25);have zmn:=mMk (C:=a.zkk) l.prog w base F33 (N1 F33 T zk1) ⟨b33,i33,k33⟩;have zop:=mMk (C:=a.zkk) l.prog w base F34 (De F34 T zk1) ⟨b34,i34,k34⟩;have zlr:=mMk (C:=a.zkk) l.prog w base F37 (Iy F37 T zo0) ⟨b37,i37,k37⟩;have zmb:=mMk (C:=a.zkg) l.prog w base F55 (P4 F55 T zm8) ⟨b55,i55,k55⟩;have zkj:=mMk (C:=a.zkg) l.prog w base F56 (N5 F56 T zkp) ⟨b56,i56,k56⟩;have zms:=mMk (C:=a.zkg) l.prog w base F57 (N7 F57 T zko zkn) ⟨b57,i57,k57⟩;have zly:=dMk l.prog w base F67 (Gu F67 T zmf) (mg_of X G b67);have zmx:=dMk l.prog w base F71 (Mc F71 T zmf) (mg_of X G b71);have zmy:=dMk l.prog w base F76 (Bi F76 T zpu zmo) (mg_of X G b76);have znz:=dMk l.prog w base F78 (Hm F78 T zlx) (mg_of X G b78);have zo1:=dMk l.prog w base F81 (Bl F81 T zku zon zn2) (mg_of X G b81);have zoh:=dMk l.prog w base F82 (Gx F82 T zku zlx) (mg_of X G b82);have zob:=dMk l.prog w base F84 (Bn F84 T zku) (mg_of X G b84);have zna:=dMk l.prog w base F85 (G1 F85 T zku) (mg_of X G b85);have zoy:=dMk l.prog w base F86 (Bp F86 T zku zlx) (mg_of X G b86);have D_reasons:=dMk l.prog w base F1 (Im F1 T zml) (mg_of X G b1);have zln:=dMk l.prog w base F1 (Im F1 T zml) (mg_of X G zm7);have zpk:=dMk l.prog w base F12 (Az F12 T zn4 znf zny) (mg_of X G b12);have zoc:=mMk (C:=a.zkl) l.prog w base F16 (Gh F16 T zk5) ⟨b16,i16,k16⟩;have zle:=mMk (C:=a.zkl) l.prog w base F20 (M8 F20 T znn) ⟨b20,i20,k20⟩;have zqm:=dMk l.prog w base F27 (zgc F27 T zmr zou) (mg_of X G b27);have znq:=mMk (C:=a.zkk) l.prog w base F30 (Kt F30 T znc) ⟨b30,i30,k30⟩;have zmd:=mMk (C:=a.zkk) l.prog w base F31 (Py F31 T zlr zmr zou znc) ⟨b31,i31,k31⟩;have zp7:=nMk (C:=a.zkg) l.prog w base F41 (O5 F41 T zks zp5 zn9) ⟨zpl,b41,i41,zpj⟩ (mg_of X G zpa);have zkv:=mMk (C:=a.zkg) l.prog w base F42 (S9 F42 T zkj) ⟨b42,i42,k42⟩;have zmg:=mMk (C:=a.zkg) l.prog w base F48 (O7 F48 T zko zkp zkj zkm) ⟨b48,i48,k48⟩;have zol:=mMk (C:=a.zkg) l.prog w base F59 (Gq F59 T zkm zop) ⟨b59,i59,k59⟩;have zmh:=mMk (C:=a.zkg) l.prog w base F61 (K0 F61 T zkj znv) ⟨b61,i61,k61⟩;have zmz:=dMk l.prog w base F68 (Hl F68 T zly) (mg_of X G b68);have znl:=dMk l.prog w base F69 (K1 F69 T zly) (mg_of X G b69);have zme:=dMk l.prog w base F77 (Dk F77 T zmy) (mg_of X G b77);have zo5:=dMk l.prog w base F80 (Bj F80 T znz) (mg_of X G b80);have zn8:=dMk l.prog w base F2 (zcp F2 T zln) (mg_of X G b2);have zn1:=dMk l.prog w base F40 (I9 F40 T znc zqm) (mg_of X G b40);have zkw:=mMk (C:=a.zkg) l.prog w base F43 (Rm F43 T zkv) ⟨b43,i43,k43⟩;have znj:=mMk (C:=a.zkg) l.prog w base F54 (Ky F54 T zkv zkm zll zod zkp) ⟨b54,i54,k54⟩;have zn0:=mMk (C:=a.zkg) l.prog w base F58 (Hh F58 T zmg zl2) ⟨b58,i58,k58⟩;have zmm:=mMk (C:=a.zkg) l.prog w base F60 (N8 F60 T zkm zle zmn zms zkj zln) ⟨b60,i60,k60⟩;have znm:=dMk l.prog w base F70 (K2 F70 T znl) (mg_of X G b70);have zk4:=mMk (C:=a.zkg) l.prog w base F49 (Pz F49 T zl0 zle zkj zn8) ⟨b49,i49,k49⟩;have znu:=mMk (C:=a.zkg) l.prog w base F50 (Kx F50 T zkw zk5 zkr zk6 zkj zoc) ⟨b50,i50,k50⟩;have zma:=dMk l.prog w base F87 (Li F87 T znm) (mg_of X G b87);have znp:=dMk l.prog w base F89 (K6 F89 T zo2 zn9 zll zmo zm6 zmm zmz zol zn8) (mg_of X G b89);have zmu:=mMk (C:=a.zkg) l.prog w base F51 (N2 F51 T zkw zpk zkr zk6 zkj zn1 zk4 zl2) ⟨b51,i51,k51⟩;have zmw:=mMk (C:=a.zkg) l.prog w base F53 (N3 F53 T zk4 zm9 zlr znq zmd znk) ⟨b53,i53,k53⟩;have zn5:=mMk (C:=a.zkg) l.prog w base F52 (Hf F52 T zko zkp zkn zkr zk6 zkj zmw) ⟨b52,i52,k52⟩;have zn7:=dMk l.prog w base F79 (zcu F79 T znu zn5 zmu znj zmb) (mg_of X G b79);have zns:=dMk l.prog w base F83 (K5 F83 T zn7 zme) (mg_of X G b83);exact zic F90 T zku zp7 zob zna zo1 zoq zns zoh zo5 zoy zn7 zme zmh zma znp zn0 zmx zmy
theorem walk{l:OpenLaw}{q:Program}{loose:List Str}{XP:(Str->Option Value)->Heap->Prop}{YP:World->Heap->Prop}{d:DefRec}{K:Params->Frag}(hn:l.most=some 63)(hdf:d.params.defaults=[])
  (hY:∀ (w:World) (h:Heap),YP w h->(K w.params).In h)
  (F:∀ (w:World) (mg:Str->Option Value) (fa:Addr) (h:Heap),(K w.params).In h->h.Ns mainGlobals mg->mg d.name=some (.ref fa) ->
   ∃ fd:FuncData,(∀ (s:Shared) (u:Value),BindsTo s fd ⟨[u],[]⟩ [("_law_script",u)])/\∀ base:Heap,(K w.params).In base->base.Ns mainGlobals mg->Z6 l.prog w (K w.params) mg base (CX1 l.prog w) 10 fa fd ["_law_script"] (zan (K w.params))) :
  WalkO q loose XP YP l.row.toRowW d [] (fun f vs=>PySem.call f vs) :=
 L2.zft (n:=63) (k:=10) (x:="_law_script") (CX:=fun w=>CX1 l.prog w) (sp:=fun w=>zan (K w.params)) hn (by decide) hdf ⟨rfl,by decide,by decide⟩ hY F (fun _ _ a ns hl _ hS=>⟨a,ns,rfl,hS,hl,fun _=>rfl⟩) fun _ _ _ _ _ z=>by obtain⟨_,_,_,_,_,_,_,_,_,_,z⟩:=z;exact z
end K35
open PySem PySem.W PyProof.Rows
namespace PySem.W.Fast
def tw2824916315474693946:=Nat
def tw3690426157521405264:=Nat
def tw9729433264383456683:=Nat
def tw11399080485188149597:=Nat
def tw16718968901235337504:=Nat
def tw5116866867805284002:=Nat
def tw9534325325589151154:=Nat
def tw5580832632604259205:=Nat
def tw2768488926657951085:=Nat
def tw8628772117039732556:=Nat
def tw5695707264005202439:=Nat
def tw17055547153716254072:=Nat
def tw17420208163379987017:=Nat
def tw4171921613174797592:=Nat
def tw15722048104460939588:=Nat
def tw8915498000441394522:=Nat
def tw2641701542942841037:=Nat
def tw13383719846471865718:=Nat
def tw14920481633482797198:=Nat
def tw10160471510096765527:=Nat
def tw14394257608769689279:=Nat
def tw7672363552534382609:=Nat
def tw6181338488667195678:=Nat
def tw4337056779419345551:=Nat
def tw7072310254813097948:=Nat
def tw1537948749656492634:=Nat
def tw9216298031103144110:=Nat
def tw4960081852771222518:=Nat
def tw5139077269675893214:=Nat
def tw11077183455796201689:=Nat
def tw756471876864574175:=Nat
def tw17170366711196472035:=Nat
def tw5397504552553822494:=Nat
def tw16909118515446304896:=Nat
def tw2761566518098754830:=Nat
def tw9035599584061621191:=Nat
def tw10968750019621153887:=Nat
def tw11367983811606547428:=Nat
def tw4660894424498343423:=Nat
def tw11867883454429235285:=Nat
def tw11989242642402364131:=Nat
def tw13503272234884161516:=Nat
def tw17186906599933691483:=Nat
def tw1186858220657419349:=Nat
def tw17143582344468118734:=Nat
def tw10543517076298778858:=Nat
def tw17133526170395511475:=Nat
def tw8523396836063487243:=Nat
def tw4407392379432785:=Nat
def tw16692837804494948602:=Nat
def tw476596454985530072:=Nat
def tw8037763249511204544:=Nat
def tw2702282101292205852:=Nat
def tw5008686875065951982:=Nat
def tw13033359823514373819:=Nat
def tw4409401764723462491:=Nat
def tw13479523803403868330:=Nat
def tw13034476307490704900:=Nat
def tw8290873476773425909:=Nat
def tw11923627703162871492:=Nat
def tw2399163285661105711:=Nat
def tw17694525265579091390:=Nat
def tw12256415031068695771:=Nat
def tw14218502739389398944:=Nat
def tw1260796969134312417:=Nat
def tw16985014349175053094:=Nat
def tw15368661686699636471:=Nat
def tw7979429835969852363:=Nat
def tw123439359671879807:=Nat
def tw17415129867973424510:=Nat
def tw5212798215904973070:=Nat
def tw16339142298771096374:=Nat
def tw8414387472370121913:=Nat
def tw5380183628240240431:=Nat
def tw9224198909734156469:=Nat
def tw945891941309749319:=Nat
def tw13302942732999633041:=Nat
def tw11714635445876144328:=Nat
def tw7360096278129687336:=Nat
def tw11280059451226724262:=Nat
def tw15387861748004282737:=Nat
def tw8795229945984490947:=Nat
def tw386461827994250511:=Nat
def tw2261171815740537743:=Nat
def tw18093309794274204643:=Nat
def tw17665771916823651751:=Nat
def tw17796661570039102592:=Nat
def tw14004118255520205671:=Nat
def tw14620127035329643300:=Nat
def tw6760589559670378944:=Nat
def tw6920126484032204386:=Nat
def tw2086728659601431586:=Nat
def tw5734939528188522857:=Nat
def tw14789628922649363279:=Nat
def tw1630088848348194793:=Nat
def tw8717405141807534752:=Nat
def tw1893677522949754928:=Nat
def tw2302019827556828467:=Nat
def tw14434937862548795760:=Nat
def tw8362165117681518281:=Nat
def tw14357078719231128636:=Nat
def tw12042641098624254515:=Nat
def tw6017433151984076900:=Nat
def tw16643275485085480726:=Nat
def tw10887762983663400247:=Nat
def tw17683538960892714936:=Nat
def tw2045554228302632555:=Nat
def tw15613669301268420717:=Nat
def tw17753587762672762813:=Nat
def tw16698620373849917622:=Nat
def tw16214462776990219556:=Nat
def tw11515218947744197250:=Nat
def tw619800164662867630:=Nat
def tw3322359706447175179:=Nat
def tw14356888013038681192:=Nat
def tw14433650382779392604:=Nat
def tw12521486520553376493:=Nat
def tw11168350152266633745:=Nat
def tw5144390802856789707:=Nat
def tw1461222968848049466:=Nat
def tw12203722001087860689:=Nat
def tw17879906649666757623:=Nat
def tw6511662701194247588:=Nat
def tw104207133255675149:=Nat
def tw3812974304169199791:=Nat
def tw8745120904198912166:=Nat
def tw15206758871984589489:=Nat
def tw8964292229360992198:=Nat
def tw7439995480505138759:=Nat
def tw10968143691243628636:=Nat
def tw1956645305554381593:=Nat
def tw8985512576915768776:=Nat
def tw16590131068737397193:=Nat
def tw6904413220966639404:=Nat
def tw2541064969567894321:=Nat
def tw11180617119470843058:=Nat
def tw12268312305550002993:=Nat
def tw17545612492018280436:=Nat
def tw7304940081583462895:=Nat
def tw15346907661262624199:=Nat
def tw9789678859769145050:=Nat
def tw4338956375187181512:=Nat
def tw11368372089539768086:=Nat
def tw12687952852356898412:=Nat
def tw11148662222498940708:=Nat
def tw17746255145568070665:=Nat
def tw34732553846825306:=Nat
def tw13833408965015122059:=Nat
def tw2950455772146318154:=Nat
def tw17057153433351450704:=Nat
def tw16068586068511593688:=Nat
def tw12113295719995323442:=Nat
def tw1074023034104515282:=Nat
def tw818175758007703399:=Nat
def tw20290272020016579:=Nat
def tw2315719631222510217:=Nat
def tw15357851680694850576:=Nat
def tw10394710998696319946:=Nat
def tw12618073158597133870:=Nat
def tw7672028308202293078:=Nat
def tw13748342680366644864:=Nat
def tw17531485214642222063:=Nat
def tw2116519452426882763:=Nat
def tw5046657513235000898:=Nat
def tw12919890869488378670:=Nat
def tw11924439745003407233:=Nat
def tw9403496985143082996:=Nat
def tw9797955502403482578:=Nat
def tw1221167073656205577:=Nat
def tw17567809439954421318:=Nat
def tw15805526286356697314:=Nat
def tw15174371650940825597:=Nat
def tw9021081729668592577:=Nat
def tw7562441133992762904:=Nat
def tw6852595300574698433:=Nat
def tw2597074499573499001:=Nat
def tw14485750966131180677:=Nat
def tw7772374141410460772:=Nat
def tw2276739079624462934:=Nat
def tw15457571079210278470:=Nat
def tw6932020662558232224:=Nat
def tw9276993306867271062:=Nat
def tw6429522269065528889:=Nat
def tw1115217244121932764:=Nat
def tw15618331712898704842:=Nat
def tw14516465033691340239:=Nat
def tw18307324142211475895:=Nat
def tw1070888159099364037:=Nat
def tw2767293415407727435:=Nat
def tw1107001906254735183:=Nat
def tw16062972303373404678:=Nat
def tw9321188587796099702:=Nat
def tw2030769432599220410:=Nat
def tw13674941972924563014:=Nat
def tw11749462260373090461:=Nat
def tw2036113695200314806:=Nat
def tw14198548784880748339:=Nat
def tw1858786751460851866:=Nat
def tw3055448462462630766:=Nat
def tw604269972985042511:=Nat
def tw1451384398943001215:=Nat
def tw12372515540074103858:=Nat
def tw15807160424104387912:=Nat
def tw5689445224052004095:=Nat
def tw10537004877035600780:=Nat
def tw15739763743715724791:=Nat
def tw712637483900021966:=Nat
def tw12347576733696943858:=Nat
def tw3089992703242891684:=Nat
def tw367079826408207793:=Nat
def tw18124016716289730386:=Nat
def tw4712388218044596543:=Nat
def tw6637399554459269561:=Nat
def tw17997868770261569639:=Nat
def tw15265836773948424708:=Nat
def tw5793428750121935557:=Nat
def tw16866915787319775975:=Nat
def tw18416974418022415890:=Nat
def tw8185453021280037134:=Nat
def tw7920375372844839498:=Nat
def tw13948139921108398954:=Nat
def tw18137812940259143526:=Nat
def tw5956314890774903912:=Nat
def tw2477904584893797899:=Nat
def tw5266813367331800870:=Nat
def tw5787169104119392645:=Nat
def tw5244430431558671163:=Nat
def tw90167002512762732:=Nat
def tw7870441843434259042:=Nat
def tw10015602344376091727:=Nat
def tw15022307751811334275:=Nat
def tw11353019714832726734:=Nat
def tw7511614248429423577:=Nat
def tw11950131700110807517:=Nat
def tw12129141951772256257:=Nat
def tw18218521675190038428:=Nat
def tw1392408748716924889:=Nat
def tw1991424617052052293:=Nat
def tw6112909895833393739:=Nat
def tw14498240666441219361:=Nat
def tw16947595844122383528:=Nat
def tw11457908910790419489:=Nat
def tw17753666845534937380:=Nat
def tw16795460090409534924:=Nat
def tw9021246737261277259:=Nat
def tw10652090435210722495:=Nat
def tw1524275844289480505:=Nat
def tw14511378398867418243:=Nat
def tw6906291371808021090:=Nat
def tw14270593744705627785:=Nat
def tw15177398747638759647:=Nat
def tw10890548840623750234:=Nat
def tw6845758084988746425:=Nat
def tw18442239785806480691:=Nat
def tw2605212783634204329:=Nat
def tw1244570223378344449:=Nat
def tw3650225183794442214:=Nat
def tw9984320524421350046:=Nat
def tw12954209731140202202:=Nat
def tw17847332702072755045:=Nat
def tw10886341723278884642:=Nat
def tw16491449775301370979:=Nat
def tw13062015690739221886:=Nat
def tw1276564425640891914:=Nat
def tw17556187987065608419:=Nat
def tw7406604268868782247:=Nat
def tw11500366963970207509:=Nat
def tw6967766702319463415:=Nat
def tw6639288688235935010:=Nat
def tw3737671452002604648:=Nat
def tw455035101049173596:=Nat
def tw15802334104148277112:=Nat
def tw17114016730790383680:=Nat
def tw17362699451914780434:=Nat
def tw8168884793664716420:=Nat
def tw16198427375736875069:=Nat
def tw4188728443443049224:=Nat
def tw18151078912588547341:=Nat
def tw9415169002453800145:=Nat
def tw14109558713883753247:=Nat
def tw6538091589733520120:=Nat
def tw13741570817806481966:=Nat
def tw4714935347001724061:=Nat
def tw5391771991688838945:=Nat
def tw17288248676190416878:=Nat
def tw15517221934296340970:=Nat
def tw2004853923550948847:=Nat
def tw14107467127696661792:=Nat
def tw16064479336667177527:=Nat
def tw14950313055787378246:=Nat
def tw14766669150302970492:=Nat
def tw17894903697219164256:=Nat
def tw6214285650286178992:=Nat
def tw14928020262830813465:=Nat
def tw16023003792573089912:=Nat
def tw4133753002899660433:=Nat
def tw4902012714040921214:=Nat
def tw5336041187320666699:=Nat
def tw13473177476469674342:=Nat
def tw2841893909861695159:=Nat
def tw1384590618646897831:=Nat
def tw3063451768396581299:=Nat
def tw13124530832017466670:=Nat
def tw3024369415811196311:=Nat
def tw4224843627367584920:=Nat
def tw10004686913335835690:=Nat
def tw12549488203203789383:=Nat
def tw5826023715148387565:=Nat
def tw5903885881910954363:=Nat
def tw9836072249899843228:=Nat
def tw2842776779024942164:=Nat
def tw3155556835893397398:=Nat
def tw15859642071634446234:=Nat
def tw2466845218614268645:=Nat
def tw16504587681168212195:=Nat
def tw7702116663062895923:=Nat
def tw8940276849287852720:=Nat
def tw826887804479871270:=Nat
def tw11619785338745512796:=Nat
def tw9715964789860808137:=Nat
def tw17709759375821518511:=Nat
def tw11124107577536151244:=Nat
def tw16867707021191067443:=Nat
def tw6457413620096375435:=Nat
def tw13230561906185112202:=Nat
def tw1947407042692578147:=Nat
def tw4685357305901334497:=Nat
def tw9829924842410034697:=Nat
def tw16790469208808841995:=Nat
def tw16767347149530466303:=Nat
def tw1801611967230782393:=Nat
def tw11189708446573105276:=Nat
def tw12363452763092778686:=Nat
def tw7597104031106806610:=Nat
def tw6502509942634143104:=Nat
def tw10703429420818958021:=Nat
def tw2890303846609526286:=Nat
def tw9649451828759029504:=Nat
def tw9584361986734639115:=Nat
def tw12041580193261417926:=Nat
def tw7331670668671482877:=Nat
def tw18050223455894134399:=Nat
def tw8095571623143708171:=Nat
def tw8869014454425454053:=Nat
def tw8126417201897207282:=Nat
def tw17317953254155215814:=Nat
def tw5457414932599865136:=Nat
def tw9258620452620037864:=Nat
def tw11976232640316361707:=Nat
def tw10411519756073025096:=Nat
def tw6800072419408588453:=Nat
def tw13646252475185372507:=Nat
def tw13066783322482397504:=Nat
def tw11604839989760982969:=Nat
def tw13103164565500236604:=Nat
def tw1560929072418667158:=Nat
def tw3173600540995281049:=Nat
def tw13247033372356425101:=Nat
def tw8771575462931417519:=Nat
def tw7221800940732775577:=Nat
def tw6173759887559902160:=Nat
def tw7092762500328497516:=Nat
def tw4920157691884889627:=Nat
def tw7749190628495060438:=Nat
def tw2563265122987022479:=Nat
def tw2281347159612251881:=Nat
def tw2265340126610262512:=Nat
def tw11388250372184742941:=Nat
def tw12172703760434374872:=Nat
def tw9055802444793675626:=Nat
def tw12856016126356003757:=Nat
def tw16482484918438510778:=Nat
def tw13316489090278409706:=Nat
def tw9072949071702371649:=Nat
def tw17168698356669334209:=Nat
def tw15210867771960657439:=Nat
def tw102003809808799895:=Nat
def tw16914950100225259708:=Nat
def tw3856820433037012993:=Nat
def tw12808629512028861906:=Nat
def tw10541381550629213133:=Nat
def tw9758884933100814108:=Nat
def tw9324728051121170119:=Nat
def tw1100474939165264414:=Nat
def tw12761841374398097020:=Nat
def tw17254262356133764794:=Nat
def tw502664167230693363:=Nat
def tw8615307032899918649:=Nat
def tw933456955470871597:=Nat
def tw9645712840890774990:=Nat
def tw12780555377721307251:=Nat
def tw15685154377641666487:=Nat
def tw7283141851074066803:=Nat
def tw3833608210605897858:=Nat
def tw18336035305205142506:=Nat
def tw14350212406842112219:=Nat
def tw15137199786428862380:=Nat
def tw3498657967856793883:=Nat
def tw6736172464083129877:=Nat
def tw15957558437789900489:=Nat
def tw1282891035554991706:=Nat
def tw17194031444025082253:=Nat
def tw7722346849548902914:=Nat
def tw6629414151876850756:=Nat
def tw14279709241450645201:=Nat
def tw4892025527180969807:=Nat
def tw11804044862885218437:=Nat
def tw10380258350624139375:=Nat
def tw8600513838131346861:=Nat
def tw16471779019655789990:=Nat
def tw9890322156512146654:=Nat
def tw12577404353259411173:=Nat
def tw1482162760563058990:=Nat
def tw170118342926032837:=Nat
def tw1502240290853212059:=Nat
def tw18316194069779641019:=Nat
def tw9296144540912093548:=Nat
def tw14255603572188036585:=Nat
def tw7653584516238418971:=Nat
def tw15954052649026073427:=Nat
def tw13267571797274738240:=Nat
def tw2330756320575889283:=Nat
def tw1892038255937034120:=Nat
def tw12810102635229723533:=Nat
def tw3329828837850413020:=Nat
def tw3132719051649934736:=Nat
def tw17981848664911194682:=Nat
def tw9357236683553529145:=Nat
def tw404315870799400443:=Nat
def tw9778808559532592241:=Nat
def tw7474602275235455794:=Nat
def tw13793742560125029348:=Nat
def tw12279692248416606938:=Nat
def tw3133581016537722833:=Nat
def tw9981334526403590789:=Nat
def tw2319075830764256136:=Nat
def tw878489401376697155:=Nat
def tw9273205336703296231:=Nat
def tw8975953312636596196:=Nat
def tw5799049022186403632:=Nat
def tw1000286472048120686:=Nat
def tw18218675828934488360:=Nat
def tw18251464499662762154:=Nat
def tw16469852943617674502:=Nat
def tw3091413810678053830:=Nat
def tw16173673075930244222:=Nat
def tw5855281939043251397:=Nat
def tw5157711072615725980:=Nat
def tw17113417402343368664:=Nat
def tw9067971214866554187:=Nat
def tw15154109296878604919:=Nat
def tw14124902502402052060:=Nat
def tw15763645361258048600:=Nat
def tw5296369099475923368:=Nat
def tw12238169420404119640:=Nat
def tw17839255702728166017:=Nat
def tw12492691077959449631:=Nat
def tw4499302206705448285:=Nat
def tw53753097374464034:=Nat
def tw15230637282853363040:=Nat
def tw7290191288776010037:=Nat
def tw5324926885597216488:=Nat
def tw668672165570510064:=Nat
def tw4282915214735663052:=Nat
def tw11569526496651295235:=Nat
def tw11133266763142863979:=Nat
def tw13307794079470094402:=Nat
def tw6842983169572535429:=Nat
def tw6865055400879466345:=Nat
def tw11325655153406543353:=Nat
def tw13992162927111268436:=Nat
def tw4570987691384251279:=Nat
def tw15640798595779878900:=Nat
def tw14539448169228484575:=Nat
def tw7059243183401644550:=Nat
def tw13659633437346133011:=Nat
def tw7590453707685091749:=Nat
def tw6039184234722450996:=Nat
def tw13859538269204129643:=Nat
def tw13758271131751164033:=Nat
def tw15471634534091024838:=Nat
def tw14057830969149794907:=Nat
def tw15521016869833306987:=Nat
def tw1314435469589142383:=Nat
def tw8525199130875571590:=Nat
def tw3632789468949157065:=Nat
def tw12486110959996709995:=Nat
def tw9196205075386394930:=Nat
def tw272891622703762004:=Nat
def tw4834429049874724767:=Nat
def tw641586599908634759:=Nat
def tw5608564816488497380:=Nat
def tw2804687834973251469:=Nat
def tw9603500638248252522:=Nat
def tw10741593569072119012:=Nat
def tw5480652916499884619:=Nat
def tw910402905084306643:=Nat
def tw16600679073613222210:=Nat
def tw6162329521692418359:=Nat
def tw3810926863642750877:=Nat
def tw13606390369491879070:=Nat
def tw12530759376161912168:=Nat
def tw13754689731744107668:=Nat
def tw17181176394671213203:=Nat
def tw3771049697644405512:=Nat
def tw11090481039753298563:=Nat
def tw829096705334533865:=Nat
def tw17340288126210072281:=Nat
def tw280892497918970558:=Nat
def tw13297466930364057269:=Nat
def tw6426748574162188255:=Nat
def tw8374232458540426564:=Nat
end PySem.W.Fast
set_option maxRecDepth 100000 in
set_option maxHeartbeats 0 in
theorem PySem.Challenge.cw_whistlebook_k35_whole_bars_read_again_holds : PySem.Challenge.rw_whistlebook_k35_whole_bars_read_again.Holds := by
 w_on;o_law;k_head;(case hw=>w_witness2)
 k_fill
 refine K35.walk (l:=PySem.Challenge.rw_whistlebook_k35_whole_bars_read_again) rfl rfl (fun w h Y=>PySem.W.kIn_of Y) ?F
 case F =>
  intro w mg fa h KX G hmg
  refine' K35.zid KX G hmg ?zom ?znb ?zmk ?zls ?zl1 ?zl3 ?zoe ?zm3 ?zm2 ?znw ?znd ?zm1 ?zos ?zoj ?zlk ?zmj ?zo8 ?zo7 ?zpz ?zpa ?zpo ?zpn ?zpc ?zpm ?zpd ?zpe ?zl6 ?zlu ?zpg ?zpb ?zpw ?zps ?zpq ?zpf ?zld ?zp9 ?zqa ?zqc ?zp8 ?zp3 ?zp6 ?zlw ?zov ?zm0 ?zor ?zpp ?zpi ?zph ?zpx ?zpl ?zpj ?zng ?zoz ?zlf ?zlm ?zl8 ?znt ?zk7 ?zlh ?znx ?zok ?zmp ?zo4 ?zni ?zmi ?zmq ?zn3 ?zog ?zpt ?znr ?zo3 ?zoo ?zn6 ?zl5 ?zpy ?zkq ?zot ?zlg ?zm4 ?zk8 ?zql ?zkx ?zqf ?zp1 ?zqj ?zp0 ?zqg ?zl9 ?zlz ?zlt ?zlc ?zlo ?zl7 ?zm5 ?zl4 ?b0 ?l0 ?c0 ?k0 ?b1 ?zm7 ?l1 ?c1 ?k1 ?b2 ?l2 ?c2 ?k2 ?b3 ?i3 ?l3 ?c3 ?k3 ?b4 ?i4 ?l4 ?c4 ?k4 ?b5 ?i5 ?l5 ?c5 ?k5 ?b6 ?i6 ?l6 ?c6 ?k6 ?b7 ?i7 ?l7 ?c7 ?k7 ?b8 ?l8 ?c8 ?k8 ?b9 ?l9 ?c9 ?k9 ?b10 ?l10 ?c10 ?k10 ?b11 ?l11 ?c11 ?k11 ?b12 ?l12 ?c12 ?k12 ?b13 ?i13 ?l13 ?c13 ?k13 ?b14 ?i14 ?l14 ?c14 ?k14 ?b15 ?i15 ?l15 ?c15 ?k15 ?b16 ?i16 ?l16 ?c16 ?k16 ?b17 ?i17 ?l17 ?c17 ?k17 ?b18 ?i18 ?l18 ?c18 ?k18 ?b19 ?i19 ?l19 ?c19 ?k19 ?b20 ?i20 ?l20 ?c20 ?k20 ?b21 ?l21 ?c21 ?k21 ?b22 ?l22 ?c22 ?k22 ?b23 ?l23 ?c23 ?k23 ?b24 ?l24 ?c24 ?k24 ?b25 ?l25 ?c25 ?k25 ?b26 ?l26 ?c26 ?k26 ?b27 ?l27 ?c27 ?k27 ?b28 ?l28 ?c28 ?k28 ?b29 ?i29 ?l29 ?c29 ?k29 ?b30 ?i30 ?l30 ?c30 ?k30 ?b31 ?i31 ?l31 ?c31 ?k31 ?b32 ?i32 ?l32 ?c32 ?k32 ?b33 ?i33 ?l33 ?c33 ?k33 ?b34 ?i34 ?l34 ?c34 ?k34 ?b35 ?i35 ?l35 ?c35 ?k35 ?b36 ?i36 ?l36 ?c36 ?k36 ?b37 ?i37 ?l37 ?c37 ?k37 ?b38 ?i38 ?l38 ?c38 ?k38 ?b39 ?i39 ?l39 ?c39 ?k39 ?b40 ?l40 ?c40 ?k40 ?b41 ?i41 ?l41 ?c41 ?k41 ?b42 ?i42 ?l42 ?c42 ?k42 ?b43 ?i43 ?l43 ?c43 ?k43 ?b44 ?i44 ?l44 ?c44 ?k44 ?b45 ?i45 ?l45 ?c45 ?k45 ?b46 ?i46 ?l46 ?c46 ?k46 ?b47 ?i47 ?l47 ?c47 ?k47 ?b48 ?i48 ?l48 ?c48 ?k48 ?b49 ?i49 ?l49 ?c49 ?k49 ?b50 ?i50 ?l50 ?c50 ?k50 ?b51 ?i51 ?l51 ?c51 ?k51 ?b52 ?i52 ?l52 ?c52 ?k52 ?b53 ?i53 ?l53 ?c53 ?k53 ?b54 ?i54 ?l54 ?c54 ?k54 ?b55 ?i55 ?l55 ?c55 ?k55 ?b56 ?i56 ?l56 ?c56 ?k56 ?b57 ?i57 ?l57 ?c57 ?k57 ?b58 ?i58 ?l58 ?c58 ?k58 ?b59 ?i59 ?l59 ?c59 ?k59 ?b60 ?i60 ?l60 ?c60 ?k60 ?b61 ?i61 ?l61 ?c61 ?k61 ?b62 ?l62 ?c62 ?k62 ?b63 ?l63 ?c63 ?k63 ?b64 ?l64 ?c64 ?k64 ?b65 ?l65 ?c65 ?k65 ?b66 ?l66 ?c66 ?k66 ?b67 ?l67 ?c67 ?k67 ?b68 ?l68 ?c68 ?k68 ?b69 ?l69 ?c69 ?k69 ?b70 ?l70 ?c70 ?k70 ?b71 ?l71 ?c71 ?k71 ?b72 ?l72 ?c72 ?k72 ?b73 ?l73 ?c73 ?k73 ?b74 ?l74 ?c74 ?k74 ?b75 ?l75 ?c75 ?k75 ?b76 ?l76 ?c76 ?k76 ?b77 ?l77 ?c77 ?k77 ?b78 ?l78 ?c78 ?k78 ?b79 ?l79 ?c79 ?k79 ?b80 ?l80 ?c80 ?k80 ?b81 ?l81 ?c81 ?k81 ?b82 ?l82 ?c82 ?k82 ?b83 ?l83 ?c83 ?k83 ?b84 ?l84 ?c84 ?k84 ?b85 ?l85 ?c85 ?k85 ?b86 ?l86 ?c86 ?k86 ?b87 ?l87 ?c87 ?k87 ?b88 ?l88 ?c88 ?k88 ?b89 ?l89 ?c89 ?k89 ?b90 ?l90 ?c90 ?k90
  (case zom|znb|zmk|zls|zl1|zl3|zoe|zm3|zm2|znw|znd|zm1|zos|zoj|zlk|zmj|zo8|zo7|zpz|zpa|zpo|zpn|zpc|zpm|zpd|zpe|zl6|zlu|zpg|zpb|zpw|zps|zpq|zpf|zld|zp9|zqa|zqc|zp8|zp3|zp6|zlw|zov|zm0|zor|zpp|zpi|zph|zpx|zpl|zpj|zng|zoz|zlf|zlm|zl8|znt|zk7|zlh|zpy|zkq|zot|zlg|zm4|zk8|zql|zkx|zqf|zp1|zqj|zp0|zqg|zl9|zlz|zlt|zlc|zlo|zl7|zm5|zl4|b0|l0|c0|k0|b1|zm7|l1|c1|k1|b2|l2|c2|k2|b3|i3|l3|c3|k3|b4|i4|l4|c4|k4|b5|i5|l5|c5|k5|b6|i6|l6|c6|k6|b7|i7|l7|c7|k7|b8|l8|c8|k8|b9|l9|c9|k9|b10|l10|c10|k10|b11|l11|c11|k11|b12|l12|c12|k12|b13|i13|l13|c13|k13|b14|i14|l14|c14|k14|b15|i15|l15|c15|k15|b16|i16|l16|c16|k16|b17|i17|l17|c17|k17|b18|i18|l18|c18|k18|b19|i19|l19|c19|k19|b20|i20|l20|c20|k20|b21|l21|c21|k21|b22|l22|c22|k22|b23|l23|c23|k23|b24|l24|c24|k24|b25|l25|c25|k25|b26|l26|c26|k26|b27|l27|c27|k27|b28|l28|c28|k28|b29|i29|l29|c29|k29|b30|i30|l30|c30|k30|b31|i31|l31|c31|k31|b32|i32|l32|c32|k32|b33|i33|l33|c33|k33|b34|i34|l34|c34|k34|b35|i35|l35|c35|k35|b36|i36|l36|c36|k36|b37|i37|l37|c37|k37|b38|i38|l38|c38|k38|b39|i39|l39|c39|k39|b40|l40|c40|k40|b41|i41|l41|c41|k41|b42|i42|l42|c42|k42|b43|i43|l43|c43|k43|b44|i44|l44|c44|k44|b45|i45|l45|c45|k45|b46|i46|l46|c46|k46|b47|i47|l47|c47|k47|b48|i48|l48|c48|k48|b49|i49|l49|c49|k49|b50|i50|l50|c50|k50|b51|i51|l51|c51|k51|b52|i52|l52|c52|k52|b53|i53|l53|c53|k53|b54|i54|l54|c54|k54|b55|i55|l55|c55|k55|b56|i56|l56|c56|k56|b57|i57|l57|c57|k57|b58|i58|l58|c58|k58|b59|i59|l59|c59|k59|b60|i60|l60|c60|k60|b61|i61|l61|c61|k61|b62|l62|c62|k62|b63|l63|c63|k63|b64|l64|c64|k64|b65|l65|c65|k65|b66|l66|c66|k66|b67|l67|c67|k67|b68|l68|c68|k68|b69|l69|c69|k69|b70|l70|c70|k70|b71|l71|c71|k71|b72|l72|c72|k72|b73|l73|c73|k73|b74|l74|c74|k74|b75|l75|c75|k75|b76|l76|c76|k76|b77|l77|c77|k77|b78|l78|c78|k78|b79|l79|c79|k79|b80|l80|c80|k80|b81|l81|c81|k81|b82|l82|c82|k82|b83|l83|c83|k83|b84|l84|c84|k84|b85|l85|c85|k85|b86|l86|c86|k86|b87|l87|c87|k87|b88|l88|c88|k88|b89|l89|c89|k89|b90|l90|c90|k90=>(show _=_;k_is))
  (case znx|zok|zmp|zo4|zni|zmi|zmq|zn3|zog|zpt|znr|zo3|zoo|zn6|zl5=>k_exc)
#print axioms PySem.Challenge.cw_whistlebook_k35_whole_bars_read_again_holds
