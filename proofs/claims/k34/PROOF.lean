import PyProof.Rows.All
import Wide.All
import OpenK.AllK
import Wide.FinOn
import PyProof.EqAt
import PyProof.EqKinds
import PyProof.TupleCall
import Lean
import KE.KDictList
import PyProof.MaxThree
import KE.LcSums
import PyProof.Rows.FactsN_abs
import PyProof.FactsAll.list_3
import PyProof.SeqI3
import PyProof.EnumIter
import PyProof.EnumMake
import PyProof.EnumFor
import PyProof.ZipIter
import PyProof.FactsAll.zip_1
import PyProof.DictIter
import PyProof.MinMaxWalk
import PyProof.Rows.TupDisplay
import PySem.Challenge.RW_whistlebook_k34_whole_all_fillings
abbrev zyz:=@List.length_map
abbrev zy0:=@List.getElem?_eq_some_iff
abbrev zy1:=@List.getElem?_eq_getElem
abbrev zy2:=@List.length_append
abbrev zy3:=@List.mem_singleton
abbrev zy4:=@decide_eq_true
abbrev zy5:=@List.getElem?_map
abbrev zy6:=@List.mem_append
abbrev zy7:=@List.map_append
abbrev zy8:=@List.mem_cons
abbrev zy9:=@List.mem_map
abbrev zza:=@Nat.le_refl
abbrev zzb:=@decide_eq_false
abbrev zzc:=@List.map_cons
abbrev zzd:=@List.size_toArray
abbrev zze:=@List.mem_of_getElem?
abbrev zzf:=@Bool.false_ne_true
abbrev zzg:=@Nat.le_trans
abbrev zzh:=@List.take_length
abbrev zzi:=@List.mem_cons_of_mem
abbrev zzj:=@List.mem_append_right
abbrev zzk:=@Nat.lt_of_lt_of_le
abbrev zzl:=@List.length_cons
abbrev zzm:=@Int.toNat_natCast
abbrev zzn:=@beq_eq_false_iff_ne
abbrev zzo:=@List.nodup_cons
abbrev zzp:=@List.getD_eq_getElem?_getD
abbrev zzq:=@List.mem_filter
abbrev zzr:=@Nat.ne_of_lt
abbrev zzs:=@Nat.zero_le
abbrev zzt:=@List.mem_cons_self
abbrev zzu:=@List.mem_append_left
abbrev zzv:=@List.take_succ_eq_append_getElem
abbrev zzw:=@Int.emod_lt_of_pos
abbrev zzx:=@List.mem_range
abbrev zzy:=@List.getElem?_append_right
abbrev zzz:=@List.not_mem_nil
abbrev zz0:=@List.getElem?_append_left
abbrev zz1:=@List.lookup_cons
abbrev zz2:=@List.length_filter_le
abbrev zz3:=@List.nodup_iff_pairwise_ne
abbrev zz4:=@List.getElem_mem
abbrev zz5:=@Int.emod_nonneg
abbrev zz6:=@List.take_add_one
abbrev zz7:=@List.getElem?_set_ne
abbrev zz8:=@List.getElem?_set_self
abbrev zz9:=@List.getElem_of_mem
abbrev z0a:=@Nat.lt_irrefl
abbrev z0b:=@Option.map_some
abbrev z0c:=@List.length_take_le
abbrev z0d:=@Option.isSome_iff_exists
abbrev z0e:=@List.length_eq_zero_iff
abbrev z0f:=@Bool.and_eq_true
abbrev z0g:=@List.length_range
abbrev z0h:=@Nat.le_succ_of_le
abbrev z0i:=@Nat.lt_of_le_of_lt
abbrev z0j:=@List.filter_cons
abbrev z0k:=@List.filter_cons_of_neg
abbrev z0l:=@List.filter_cons_of_pos
abbrev z0m:=@List.map_congr_left
abbrev z0n:=@Bool.false_eq_true
abbrev z0o:=@List.map_map
abbrev z0p:=@List.nodup_nil
abbrev z0q:=@List.length_set
abbrev z0r:=@List.append_assoc
abbrev z0s:=@Nat.lt_succ_of_lt
abbrev z0t:=@List.mem_singleton_self
abbrev z0u:=@List.length_take
abbrev z0v:=@List.append_inj'
abbrev z0w:=@Option.map_eq_some_iff
abbrev z0x:=@Nat.div_div_eq_div_mul
abbrev z0y:=@List.filter_append
abbrev z0z:=@Bool.eq_iff_iff
abbrev z00:=@List.find?_cons
abbrev z01:=@List.filter_nil
abbrev z02:=@List.any_cons
abbrev z03:=@List.reverse_cons
abbrev z04:=@List.nodup_append
abbrev z05:=@Nat.lt_succ_self
abbrev z06:=@List.all_eq_true
abbrev z07:=@List.filterMap_cons
abbrev z08:=@Int.toNat_of_nonneg
abbrev z09:=@List.mem_filterMap
abbrev z1a:=@List.append_nil
abbrev z1b:=@List.length_nil
abbrev z1c:=@Nat.not_lt_zero
abbrev z1d:=@Int.zero_add
set_option Elab.async false
set_option linter.all false
set_option maxRecDepth 100000
namespace L2
open PySem PySem.Spec PyProof.Rows
noncomputable abbrev Key:=Sum Int Str
noncomputable def Ho:Key->Value->Bool
 | .inl k,v=>Value.isInt k v
 | .inr x,v=>Value.isStrOf x v
noncomputable def zjx(w:World):Key->Int
 | .inl k=>hashInt k
 | .inr x=>hashStr w x
theorem Yw:∀ {k:Key} {v:Value},Ho k v=true->(∃ i t,k=Sum.inl i/\v=Value.int i t)\/(∃ x t,k=Sum.inr x/\v=Value.str x t)
 | .inl i,v,h=>by
   obtain⟨t,e⟩:=Value.isInt_shape (k:=i) (v:=v) h;exact .inl ⟨i,t,rfl,e⟩
 | .inr x,v,h=>by
   obtain⟨t,e⟩:=Value.isStrOf_shape (x:=x) (v:=v) h;exact .inr ⟨x,t,rfl,e⟩
theorem zaq(i:Int)(t:Tok):Ho (.inl i) (.int i t)=true:=by simp[Ho,Value.isInt]
theorem zar(x:Str)(t:Tok):Ho (.inr x) (.str x t)=true:=by simp[Ho,Value.isStrOf]
theorem zgu(a b:Int):decide ((Sum.inl a:Key)=Sum.inl b)=(a == b):=by
 by_cases e:a=b
 ·subst e;simp
 ·have h:¬ (Sum.inl a:Key)=Sum.inl b:=fun q=>e (Sum.inl.inj q)
  rw[zzb h];exact(zzn.mpr e).symm
theorem zgv(a b:Str):decide ((Sum.inr a:Key)=Sum.inr b)=decide (a=b):=by
 by_cases e:a=b
 ·subst e;simp
 ·have h:¬ (Sum.inr a:Key)=Sum.inr b:=fun q=>e (Sum.inr.inj q)
  rw[zzb h,zzb e]
theorem zgw(a:Int)(b:Str):decide ((Sum.inl a:Key)=Sum.inr b)=false:=zzb (fun q=>nomatch q)
theorem zgx(a:Str)(b:Int):decide ((Sum.inr a:Key)=Sum.inl b)=false:=zzb (fun q=>nomatch q)
noncomputable def Yj(prog:Program)(w:World):PySem.KeyKind prog w Key where
 is:=Ho
 hash:=zjx w
 inj:=fun v a b ha hb=>by
  rcases Yw ha with ⟨i,t,rfl,rfl⟩|⟨x,t,rfl,rfl⟩
  ·rcases Yw hb with ⟨j,u,rfl,e⟩|⟨y,u,rfl,e⟩
   ·injection e with e1 _;rw[e1]
   ·exact nomatch e
  ·rcases Yw hb with ⟨j,u,rfl,e⟩|⟨y,u,rfl,e⟩
   ·exact nomatch e
   ·injection e with e1 _;rw[e1]
 byValue:=fun k v h=>by
  rcases Yw h with ⟨i,t,rfl,rfl⟩|⟨x,t,rfl,rfl⟩<;>rfl
 pyHash:=fun hv h=>by
  rcases Yw hv with ⟨i,t,rfl,rfl⟩|⟨x,t,rfl,rfl⟩
  ·exact wpAny_pyHash_int h
  ·exact wpAny_pyHash_str h
 eqBool:=fun hu hv h=>by
  rcases Yw hu with ⟨i,t,rfl,rfl⟩|⟨x,t,rfl,rfl⟩
  ·rcases Yw hv with ⟨j,u,rfl,rfl⟩|⟨y,u,rfl,rfl⟩
   ·rw[zgu] at h;exact wpAny_eqBool_int h
   ·rw[zgw] at h;exact SeqAt.EqAt.int_str i t y u _ _ _ _ h
  ·rcases Yw hv with ⟨j,u,rfl,rfl⟩|⟨y,u,rfl,rfl⟩
   ·rw[zgx] at h;exact SeqAt.EqAt.str_int x t j u _ _ _ _ h
   ·rw[zgv] at h;exact wpAny_eqBool_str h
 «strs»:=fun k x t v h=>by
  rcases Yw h with ⟨i,u,rfl,e⟩|⟨y,u,rfl,e⟩
  ·exact nomatch e
  ·injection e with e1 _
   subst e1;cases v<;>rfl
theorem Eh(prog:Program)(w:World)(i:Int)(t:Tok):(Yj prog w).is (.inl i) (.int i t)=true:=zaq i t
theorem Ei(prog:Program)(w:World)(x:Str)(t:Tok):(Yj prog w).is (.inr x) (.str x t)=true:=zar x t
inductive V where
 | non|bl (b:Bool)|int (i:Int)|str (x:Str)|byt (b:Array UInt8)|flt (b:UInt64)|ref (a:Addr)|ty (n:String)
 deriving DecidableEq
noncomputable def RelV:V->Value->Prop
 | .non,u=>u=Value.none
 | .bl b,u=>u=Value.bool b
 | .int i,u=>∃ t,u=Value.int i t
 | .str x,u=>∃ t,u=Value.str x t
 | .byt b,u=>∃ t,u=Value.bytes b t
 | .flt b,u=>∃ t,u=Value.float b t
 | .ref a,u=>u=Value.ref a
 | .ty n,u=>u=Value.type n
noncomputable abbrev Vals:List V->List Value->Prop:=Paired RelV
theorem Vals.length{xs:List V}{us:List Value}(r:Vals xs us):xs.length=us.length:=Paired.length r
theorem Vals.get:∀ {xs:List V} {us:List Value} {i:Nat} {x:V},Vals xs us->xs[i]?=some x->∃ u,us[i]?=some u/\RelV x u
 | _,_,_,_,.nil,e=>by simp at e
 | _,_,0,_,.cons r _,e=>by simp at e;subst e;exact⟨_,rfl,r⟩
 | _,_,i+1,x,.cons _ t,e=>by
   obtain⟨u,h1,h2⟩:=Vals.get (i:=i) (x:=x) t (by simpa using e)
   exact⟨u,by simpa using h1,h2⟩
theorem Vals.set{x:V}{u:Value}(r:RelV x u):∀ {xs:List V} {us:List Value} (i:Nat),Vals xs us->Vals (xs.set i x) (us.set i u)
 | _,_,_,.nil=>.nil
 | _,_,0,.cons _ t=>.cons r t
 | _,_,i+1,.cons q t=>.cons q (Vals.set r i t)
theorem Vals.append:∀ {xs ys:List V} {us ws:List Value},Vals xs us->Vals ys ws->Vals (xs++ys) (us++ws)
 | _,_,_,_,.nil,s=>s
 | _,_,_,_,.cons r t,s=>.cons r (Vals.append t s)
theorem Vals.take:∀ {xs:List V} {us:List Value} (n:Nat),Vals xs us->Vals (xs.take n) (us.take n)
 | _,_,0,_=>.nil
 | _,_,_+1,.nil=>.nil
 | _,_,n+1,.cons r t=>.cons r (Vals.take n t)
theorem Vals.drop:∀ {xs:List V} {us:List Value} (n:Nat),Vals xs us->Vals (xs.drop n) (us.drop n)
 | _,_,0,r=>r
 | _,_,_+1,.nil=>.nil
 | _,_,n+1,.cons _ t=>Vals.drop n t
noncomputable def RelO:Option V->Option Value->Prop
 | some v,some u=>RelV v u
 | none,none=>True
 | _,_=>False
noncomputable def KV{κ:Type}:List (κ×V)->List (κ×Value)->Prop:=Paired fun (p:κ×V) (q:κ×Value)=>p.1=q.1/\RelV p.2 q.2
noncomputable def kV:Key->V
 | .inl i=>.int i
 | .inr x=>.str x
inductive HO where
 | lst (xs:List V)
 | tup (xs:List V)
 | dK (kvs:List (Key×V))|dT (kvs:List (List Key×V))
 | set (S:Int->Bool) (n:Nat)
 | ins (C dx:Addr) (fs:List (Str×V))
 | own (x:Addr)
 | xd (fs:List (Str×V))
 | met (f x:Addr)
 | rng (lo hi:Int)
 | frz (o:Obj) (u:HO)
 | tbl (ps:Array Value)
 | ext (φ:Heap->Prop)
noncomputable abbrev Hp:=Addr->Option HO
noncomputable def upd(H:Hp)(a:Addr)(o:HO):Hp:=fun b=>if b=a then some o else H b
theorem Zb{H:Hp}{a:Addr}{o:HO}:upd H a o a=some o:=by unfold upd;rw[if_pos rfl]
theorem Zh{H:Hp}{a b:Addr}{o:HO}(h:b≠a):upd H a o b=H b:=by unfold upd;rw[if_neg h]
theorem Ka{H:Hp}{a:Addr}{o u:HO}:upd (upd H a o) a u=upd H a u:=by
 funext b;unfold upd;split<;>rfl
theorem Ym{H:Hp}{a b:Addr}{o u:HO}(h:H a=some o)(h':H b=some u)(d:o≠u):a≠b:=by
 intro e;subst e;rw[h] at h';exact d (Option.some.inj h')
theorem Zg{H:Hp}{a b:Addr}{o:HO}(h:H a=some o)(h':H b=none):a≠b:=by
 intro e;subst e;rw[h] at h';cases h'
section
variable(P:Program)(w:World)
noncomputable def Y2(H:Hp)(h:Heap)(a:Addr):HO->Prop
 | .lst xs=>xs.length<=sizeLine/\∃ (its:List Value) (n:Nat),Vals xs its/\h.get? a=some { cls:=.type "list",data:=.seq its.toArray n }
 | .tup xs=>xs.length<=sizeLine/\∃ its:List Value,Vals xs its/\IsTup h a its.toArray
 | .dK kvs=>kvs.length<=sizeLine/\(a == sysModules)=false/\∃ vs,KV kvs vs/\h.DictOf (Yj P w) a vs
 | .dT kvs=>kvs.length<=sizeLine/\(a == sysModules)=false/\∃ xs:List (List Key×Addr×Value),
   Paired (fun (p:List Key×V) (q:List Key×Addr×Value)=>p.1=q.1/\H q.2.1=some (.tup (p.1.map kV))/\RelV p.2 q.2.2) kvs xs /\
   ∃ o es ep,h.get? a=some o/\o.ExactDict/\o.data=.dict es ep/\es.toList=xs.map (entryOfKey (tupleKind (Yj P w)))/\(xs.map (·.1)).Nodup
 | .set S n=>h.SetOf (intKind P w) a S n
 | .ins C dx fs=>H dx=some (.own a)/\fs.length<=1000/\dx≠a/\h.get? a=some (PySem.W.instObj C dx) /\
   ∃ mA,h.Ns1 dx mA/\(∀ f,RelO (fs.lookup f) (mA f))/\PySem.Within mA (fs.map (·.1))
 | .own _=>∃ o,h.get? a=some o
 | .xd fs=>∃ mA,h.Ns1 a mA/\∀ f,RelO (fs.lookup f) (mA f)
 | .rng lo hi=>∃ t u v,h.get? a=some { cls:=.type "range",data:=.fields #[.int lo t,.int hi u,.int 1 v] }
 | .frz o u=>h.get? a=some o/\Y2 H h a u
 | .tbl ps=>h.get? a=some { cls:=.none,data:=.fields ps }
 | .met f x=>h.get? a=some (PySem.W.methodObj (.ref f) (.ref x))
 | .ext φ=>φ h/\(∃ o,h.get? a=some o)/\∀ h1 h2:Heap,φ h1->(∀ o,h1.get? a=some o->h2.get? a=some o)->φ h2
noncomputable def HOk(H:Hp)(h:Heap):Prop:=∀ a o,H a=some o->Y2 P w H h a o
end
section
variable{P:Program}{w:World}{H H':Hp}{h h':Heap}{a:Addr}{o:HO}
theorem Y2.lt(x:Y2 P w H h a o):a<h.objs.size:=by
 cases o with
 | lst xs=>obtain⟨_,_,_,_,e⟩:=x;exact Heap.lt_size e
 | tup xs=>obtain⟨_,_,_,p⟩:=x;exact p.lt
 | dK kvs=>obtain⟨_,_,_,_,o,_,_,e,_⟩:=x;exact Heap.lt_size e
 | dT kvs=>obtain⟨_,_,_,_,o,_,_,e,_⟩:=x;exact Heap.lt_size e
 | set S n=>obtain⟨o,_,_,_,e,_⟩:=x;exact Heap.lt_size e
 | ins C dx fs=>obtain⟨_,_,_,e,_⟩:=x;exact Heap.lt_size e
 | own y=>obtain⟨_,e⟩:=x;exact Heap.lt_size e
 | xd fs=>obtain⟨_,⟨_,_,_,e,_⟩,_⟩:=x;exact Heap.lt_size e
 | rng lo hi=>obtain⟨_,_,_,e⟩:=x;exact Heap.lt_size e
 | frz ob u=>obtain⟨e,_⟩:=x;exact Heap.lt_size e
 | tbl ps=>exact Heap.lt_size (show h.get? a=some _ from x)
 | met f y=>exact Heap.lt_size (show h.get? a=some _ from x)
 | ext φ=>obtain⟨_,⟨_,e⟩,_⟩:=x;exact Heap.lt_size e
theorem Paired.mapP{α β:Type}{F G:α->β->Prop}:∀ {l₁:List α} {l₂:List β},Paired F l₁ l₂->(∀ a b,F a b->G a b)->Paired G l₁ l₂
 | _,_,.nil,_=>.nil
 | _,_,.cons r t,f=>.cons (f _ _ r) (Paired.mapP t f)
theorem Y2.stay(x:Y2 P w H h a o)(k:∀ b u,(b=a\/H b=some (.own a))->h.get? b=some u->h'.get? b=some u)
  (ho:∀ b,H b=some (.own a)->H' b=some (.own a)) (ht:∀ b xs,H b=some (.tup xs)->H' b=some (.tup xs)):Y2 P w H' h' a o:=by
 induction o with
 | lst xs=>obtain⟨z,its,n,r,e⟩:=x;exact⟨z,its,n,r,k _ _ (.inl rfl) e⟩
 | tup xs=>obtain⟨z,its,r,ob,e,c⟩:=x;exact⟨z,its,r,ob,k _ _ (.inl rfl) e,c⟩
 | dK kvs=>obtain⟨z,y,vs,r,ob,es,ep,e,c⟩:=x;exact⟨z,y,vs,r,ob,es,ep,k _ _ (.inl rfl) e,c⟩
 | dT kvs =>
   obtain⟨z,y,xs,r,ob,es,ep,e,c⟩:=x;exact⟨z,y,xs,Paired.mapP r fun p q z=>⟨z.1,ht _ _ z.2.1,z.2.2⟩,ob,es,ep,k _ _ (.inl rfl) e,c⟩
 | set S n=>obtain⟨ob,es,ep,t,e,c⟩:=x;exact⟨ob,es,ep,t,k _ _ (.inl rfl) e,c⟩
 | ins C dx fs =>
   obtain⟨d,z,ne,e,mA,⟨od,es,ep,e2,c⟩,r⟩:=x;exact⟨ho _ d,z,ne,k _ _ (.inl rfl) e,mA,⟨od,es,ep,k _ _ (.inr d) e2,c⟩,r⟩
 | own y=>obtain⟨ob,e⟩:=x;exact⟨ob,k _ _ (.inl rfl) e⟩
 | xd fs=>obtain⟨mA,⟨od,es,ep,e,c⟩,r⟩:=x;exact⟨mA,⟨od,es,ep,k _ _ (.inl rfl) e,c⟩,r⟩
 | rng lo hi=>obtain⟨t,u,v,e⟩:=x;exact⟨t,u,v,k _ _ (.inl rfl) e⟩
 | frz ob u ih=>obtain⟨e,q⟩:=x;exact⟨k _ _ (.inl rfl) e,ih q⟩
 | tbl ps =>
   have e:h.get? a=some { cls:=.none,data:=.fields ps }:=x;show h'.get? a=some { cls:=.none,data:=.fields ps };exact k a _ (.inl rfl) e
 | met f y =>
   have e:h.get? a=some (PySem.W.methodObj (.ref f) (.ref y)):=x;show h'.get? a=some (PySem.W.methodObj (.ref f) (.ref y));exact k a _ (.inl rfl) e
 | ext φ=>obtain⟨p,⟨o,e⟩,st⟩:=x;exact⟨st _ _ p fun o q=>k _ _ (.inl rfl) q,⟨o,k _ _ (.inl rfl) e⟩,st⟩
theorem HOk.lt(x:HOk P w H h)(e:H a=some o):a<h.objs.size:=(x a o e).lt
theorem HOk.fresh(x:HOk P w H h)(e:h.objs.size<=a):H a=none:=by
 cases q:H a with
 | none=>rfl
 | some u=>exact absurd (zzk (x.lt q) e) (z0a _)
theorem HOk.kept(x:HOk P w H h)(k:∀ b u,h.get? b=some u->h'.get? b=some u):HOk P w H h':=fun a o e =>
 (x a o e).stay (fun b u _ q=>k b u q) (fun _ q=>q) fun _ _ q=>q
theorem HOk.laid(x:HOk P w H h)(k:∀ b u,h.get? b=some u->h'.get? b=some u)(hp:h.objs.size<=a)(new:Y2 P w (upd H a o) h' a o):HOk P w (upd H a o) h':=fun b u e=>by
 have hn:=x.fresh hp;by_cases hb:b=a
 ·subst hb;rw[Zb] at e;cases e;exact new
 ·rw[Zh hb] at e
  exact(x b u e).stay (fun c v _ q=>k c v q) (fun c q=>by rw[Zh (Zg q hn)];exact q) fun c xs q=>by rw[Zh (Zg q hn)];exact q
end
noncomputable def Rd(H:Hp)(a:Addr)(u:HO):Prop:=H a=some u\/∃ o,H a=some (.frz o u)
theorem Rd.ok{P:Program}{w:World}{H:Hp}{h:Heap}{a:Addr}{u:HO}(r:Rd H a u)(x:HOk P w H h):Y2 P w H h a u:=by
 rcases r with r|⟨o,r⟩
 ·exact x a u r
 ·obtain⟨_,q⟩:=x a _ r
  exact q
noncomputable def Mut:Option HO->Prop
 | some (.lst _)=>True
 | some (.dK _)=>True
 | some (.dT _)=>True
 | some (.set _ _)=>True
 | some (.ins _ _ _)=>True
 | some (.ext _)=>True
 | _=>False
section
variable{P:Program}{w:World}{H:Hp}{h h':Heap}{x e:Addr}{o':HO}
theorem HOk.write(ok:HOk P w H h)(mu:Mut (H x))(he:e=x\/H e=some (.own x))(k:∀ b u,b≠e->h.get? b=some u->h'.get? b=some u)(heo:∃ u,h'.get? e=some u)
  (new:Y2 P w (upd H x o') h' x o'):HOk P w (upd H x o') h':=fun b u q=>by
 have nown:∀ c y,H c=some (.own y)->c≠x:=fun c y r z=>by subst z;rw[r] at mu;exact mu
 have ntup:∀ c xs,H c=some (.tup xs)->c≠x:=fun c xs r z=>by subst z;rw[r] at mu;exact mu
 by_cases hb:b=x
 ·subst hb;rw[Zb] at q;cases q;exact new
 ·rw[Zh hb] at q
  by_cases hbe:b=e
  ·have q':H b=some (.own x):=by
    rcases he with z|z
    ·exact absurd (hbe.trans z) hb
    ·rw[hbe];exact z
   rw[q] at q';cases q'
   obtain⟨v,hv⟩:=heo;exact⟨v,by rw[hbe];exact hv⟩
  ·refine(ok b u q).stay (fun c v hc r=>k c v ?_ r) (fun c r=>by rw[Zh (nown c b r)];exact r) fun c xs r=>by rw[Zh (ntup c xs r)];exact r
   rcases hc with rfl|hc
   ·exact hbe
   ·rintro rfl
    rcases he with z|z
    ·exact nown c b hc z
    ·rw[hc] at z;cases z;exact hb rfl
end
structure Un(fs ex:List Addr)(H H':Hp)(h h':Heap):Prop where
 keep:∀ b o,h.get? b=some o->H b=none->b∉fs->b∉ex->h'.get? b=some o
 slot:∀ b o,h.get? b=some o->H b=none->b∈fs->b∉ex->∃ sl,h'.get? b=some { o with slots:=sl }
 free:∀ b o,h.get? b=some o->H b=none->b∉ex->H' b=none
 there:∀ b o,h.get? b=some o->b∉ex->∃ o',h'.get? b=some o'
 tups:∀ b xs,H b=some (.tup xs)->H' b=some (.tup xs)
 frzs:∀ b o u,H b=some (.frz o u)->H' b=some (.frz o u)
 tbls:∀ b ps,H b=some (.tbl ps)->∃ more,H' b=some (.tbl (ps++more))
section
variable{fs fs' ex ex':List Addr}{H H1 H2:Hp}{h h1 h2 h':Heap}{a x e:Addr}{o:HO}
theorem Un.any(u:Un fs ex H H1 h h1){b:Addr}{ob:Obj}(q:h.get? b=some ob)(n:H b=none)(hx:b∉ex):∃ sl,h1.get? b=some { ob with slots:=sl }:=by
 by_cases hb:b∈fs
 ·exact u.slot b ob q n hb hx
 ·exact⟨ob.slots,u.keep b ob q n hb hx⟩
theorem Un.kept(k:∀ b u,h.get? b=some u->h'.get? b=some u):Un fs ex H H h h' :=
 ⟨fun b ob q _ _ _=>k b ob q,fun b ob q _ _ _=>⟨ob.slots,k b ob q⟩,fun _ _ _ n _=>n,fun b ob q _=>⟨ob,k b ob q⟩,fun _ _ q=>q,fun _ _ _ q=>q,fun _ ps q=>⟨#[],by rw[q];simp⟩⟩
theorem Un.refl:Un fs ex H H h h:=Un.kept fun _ _ q=>q
theorem Un.laid(k:∀ b u,h.get? b=some u->h'.get? b=some u)(hp:h.objs.size<=a)(hn:H a=none):Un fs ex H (upd H a o) h h' where
 keep:=fun b u q _ _ _=>k b u q
 slot:=fun b u q _ _ _=>⟨u.slots,k b u q⟩
 free:=fun b u q n _=>by rw[Zh (zzr (zzk (Heap.lt_size q) hp))];exact n
 there:=fun b u q _=>⟨u,k b u q⟩
 tups:=fun b xs q=>by rw[Zh (Zg q hn)];exact q
 frzs:=fun b u xs q=>by rw[Zh (Zg q hn)];exact q
 tbls:=fun b ps q=>⟨#[],by rw[Zh (Zg q hn),q];simp⟩
theorem Un.write(mu:Mut (H x))(he:e=x\/H e=some (.own x))(k:∀ b u,b≠e->h.get? b=some u->h'.get? b=some u)(heo:∃ u,h'.get? e=some u):Un fs ex H (upd H x o) h h':=by
 have hx:∀ b,H b=none->b≠x:=fun b n z=>by subst z;rw[n] at mu;exact mu
 have hb:∀ b,H b=none->b≠e:=fun b n z=>by
  subst z;rcases he with r|r
  ·exact hx b n r
  ·rw[n] at r;cases r
 have hm:∀ b u,H b=some u->¬ Mut (some u)->b≠x:=fun b u q nm z=>by subst z;rw[q] at mu;exact nm mu
 refine⟨fun b u q n _ _=>k b u (hb b n) q,fun b u q n _ _=>⟨u.slots,k b u (hb b n) q⟩,fun b u q n _=>by rw[Zh (hx b n)];exact n,fun b u q _=>?_,
  fun b xs q=>by rw[Zh (hm b _ q fun z=>z)];exact q,fun b u xs q=>by rw[Zh (hm b _ q fun z=>z)];exact q,fun b ps q=>⟨#[],by rw[Zh (hm b _ q fun z=>z),q];simp⟩⟩
 by_cases hbe:b=e
 ·subst hbe;exact heo
 ·exact⟨u,k b u hbe q⟩
end
noncomputable def trk(h:Heap)(H:Hp):List Addr:=(List.range h.objs.size).filter fun a=>(H a).isSome
noncomputable def G3(h:Heap)(H:Hp):Heap:=PySem.W.hideAll h (trk h H)
theorem zas(h:Heap)(H:Hp):(G3 h H).objs.size=h.objs.size:=PySem.W.hideAll_size _ _
theorem zci{h:Heap}{H:Hp}{b:Addr}{o:Obj}(e:h.get? b=some o)(n:H b=none):(G3 h H).get? b=some o :=
 PySem.W.hideAll_get _ e fun hm=>by
  have q:(H b).isSome=true:=(zzq.mp hm).2;rw[n] at q;simp at q
theorem zey{h:Heap}{H:Hp}{b:Addr}{o:Obj}(e:(G3 h H).get? b=some o):h.get? b=some o/\H b=none:=by
 have e':h.get? b=some o:=PySem.W.of_hideAll (trk h H) e;refine⟨e',?_⟩;cases q:H b with
 | none=>rfl
 | some x =>
   have hm:b∈trk h H:=zzq.mpr ⟨zzx.mpr (Heap.lt_size e'),by simp[q]⟩
   have z:(G3 h H).get? b=none:=PySem.W.hideAll_none (trk h H) hm;rw[z] at e;cases e
structure Mod(K:PySem.W.Frag)(mg:Str->Option Value)(base:Heap):Prop where
 kin:K.In base
 glob:base.Ns mainGlobals mg
 blt:∃ mb,base.Ns builtinsNs mb/\∀ x:Str,x≠"__name__"->mb x=bootBuiltins x
 nolimit:base.NoLimit
structure Cx where
 prog:Program
 w:World
 K:PySem.W.Frag
 mg:Str->Option Value
 base:Heap
 A:Around
 N:List Str
 s₀:Shared
 H₀:Hp
 env:Env
 outer:List Env
 stack:List Env
 ex:List Addr
 fn:Str->Bool
 calm:Bool
 pn:List (Addr×Obj)
 xe:Value->Shared->Prop
 lk:List (Option V):=[]
noncomputable def frs(l:List Env):List Addr:=l.filterMap (·.frame)
noncomputable abbrev Cx.fs(X:Cx):List Addr:=frs X.outer
noncomputable def Vis(sc:Scope)(x:Str):Prop:=sc.names.lookup x=some .local\/sc.names.lookup x=some .cell\/sc.names.lookup x=some .free
noncomputable def Loc(sc:Scope)(x:Str):Prop:=sc.names.lookup x=some .local\/sc.names.lookup x=some .cell
noncomputable def Look(env:Env)(h:Heap)(m:Str->Option Value)(x:Str)(u:Value):Prop :=
 (env.kindOf x=some .local/\m x=some u)\/((env.kindOf x=some .cell\/env.kindOf x=some .free)/\∃ c,env.cells.lookup x=some c/\h.IsCell c (some u))
structure Cx.Ok(X:Cx):Prop where
 mod:Mod X.K X.mg X.base
 kind:X.env.scope.kind=.function
 glob:X.env.globals=mainGlobals
 blt:X.env.builtins=builtinsNs
 above:X.s₀.heap.objs.size<=X.env.locals
 inj:∀ x y c,X.env.cells.lookup x=some c->X.env.cells.lookup y=some c->x=y
 has:∀ x,(X.env.kindOf x=some .cell\/X.env.kindOf x=some .free)->∃ c,X.env.cells.lookup x=some c
 cab:∀ x c,X.fn x=true->X.env.cells.lookup x=some c->X.s₀.heap.objs.size<=c
 hd:X.calm=true->X.A.handled=none
 frames:X.A.frames=some X.stack
 stk:X.stack=X.outer\/(X.stack=X.env :: X.outer/\X.env.frame=some X.env.locals)
 exf:∀ b∈X.ex,b≠X.env.locals/\∀ x c,X.env.cells.lookup x=some c->c≠b
 bs:∀ b o,X.base.get? b=some o->X.s₀.heap.get? b=some o/\X.H₀ b=none
 bsz:X.base.objs.size<=X.s₀.heap.objs.size
 noex:∀ b o,X.base.get? b=some o->b∉X.ex
 exfs:∀ b∈X.ex,b∉X.fs
 funs:X.s₀.heap.FunFrames X.base X.outer
 frf:∀ b∈X.fs,X.H₀ b=none
structure Inv(X:Cx)(pins:List (Addr×Obj))(σ:List (Option V))(H:Hp)(s:Shared):Prop where
 ok:X.Ok
 os:s.os=X.s₀.os
 bare:AllBare s.gens
 base:Un X.fs X.ex X.H₀ H X.s₀.heap s.heap
 loc:∃ m,s.heap.Ns X.env.locals m/\∀ (i:Nat) (x:Str) (v:V),X.N[i]?=some x->(σ[i]?=some (some v)\/X.lk[i]?=some (some v))->Vis X.env.scope x->∃ u,RelV v u/\Look X.env s.heap m x u
 cell:∀ x c,X.env.cells.lookup x=some c->∃ v,s.heap.IsCell c v
 free:H X.env.locals=none
 freeC:∀ x c,X.env.cells.lookup x=some c->H c=none
 pin:∀ p∈X.pn++pins,s.heap.get? p.1=some p.2/\H p.1=none/\p.1≠X.env.locals/\p.1∉X.fs/\∀ v,p.2.data≠.cell v
 hok:HOk X.prog X.w H s.heap
 len:σ.length=X.N.length
section
variable{X:Cx}{pins:List (Addr×Obj)}{σ:List (Option V)}{H H':Hp}{s:Shared}{h':Heap}
theorem Cx.Ok.nofr(ok:X.Ok){b:Addr}{o:Obj}(e:X.base.get? b=some o):b∉X.fs:=fun hb=>by
 have:=(ok.funs.mem hb).1;rw[e] at this;cases this
theorem Inv.bs(I:Inv X pins σ H s):∀ b o,X.base.get? b=some o->s.heap.get? b=some o/\H b=none:=fun b o e =>
 ⟨I.base.keep b o (I.ok.bs b o e).1 (I.ok.bs b o e).2 (I.ok.nofr e) (I.ok.noex b o e),I.base.free b o (I.ok.bs b o e).1 (I.ok.bs b o e).2 (I.ok.noex b o e)⟩
theorem Inv.bk(I:Inv X pins σ H s):∀ b o,X.base.get? b=some o->s.heap.get? b=some o:=fun b o e=>(I.bs b o e).1
theorem Inv.mod(I:Inv X pins σ H s):Mod X.K X.mg X.base:=I.ok.mod
theorem Inv.kIn(I:Inv X pins σ H s):X.K.In s.heap:=I.ok.mod.kin.keeps I.bk
theorem Inv.lt(I:Inv X pins σ H s):X.env.locals<s.heap.objs.size:=let ⟨_,hn,_⟩:=I.loc;hn.lt
theorem Inv.sz(I:Inv X pins σ H s):X.s₀.heap.objs.size<=s.heap.objs.size:=zzg I.ok.above (Nat.le_of_lt I.lt)
theorem Inv.nofs(I:Inv X pins σ H s){a:Addr}(h:s.heap.objs.size<=a):a∉X.fs:=fun hb=>by
 obtain⟨_,o,ho,_⟩:=I.ok.funs.mem hb;exact absurd (zzk (Heap.lt_size ho) (zzg I.sz h)) (z0a _)
theorem Inv.cne(I:Inv X pins σ H s):∀ x c,X.env.cells.lookup x=some c->c≠X.env.locals:=fun x c e z=>by
 obtain⟨v,o,ho,hd⟩:=I.cell x c e;obtain⟨m,⟨o',es,ep,ho',hd',_⟩,_⟩:=I.loc;rw[z,ho'] at ho;cases ho;rw[hd'] at hd;cases hd
theorem Inv.funs(I:Inv X pins σ H s):s.heap.FunFrames X.base X.outer:=by
 have all:∀ (l:List Env),(∀ b∈frs l,b∈X.fs)->X.s₀.heap.FunFrames X.base l->s.heap.FunFrames X.base l:=by
  intro l
  induction l with
  | nil=>intro _ _;trivial
  | cons env r ih =>
    intro hs hl;obtain⟨hk,⟨L,o,hf,hn,ho,hd⟩,hr⟩:=hl;have hL:L∈X.fs:=hs L (by unfold frs;rw[z07,hf];exact zzt)
    obtain⟨sl,e⟩:=I.base.slot L o ho (I.ok.frf L hL) hL fun z=>I.ok.exfs L z hL
    exact⟨hk,⟨L,_,hf,hn,e,hd⟩,ih (fun b hb=>hs b (by unfold frs;rw[z07,hf];exact zzi _ hb)) hr⟩
 exact all X.outer (fun _ hb=>hb) I.ok.funs
theorem Inv.stack(I:Inv X pins σ H s):s.heap.FunFrames X.base X.stack:=by
 rcases I.ok.stk with e|⟨e,hf⟩
 ·rw[e];exact I.funs
 ·rw[e]
  obtain⟨m,hn,_⟩:=I.loc;refine .cons (by rw[I.ok.kind];decide) hf hn ?_ I.funs
  exact Heap.get?_none_of_le (zzg I.ok.bsz I.ok.above)
theorem Inv.stkSub(I:Inv X pins σ H s):∀ b∈frs X.stack,b∈X.env.locals :: X.fs:=fun b hb=>by
 rcases I.ok.stk with e|⟨e,hf⟩
 ·rw[e] at hb;exact zzi _ hb
 ·rw[e] at hb
  unfold frs at hb
  rw[z07,hf] at hb
  exact hb
theorem Inv.stkFree(I:Inv X pins σ H s):∀ b∈frs X.stack,H b=none:=fun b hb=>by
 rcases zy8.mp (I.stkSub b hb) with e|hb
 ·rw[e];exact I.free
 ·obtain⟨_,o,ho,_⟩:=I.ok.funs.mem hb
  exact I.base.free b o ho (I.ok.frf b hb) fun z=>I.ok.exfs b z hb
theorem Inv.step{g':Array GenState}{t':Nat}{d':Drawn}{ch:List Addr}(I:Inv X pins σ H s)
  (hch:∀ b∈ch,(b∈X.ex\/X.s₀.heap.objs.size<=b)/\b≠X.env.locals/\(∀ x c,X.env.cells.lookup x=some c->c≠b)/\∀ p∈X.pn++pins,p.1≠b)
  (keep:∀ b o,b≠X.env.locals->b∉X.fs->b∉ch->s.heap.get? b=some o->H b=none->h'.get? b=some o)
  (slot:∀ b o,b≠X.env.locals->b∈X.fs->b∉ch->s.heap.get? b=some o->H b=none->∃ sl,h'.get? b=some { o with slots:=sl }) (free:∀ b o,b∉ch->s.heap.get? b=some o->H b=none->H' b=none)
  (there:∀ b o,b∉ch->s.heap.get? b=some o->∃ o',h'.get? b=some o')
  (tups:∀ b xs,H b=some (.tup xs)->H' b=some (.tup xs)) (frzs:∀ b o u,H b=some (.frz o u)->H' b=some (.frz o u)) (tbls:∀ b ps,H b=some (.tbl ps)->∃ more,H' b=some (.tbl (ps++more)))
  (ns:∀ m,s.heap.Ns X.env.locals m->h'.Ns X.env.locals m) (hok:HOk X.prog X.w H' h') (hg:AllBare g') :
  Inv X pins σ H' { s with heap:=h',gens:=g',drawn:=d',toks:=t' }:=by
 have neL:∀ b o,X.s₀.heap.get? b=some o->b≠X.env.locals:=fun b o e=>zzr (zzk (Heap.lt_size e) I.ok.above)
 have neC:∀ b o,X.s₀.heap.get? b=some o->b∉X.ex->b∉ch:=fun b o e hx hb=>by
  rcases(hch b hb).1 with z|z
  ·exact hx z
  ·exact absurd (zzk (Heap.lt_size e) z) (z0a _)
 have cellK:∀ x c,X.env.cells.lookup x=some c->∀ v,s.heap.IsCell c v->h'.IsCell c v:=fun x c e v ⟨o,ho,hd⟩=>by
  have nch:c∉ch:=fun z=>(hch c z).2.2.1 x c e rfl
  by_cases hc:c∈X.fs
  ·obtain⟨sl,q⟩:=slot c o (I.cne x c e) hc nch ho (I.freeC x c e)
   exact⟨_,q,hd⟩
  ·exact⟨o,keep c o (I.cne x c e) hc nch ho (I.freeC x c e),hd⟩
 refine⟨I.ok,I.os,hg,⟨fun b o e n hb hx=>?_,fun b o e n hb hx=>?_,fun b o e n hx=>?_,fun b o e hx=>?_,fun b xs e=>tups b xs (I.base.tups b xs e),fun b o xs e=>frzs b o xs (I.base.frzs b o xs e),fun b ps e=>?_⟩,?_,fun x c e=>?_,?_,fun x c e=>?_,fun p hp=>?_,hok,I.len⟩
 ·exact keep b o (neL b o e) hb (neC b o e hx) (I.base.keep b o e n hb hx) (I.base.free b o e n hx)
 ·obtain⟨sl,e1⟩:=I.base.slot b o e n hb hx
  obtain⟨sl',e2⟩:=slot b _ (neL b o e) hb (neC b o e hx) e1 (I.base.free b o e n hx);exact⟨sl',e2⟩
 ·obtain⟨o',e1⟩:=I.base.there b o e hx
  exact free b o' (neC b o e hx) e1 (I.base.free b o e n hx)
 ·obtain⟨o',e1⟩:=I.base.there b o e hx
  exact there b o' (neC b o e hx) e1
 ·obtain⟨m1,e1⟩:=I.base.tbls b ps e
  obtain⟨m2,e2⟩:=tbls b _ e1;exact⟨m1++m2,by rw[e2,Array.append_assoc]⟩
 ·obtain⟨m,hn,hl⟩:=I.loc
  refine⟨m,ns m hn,fun i x v e1 e2 e3=>?_⟩
  obtain⟨u,r,l⟩:=hl i x v e1 e2 e3;refine⟨u,r,?_⟩;rcases l with l|⟨k,c,e,z⟩
  ·exact .inl l
  ·exact .inr ⟨k,c,e,cellK x c e _ z⟩
 ·obtain⟨v,z⟩:=I.cell x c e
  exact⟨v,cellK x c e v z⟩
 ·obtain⟨m,⟨o,_,_,ho,_⟩,_⟩:=I.loc
  exact free _ o (fun z=>(hch _ z).2.1 rfl) ho I.free
 ·obtain⟨v,o,ho,hd⟩:=I.cell x c e
  exact free c o (fun z=>(hch c z).2.2.1 x c e rfl) ho (I.freeC x c e)
 ·obtain⟨e,n,ne,nf,d⟩:=I.pin p hp
  have nch:p.1∉ch:=fun z=>(hch p.1 z).2.2.2 p hp rfl
  exact⟨keep p.1 p.2 ne nf nch e n,free p.1 p.2 nch e n,ne,nf,d⟩
theorem Inv.un{t':Nat}(I:Inv X pins σ H s)(u:Un X.fs [] H H' s.heap h')(hok:HOk X.prog X.w H' h'):Inv X pins σ H' { s with heap:=h',toks:=t' }:=by
 obtain⟨m,⟨o,es,ep,ho,r⟩,_⟩:=id I.loc;obtain⟨sl,hL⟩:=u.any ho I.free (by simp)
 exact I.step (g':=s.gens) (d':=s.drawn) (ch:=[]) (fun _ z=>nomatch z) (fun b o _ hb _ e n=>u.keep b o e n hb (by simp)) (fun b o _ hb _ e n=>u.slot b o e n hb (by simp)) (fun b o _ e n=>u.free b o e n (by simp)) (fun b o _ e=>u.there b o e (by simp)) u.tups u.frzs u.tbls (fun m' hm=>by
  obtain⟨o',es',ep',ho',r'⟩:=hm;rw[ho] at ho';cases ho'
  exact⟨_,es',ep',hL,r'⟩) hok I.bare
theorem Inv.call{g':Array GenState}{t':Nat}{d':Drawn}{ch:List Addr}(I:Inv X pins σ H s)(u:Un (frs X.stack) ch H H' s.heap h')(hok:HOk X.prog X.w H' h')(hg:AllBare g')
  (hch:∀ b∈ch,(b∈X.ex\/X.s₀.heap.objs.size<=b)/\b≠X.env.locals/\(∀ x c,X.env.cells.lookup x=some c->c≠b)/\∀ p∈X.pn++pins,p.1≠b) :
  Inv X pins σ H' { s with heap:=h',gens:=g',drawn:=d',toks:=t' }:=by
 obtain⟨m,⟨o,es,ep,ho,r⟩,_⟩:=id I.loc;obtain⟨sl,hL⟩:=u.any ho I.free fun z=>(hch _ z).2.1 rfl
 exact I.step (ch:=ch) hch (fun b o hL hb hc e n=>u.keep b o e n (fun z=>(zy8.mp (I.stkSub b z)).elim hL hb) hc) (fun b o _ _ hc e n=>u.any e n hc) (fun b o hc e n=>u.free b o e n hc) (fun b o hc e=>u.there b o e hc) u.tups u.frzs u.tbls (fun m' hm=>by
  obtain⟨o',es',ep',ho',r'⟩:=hm;rw[ho] at ho';cases ho'
  exact⟨_,es',ep',hL,r'⟩) hok hg
theorem Inv.turned{t':Nat}{it:Addr}(I:Inv X pins σ H s)(k:∀ b o,b≠it->s.heap.get? b=some o->h'.get? b=some o)(hn:H it=none)(hL:it≠X.env.locals)
  (h1:it∈X.ex\/X.s₀.heap.objs.size<=it) (h2:∀ x c,X.env.cells.lookup x=some c->c≠it) (h3:∀ p∈X.pn++pins,p.1≠it):Inv X pins σ H { s with heap:=h',toks:=t' }:=by
 have nit:∀ b u,H b=some u->b≠it:=fun b u e z=>by rw[z,hn] at e;cases e
 refine I.step (g':=s.gens) (d':=s.drawn) (ch:=[it]) (fun b hb=>?_) (fun b o _ _ hc e _=>k b o (fun z=>hc (by simp[z])) e) (fun b o _ _ hc e _=>⟨o.slots,k b o (fun z=>hc (by simp[z])) e⟩) (fun _ _ _ _ n=>n)
  (fun b o hc e=>⟨o,k b o (fun z=>hc (by simp[z])) e⟩) (fun _ _ e=>e) (fun _ _ _ e=>e) (fun b ps e=>⟨#[],by rw[e];simp⟩) (fun m hm=>?_) (fun b u e=>?_) I.bare
 ·have e:b=it:=by simpa using hb
  subst e;exact⟨h1,hL,h2,h3⟩
 ·obtain⟨o,es,ep,ho,r⟩:=hm
  exact⟨o,es,ep,k _ o (Ne.symm hL) ho,r⟩
 ·refine(I.hok b u e).stay (fun c v hc q=>k c v ?_ q) (fun _ q=>q) fun _ _ q=>q
  rcases hc with z|z
  ·rw[z];exact nit b u e
  ·exact nit c _ z
theorem Inv.tok(I:Inv X pins σ H s)(t:Nat):Inv X pins σ H { s with toks:=t }:=I.un (h':=s.heap) (t':=t) Un.refl I.hok
theorem Inv.kept{t':Nat}(I:Inv X pins σ H s)(k:∀ b u,s.heap.get? b=some u->h'.get? b=some u):Inv X pins σ H { s with heap:=h',toks:=t' }:=I.un (Un.kept k) (I.hok.kept k)
theorem Inv.laid{a:Addr}{o:HO}{t':Nat}(I:Inv X pins σ H s)(k:∀ b u,s.heap.get? b=some u->h'.get? b=some u)(hp:s.heap.objs.size<=a)(new:Y2 X.prog X.w (upd H a o) h' a o) :
  Inv X pins σ (upd H a o) { s with heap:=h',toks:=t' }:=I.un (Un.laid k hp (I.hok.fresh hp)) (I.hok.laid k hp new)
theorem Inv.write{x e:Addr}{o:HO}{t':Nat}(I:Inv X pins σ H s)(mu:Mut (H x))(he:e=x\/H e=some (.own x))(k:∀ b u,b≠e->s.heap.get? b=some u->h'.get? b=some u)(heo:∃ u,h'.get? e=some u)
  (new:Y2 X.prog X.w (upd H x o) h' x o):Inv X pins σ (upd H x o) { s with heap:=h',toks:=t' }:=I.un (Un.write mu he k heo) (I.hok.write mu he k heo new)
theorem Inv.weak{σ':List (Option V)}(I:Inv X pins σ H s)(hl:σ'.length=σ.length)(w:∀ (i:Nat) v,σ'[i]?=some (some v)->σ[i]?=some (some v)):Inv X pins σ' H s :=
 ⟨I.ok,I.os,I.bare,I.base,let ⟨m,hn,hl'⟩:=I.loc;⟨m,hn,fun i x v e1 e2 e3=>hl' i x v e1 (e2.imp_left (w i v)) e3⟩,I.cell,I.free,I.freeC,I.pin,I.hok,hl.trans I.len⟩
theorem Inv.pins_of{pins':List (Addr×Obj)}(I:Inv X pins σ H s)(h:∀ p∈pins',s.heap.get? p.1=some p.2/\H p.1=none/\p.1≠X.env.locals/\p.1∉X.fs/\∀ v,p.2.data≠.cell v):Inv X pins' σ H s :=
 ⟨I.ok,I.os,I.bare,I.base,I.loc,I.cell,I.free,I.freeC,fun p hp=>(zy6.mp hp).elim (fun z=>I.pin p (zzu _ z)) (h p),I.hok,I.len⟩
theorem Ej{N:List Str}(hN:N.Nodup){i j:Nat}{x:Str}(a:N[i]?=some x)(b:N[j]?=some x):i=j:=by
 obtain⟨h1,e1⟩:=zy0.mp a;obtain⟨h2,e2⟩:=zy0.mp b;exact(List.getElem_inj hN).mp (e1.trans e2.symm)
noncomputable def Cy(X:Cx)(i:Nat)(x:Str):Prop:=(X.fn x=true\/X.env.scope.names.lookup x=some .local)/\∀ v,X.lk[i]?≠some (some v)
theorem Wo{i:Nat}:∀ v:V,([]:List (Option V))[i]?≠some (some v):=fun _ h=>by simp at h
theorem Hq{M:Model}{A:Around}{E:Value->Shared->Prop}{i:Nat}{x:Str}{v:V}{u:Value}{Q:Unit->Shared->Prop}(I:Inv X pins σ H s)(hN:X.N.Nodup)(hi:X.N[i]?=some x)(hx:Loc X.env.scope x)(r:RelV v u)
  (h:∀ s',Inv X pins (σ.set i (some v)) H s'->(∃ a,Heap.SameBut a s.heap s'.heap/\(a=X.env.locals\/X.env.cells.lookup x=some a))->Q () s') (hf:Cy X i x:=by first|exact⟨.inl rfl,Wo⟩|exact⟨.inr rfl,Wo⟩|assumption|exact⟨.inl rfl,by assumption⟩|exact⟨.inr rfl,by assumption⟩):wpAny M A (storeName X.env x u) Q E s:=by
 obtain⟨m,hn,hl⟩:=id I.loc;have hcls:(X.env.scope.kind == .class||(X.env.scope.kind == .module&&X.env.locals != X.env.globals))=false:=by rw[I.ok.kind];rfl
 have hiσ:i<σ.length:=by rw[I.len];exact(zy0.mp hi).1
 have cne:=I.cne;have tracked:∀ {a:Addr} {h':Heap},(∃ o,s.heap.get? a=some o/\H a=none)->Heap.SameBut a s.heap h'->HOk X.prog X.w H h':=fun {a h'} ha hs b ob e=>by
  obtain⟨_,_,hfree⟩:=ha;refine(I.hok b ob e).stay (fun c w' hc q=>(hs.2 c ?_).trans q) (fun _ q=>q) fun _ _ q=>q
  rintro rfl;rcases hc with rfl|hc
  ·rw[hfree] at e;cases e
  ·rw[hfree] at hc;cases hc
 rcases hx with hk|hk
 ·refine wpAny_storeName_local hk hn (fun h' hn' hs=>?_) hcls
  obtain⟨oL,_,_,hoL,_⟩:=id hn;refine h _ ⟨I.ok,I.os,I.bare,⟨fun b o e n hb hx=>?_,fun b o e n hb hx=>?_,I.base.free,fun b o e hx=>?_,I.base.tups,I.base.frzs,I.base.tbls⟩,⟨_,hn',fun j y v' e1 e2 e3=>?_⟩,fun y c e=>?_,I.free,I.freeC,fun p hp=>?_,tracked ⟨oL,hoL,I.free⟩ hs,by simpa using I.len⟩ ⟨_,hs,.inl rfl⟩
  ·exact(hs.2 b (zzr (zzk (Heap.lt_size e) I.ok.above))).trans (I.base.keep b o e n hb hx)
  ·obtain⟨sl,e1⟩:=I.base.slot b o e n hb hx
   exact⟨sl,(hs.2 b (zzr (zzk (Heap.lt_size e) I.ok.above))).trans e1⟩
  ·obtain⟨o',e1⟩:=I.base.there b o e hx
   exact⟨o',(hs.2 b (zzr (zzk (Heap.lt_size e) I.ok.above))).trans e1⟩
  ·by_cases hj:j=i
   ·subst hj
    rw[hi] at e1;cases e1
    rcases e2 with e2|e2
    case' inr=>exact absurd e2 (hf.2 _)
    rw[zz8 hiσ] at e2
    cases e2;exact⟨u,r,.inl ⟨hk,by simp⟩⟩
   ·have e2:σ[j]?=some (some v')\/X.lk[j]?=some (some v'):=e2.imp_left fun z=>by rw[zz7 (Ne.symm hj)] at z;exact z
    obtain⟨u',r',q⟩:=hl j y v' e1 e2 e3;refine⟨u',r',?_⟩;rcases q with ⟨k,e⟩|⟨k,c,e,z⟩
    ·refine .inl ⟨k,?_⟩
     have:y≠x:=fun e=>hj (Ej hN e1 (e▸hi))
     simp[this,e]
    ·exact .inr ⟨k,c,e,z.sameBut hs (cne y c e)⟩
  ·obtain⟨w',z⟩:=I.cell y c e
   exact⟨w',z.sameBut hs (cne y c e)⟩
  ·obtain⟨e,n,ne,nf,d⟩:=I.pin p hp
   exact⟨(hs.2 p.1 ne).trans e,n,ne,nf,d⟩
 ·have hfn:X.fn x=true:=by
   rcases hf.1 with z|z
   ·exact z
   ·rw[z] at hk;cases hk
  obtain⟨c,hc⟩:=I.ok.has x (.inl hk);obtain⟨w',z⟩:=I.cell x c hc;refine wpAny_storeName_cell I.ok.kind hk hc z (fun h' hc' hs=>?_)
  obtain⟨oc,hoc,hocd⟩:=id z;refine h { s with heap:=h' } ⟨I.ok,I.os,I.bare,⟨fun b o e n hb hx=>?_,fun b o e n hb hx=>?_,I.base.free,fun b o e hx=>?_,I.base.tups,I.base.frzs,I.base.tbls⟩,⟨m,hn.sameBut hs (Ne.symm (cne x c hc)),fun j y v' e1 e2 e3=>?_⟩,fun y c' e=>?_,I.free,I.freeC,fun p hp=>?_,tracked ⟨oc,hoc,I.freeC x c hc⟩ hs,by simpa using I.len⟩ ⟨c,hs,.inr hc⟩
  ·exact(hs.2 b (zzr (zzk (Heap.lt_size e) (I.ok.cab x c hfn hc)))).trans (I.base.keep b o e n hb hx)
  ·obtain⟨sl,e1⟩:=I.base.slot b o e n hb hx
   exact⟨sl,(hs.2 b (zzr (zzk (Heap.lt_size e) (I.ok.cab x c hfn hc)))).trans e1⟩
  ·obtain⟨o',e1⟩:=I.base.there b o e hx
   exact⟨o',(hs.2 b (zzr (zzk (Heap.lt_size e) (I.ok.cab x c hfn hc)))).trans e1⟩
  ·by_cases hj:j=i
   ·subst hj
    rw[hi] at e1;cases e1
    rcases e2 with e2|e2
    case' inr=>exact absurd e2 (hf.2 _)
    rw[zz8 hiσ] at e2
    cases e2;exact⟨u,r,.inr ⟨.inl hk,c,hc,hc'⟩⟩
   ·have e2:σ[j]?=some (some v')\/X.lk[j]?=some (some v'):=e2.imp_left fun z=>by rw[zz7 (Ne.symm hj)] at z;exact z
    obtain⟨u',r',q⟩:=hl j y v' e1 e2 e3;refine⟨u',r',?_⟩;rcases q with q|⟨k,c',e,z'⟩
    ·exact .inl q
    ·refine .inr ⟨k,c',e,z'.sameBut hs ?_⟩
     rintro rfl;exact hj (Ej hN e1 (I.ok.inj _ _ _ e hc▸hi))
  ·by_cases hcc:c'=c
   ·subst hcc;exact⟨_,hc'⟩
   ·obtain⟨w2,z2⟩:=I.cell y c' e
    exact⟨w2,z2.sameBut hs hcc⟩
  ·obtain⟨e,n,ne,nf,d⟩:=I.pin p hp
   refine⟨(hs.2 p.1 ?_).trans e,n,ne,nf,d⟩;intro q;rw[q,hoc] at e
   have q':oc=p.2:=Option.some.inj e;exact d w' (by rw[<- q'];exact hocd)
theorem Ek{M:Model}{A:Around}{E:Value->Shared->Prop}{i:Nat}{x:Str}{v:V}{u:Value}{Q:Unit->Shared->Prop}(I:Inv X pins σ H s)(hN:X.N.Nodup)(hi:X.N[i]?=some x)(hx:Loc X.env.scope x)(r:RelV v u)
  (h:∀ s',Inv X pins (σ.set i (some v)) H s'->Q () s') (hf:Cy X i x:=by first|exact⟨.inl rfl,Wo⟩|exact⟨.inr rfl,Wo⟩|assumption|exact⟨.inl rfl,by assumption⟩|exact⟨.inr rfl,by assumption⟩):wpAny M A (storeName X.env x u) Q E s :=
 Hq I hN hi hx r (fun s' I' _=>h s' I') hf
theorem Inv.call'{s':Shared}{ch:List Addr}(I:Inv X pins σ H s)(ho:s'.os=s.os)(u:Un (frs X.stack) ch H H' s.heap s'.heap)(hok:HOk X.prog X.w H' s'.heap)(hg:AllBare s'.gens)
  (hch:∀ b∈ch,(b∈X.ex\/X.s₀.heap.objs.size<=b)/\b≠X.env.locals/\(∀ x c,X.env.cells.lookup x=some c->c≠b)/\∀ p∈X.pn++pins,p.1≠b):Inv X pins σ H' s':=by
 obtain⟨h',g',d',t',o'⟩:=s';have e:o'=s.os:=ho;subst e;exact I.call (g':=g') (t':=t') (d':=d') u hok hg hch
end
noncomputable abbrev XK:=Value->Option Addr->Hp->Prop
noncomputable abbrev St:=List (Option V)
noncomputable abbrev VK:=V->Hp->Prop
noncomputable abbrev TE:=St->Hp->VK->Prop
noncomputable abbrev TT:=St->Hp->(Bool->Hp->Prop)->Prop
noncomputable abbrev TA:=St->Hp->(List V->Hp->Prop)->Prop
structure T9 where
 nx:St->Hp->Prop
 rt:VK
 bk:St->Hp->Prop:=fun _ _=>False
 ct:St->Hp->Prop:=fun _ _=>False
noncomputable abbrev TS:=T9->St->Hp->Prop
noncomputable def EP(X:Cx)(pins:List (Addr×Obj))(σ:St)(Q:VK)(u:Value)(s':Shared):Prop:=∃ v H',Inv X pins σ H' s'/\RelV v u/\Q v H'
noncomputable def TP(X:Cx)(pins:List (Addr×Obj))(σ:St)(Q:Bool->Hp->Prop)(b:Bool)(s':Shared):Prop:=∃ H',Inv X pins σ H' s'/\Q b H'
noncomputable def AP(X:Cx)(pins:List (Addr×Obj))(σ:St)(Q:List V->Hp->Prop)(us:List Value)(s':Shared):Prop:=∃ vs H',Inv X pins σ H' s'/\Vals vs us/\Q vs H'
noncomputable def SP(X:Cx)(pins:List (Addr×Obj))(D:T9)(f:Flow)(s':Shared):Prop :=
 match f with
 | .next=>∃ σ' H',Inv X pins σ' H' s'/\D.nx σ' H'
 | .brk=>∃ σ' H',Inv X pins σ' H' s'/\D.bk σ' H'
 | .cont=>∃ σ' H',Inv X pins σ' H' s'/\D.ct σ' H'
 | .ret u=>∃ v σ' H',Inv X pins σ' H' s'/\RelV v u/\D.rt v H'
noncomputable def PE(X:Cx)(e:Expr)(t:TE):Prop :=
 ∀ (pins:List (Addr×Obj)) (s:Shared) (σ:St) (H:Hp) (Q:VK),Inv X pins σ H s->t σ H Q->wpAny (model X.prog X.w) X.A (eval e X.env) (EP X pins σ Q) X.xe s
noncomputable def PT(X:Cx)(e:Expr)(t:TT):Prop :=
 ∀ (pins:List (Addr×Obj)) (s:Shared) (σ:St) (H:Hp) (Q:Bool->Hp->Prop),Inv X pins σ H s->t σ H Q->wpAny (model X.prog X.w) X.A (isTrue e X.env (eval e X.env)) (TP X pins σ Q) X.xe s
noncomputable def PW(X:Cx)(e:Expr)(t:TT):Prop :=
 ∀ (whole:Sem Value) (pins:List (Addr×Obj)) (s:Shared) (σ:St) (H:Hp) (Q:Bool->Hp->Prop),Inv X pins σ H s->t σ H Q->wpAny (model X.prog X.w) X.A (isTrue e X.env whole) (TP X pins σ Q) X.xe s
theorem PW.pt{X:Cx}{e:Expr}{t:TT}(h:PW X e t):PT X e t:=h _
noncomputable def PA(X:Cx)(es:List Expr)(t:TA):Prop :=
 ∀ (pos:Pos) (pins:List (Addr×Obj)) (s:Shared) (σ:St) (H:Hp) (Q:List V->Hp->Prop),Inv X pins σ H s->t σ H Q->wpAny (model X.prog X.w) X.A (spliced (backTo pos (starEach es X.env))) (AP X pins σ Q) X.xe s
noncomputable def PS(X:Cx)(st:Stmt)(t:TS):Prop :=
 ∀ (pins:List (Addr×Obj)) (s:Shared) (σ:St) (H:Hp) (D:T9),Inv X pins σ H s->t D σ H->wpAny (model X.prog X.w) X.A (exec st X.env) (SP X pins D) X.xe s
noncomputable def PSs(X:Cx)(st:List Stmt)(t:TS):Prop :=
 ∀ (pins:List (Addr×Obj)) (s:Shared) (σ:St) (H:Hp) (D:T9),Inv X pins σ H s->t D σ H->wpAny (model X.prog X.w) X.A (execs st X.env) (SP X pins D) X.xe s
theorem thn{α:Type}{t:Sem α}{Q Q':α->Shared->Prop}{M:Model}{A:Around}{E:Value->Shared->Prop}{s:Shared}(h:wpAny M A t Q E s)(hQ:∀ a s,Q a s->Q' a s):wpAny M A t Q' E s:=wpAny_mono h hQ fun _ _ x=>x
section
variable{X:Cx}
inductive zez(i:Nat)(σ:L2.St)(H:Hp)(Q:VK):Prop where
 | mk(v)(_:σ[i]?=some (some v))(_:Q v H)
noncomputable def tC(v:V):TE:=fun _ H Q=>Q v H
theorem zgy{i:Nat}{x:Str}{pos:Pos}(hN:X.N[i]?=some x)(hv:Vis X.env.scope x)(hd:(x == ("__debug__":Str))=false:=by decide)(hcd:(x == ("__classdict__":Str))=false:=by decide):PE X (.Name x pos) (zez i):=by
 intro pins s σ H Q I h;obtain⟨v,e,h⟩:=h;obtain⟨m,hn,hl⟩:=I.loc;obtain⟨u,r,l⟩:=hl i x v hN (.inl e) hv;have fin:EP X pins σ Q u s:=⟨v,H,I,r,h⟩;rcases l with ⟨hk,hm⟩|⟨hk,c,hc,hcell⟩
 ·exact wpAny_Name (wpAny_loadName_local I.ok.kind hk hn hm fin) hd
 ·rcases hk with hk|hk
  ·exact wpAny_Name (wpAny_loadName_cell I.ok.kind hk hc hcell fin) hd
  ·exact wpAny_Name (wpAny_loadName_free I.ok.kind hk hc hcell fin hcd) hd
theorem Zi{i j pos}:PE X (.Constant (.int i) j pos) (tC (.int i)):=fun _ _ _ H _ I h=>wpAny_Constant_int ⟨.int i,H,I.tok _,⟨_,rfl⟩,h⟩
theorem Rh{b j pos}:PE X (.Constant (.bool b) j pos) (tC (.bl b)):=fun _ _ _ H _ I h=>Constant_bool ⟨.bl b,H,I,rfl,h⟩
theorem Y0{j pos}:PE X (.Constant .none j pos) (tC .non):=fun _ _ _ H _ I h=>Constant_none ⟨.non,H,I,rfl,h⟩
theorem Zn{x j pos}:PE X (.Constant (.str x) j pos) (tC (.str x)):=fun _ _ _ H _ I h=>Calls.Constant_str ⟨.str x,H,I.tok _,⟨_,rfl⟩,h⟩
noncomputable def Gl(X:Cx)(x:Str):Prop:=X.env.kindOf x=some .globalImplicit
theorem Oq{E:Value->Shared->Prop}{pins:List (Addr×Obj)}{s:Shared}{σ:St}{H:Hp}{x:Str}{u:Value}{pos:Pos}{Q:Value->Shared->Prop}(I:Inv X pins σ H s)(hg:Gl X x)(hm:X.mg x=some u)(h:Q u s)
  (hd:(x == ("__debug__":Str))=false:=by decide):wpAny (model X.prog X.w) X.A (eval (.Name x pos) X.env) Q E s :=
 Calls.Name_function_global I.ok.kind hg (Calls.loadGlobal_global (by rw[I.ok.glob];exact I.mod.glob.keeps I.bk) hm h) hd
theorem Pp{E:Value->Shared->Prop}{pins:List (Addr×Obj)}{s:Shared}{σ:St}{H:Hp}{x:Str}{u:Value}{pos:Pos}{Q:Value->Shared->Prop}(I:Inv X pins σ H s)(hg:Gl X x)(hm:X.mg x=none)(hv:bootBuiltins x=some u)(h:Q u s)
  (hn:x≠"__name__":=by decide) (hd:(x == ("__debug__":Str))=false:=by decide):wpAny (model X.prog X.w) X.A (eval (.Name x pos) X.env) Q E s:=by
 obtain⟨mb,h1,h2⟩:=I.mod.blt;exact Calls.Name_function_global I.ok.kind hg (Calls.loadGlobal_builtin (by rw[I.ok.glob];exact I.mod.glob.keeps I.bk) hm (by rw[I.ok.blt];exact h1.keeps I.bk) ((h2 x hn).trans hv) h) hd
theorem ze0{x:Str}{v:V}{u:Value}{pos:Pos}(hg:Gl X x)(hm:X.mg x=some u)(r:RelV v u)(hd:(x == ("__debug__":Str))=false:=by decide):PE X (.Name x pos) (tC v) :=
 fun _ _ _ H _ I h=>Oq I hg hm ⟨v,H,I,r,h⟩ hd
theorem G4{x:Str}{v:V}{u:Value}{pos:Pos}(hg:Gl X x)(hm:X.mg x=none)(hv:bootBuiltins x=some u)(r:RelV v u)(hn:x≠"__name__":=by decide)(hd:(x == ("__debug__":Str))=false:=by decide):PE X (.Name x pos) (tC v) :=
 fun _ _ _ H _ I h=>Pp I hg hm hv ⟨v,H,I,r,h⟩ hn hd
variable{a b:Expr}{ta tb:TE}{pos:Pos}
noncomputable def PC(X:Cx)(op:CmpOp)(a b:Expr)(t:TE):Prop :=
 ∀ (pins:List (Addr×Obj)) (s:Shared) (σ:St) (H:Hp) (Q:VK),Inv X pins σ H s->t σ H Q ->
   wpAny (model X.prog X.w) X.A (eval a X.env) (fun v s₁=>wpAny (model X.prog X.w) X.A (eval b X.env) (fun u s₂=>wpAny (model X.prog X.w) X.A (compareOp op v u) (EP X pins σ Q) X.xe s₂) X.xe s₁) X.xe s
inductive tBI(Q:Bool->Hp->Prop)(x:V)(H1:Hp):Prop where
 | mk(c)(_:x=.bl c)(_:Q c H1)
noncomputable def tB(t:TE):TT:=fun σ H Q=>t σ H fun x H1=>tBI Q x H1
theorem Sa{op:CmpOp}{t:TE}(h:PC X op a b t)(h1:behindInMarks op b=false:=by first|exact nobehind _ (by decide) (by decide)|rfl):PT X (.Compare a [op] [b] pos) (tB t):=by
 intro pins s σ H Q I hw;refine wpAny_isTrue_Compare1 (thn (h pins s σ H _ I hw) fun v s1 h1=>thn h1 fun u s2 h2=>thn h2 fun c s3 ⟨x,H1,I1,r1,q1⟩=>?_) h1
 obtain⟨d,rfl,q⟩:=q1;cases r1;exact wpAny_truthy_bool ⟨H1,I1,q⟩
theorem Nn{e:Expr}{t:TE}(h:PE X e t)(he:∀ whole,isTrue e X.env whole=(do let v <- whole;standAt e.pos;holding [v] (truthy v)):=by intro _;rfl):PT X e (tB t):=by
 intro pins s σ H Q I hw;refine isTrue_plain (thn (h pins s σ H _ I hw) fun v s1 ⟨x,H1,I1,r1,q1⟩=>?_) (he _)
 obtain⟨d,rfl,q⟩:=q1;cases r1;exact wpAny_truthy_bool ⟨H1,I1,q⟩
variable{tA tB':TT}{rest:List Expr}
noncomputable def zgz(t u:TT):TT:=fun σ H Q=>t σ H fun c H1=>if c=true then u σ H1 Q else Q false H1
noncomputable def tOr(t u:TT):TT:=fun σ H Q=>t σ H fun c H1=>if c=true then Q true H1 else u σ H1 Q
noncomputable def zjy(t:TT):TT:=fun σ H Q=>t σ H fun c H1=>Q (!c) H1
theorem Qp(ha:PT X a tA):PW X (.BoolOp .And [a] pos) tA:=by
 intro wh pins s σ H Q I h;refine isTrue_and (thn (ha pins s σ H Q I h) fun c s1 e=>?_)
 cases c with
 | true=>exact isTrue_and_nil e
 | false=>exact e
theorem Sb(ha:PT X a tA):PW X (.BoolOp .Or [a] pos) tA:=by
 intro wh pins s σ H Q I h;refine isTrue_or (thn (ha pins s σ H Q I h) fun c s1 e=>?_)
 cases c with
 | false=>exact isTrue_or_nil e
 | true=>exact e
theorem Np(ha:PT X a tA)(hb:PW X (.BoolOp .And (b :: rest) pos) tB'):PW X (.BoolOp .And (a :: b :: rest) pos) (zgz tA tB'):=by
 intro wh pins s σ H Q I h;refine isTrue_and (thn (ha pins s σ H _ I h) fun c s1 ⟨H1,I1,q1⟩=>?_)
 cases c with
 | true=>exact hb wh pins s1 σ H1 Q I1 q1
 | false=>exact⟨H1,I1,q1⟩
theorem Ru(ha:PT X a tA)(hb:PW X (.BoolOp .Or (b :: rest) pos) tB'):PW X (.BoolOp .Or (a :: b :: rest) pos) (tOr tA tB'):=by
 intro wh pins s σ H Q I h;refine isTrue_or (thn (ha pins s σ H _ I h) fun c s1 ⟨H1,I1,q1⟩=>?_)
 cases c with
 | true=>exact⟨H1,I1,q1⟩
 | false=>exact hb wh pins s1 σ H1 Q I1 q1
theorem Kh(ha:PT X a tA):PT X (.UnaryOp .Not a pos) (zjy tA):=by
 intro pins s σ H Q I h;exact isTrue_not (ha pins s σ H (fun c H1=>Q (!c) H1) I h)
inductive zg0(tb:TE)(σ:L2.St)(Q:VK)(x:V)(H1:Hp):Prop where
 | mk(c)(_:x=.bl c)(_:if c=true then tb σ H1 Q else Q (.bl false) H1)
noncomputable def zin(ta tb:TE):TE:=fun σ H Q=>ta σ H fun x H1=>zg0 tb σ Q x H1
inductive zg1(Q:VK)(x:V)(H1:Hp):Prop where
 | mk(c)(_:x=.bl c)(_:Q (.bl (!c)) H1)
noncomputable def zio(ta:TE):TE:=fun σ H Q=>ta σ H fun x H1=>zg1 Q x H1
theorem zcj{op}{t:TE}(h:PE X a t):PE X (.BoolOp op [a] pos) t:=fun pins s σ H Q I hw=>BoolOp_one (h pins s σ H Q I hw)
theorem zck(ha:PE X a ta)(hb:PE X (.BoolOp .And (b :: rest) pos) tb):PE X (.BoolOp .And (a :: b :: rest) pos) (zin ta tb):=by
 intro pins s σ H Q I h;refine BoolOp_and (thn (ha pins s σ H _ I h) fun v s1 ⟨x,H1,I1,r1,q1⟩=>?_)
 obtain⟨c,rfl,q1⟩:=q1;cases r1;refine wpAny_truthy_bool ?_;cases c with
 | true=>exact hb pins s1 σ H1 Q I1 q1
 | false=>exact⟨.bl false,H1,I1,rfl,q1⟩
theorem zg2(ha:PE X a ta):PE X (.UnaryOp .Not a pos) (zio ta):=by
 intro pins s σ H Q I h;refine UnaryOp_ (thn (ha pins s σ H _ I h) fun v s1 ⟨x,H1,I1,r1,q1⟩=>?_)
 obtain⟨c,rfl,q1⟩:=q1;cases r1;exact not_of (wpAny_truthy_bool ⟨.bl (!c),H1,I1,rfl,q1⟩)
noncomputable def tIf(t:TT)(ta tb:TE):TE:=fun σ H Q=>t σ H fun c H1=>if c=true then ta σ H1 Q else tb σ H1 Q
theorem El{c:Expr}(hc:PT X c tA)(ha:PE X a ta)(hb:PE X b tb):PE X (.IfExp c a b pos) (tIf tA ta tb):=by
 intro pins s σ H Q I h;refine wpAny_IfExp (thn (hc pins s σ H _ I h) fun d s1 ⟨H1,I1,q1⟩=>?_)
 cases d with
 | true=>exact ha pins s1 σ H1 Q I1 q1
 | false=>exact hb pins s1 σ H1 Q I1 q1
end
noncomputable def SqL(K:PySem.W.Frag)(H:Hp)(a:Addr)(xs:List V):Prop :=
 Rd H a (.lst xs) \/
  ∃ (o:Obj) (its:Array Value) (n:Nat),K.lookup a=some o/\o.cls=.type "list"/\o.dict=none/\o.data=.seq its n/\its.size<=sizeLine/\Vals xs its.toList
noncomputable def SqT(K:PySem.W.Frag)(H:Hp)(a:Addr)(xs:List V):Prop :=
 Rd H a (.tup xs) \/
  ∃ (o:Obj) (its:Array Value) (n:Nat),K.lookup a=some o/\o.cls=.type "tuple"/\o.data=.seq its n/\its.size<=sizeLine/\Vals xs its.toList
noncomputable def zjz:Value->Option V
 | .none=>some .non
 | .bool b=>some (.bl b)
 | .int i _=>some (.int i)
 | .str x _=>some (.str x)
 | .bytes b _=>some (.byt b)
 | .float b _=>some (.flt b)
 | .ref a=>some (.ref a)
 | .type n=>some (.ty n)
 | _=>none
theorem RelV.abs{x:V}{u:Value}(r:RelV x u):zjz u=some x:=by
 cases x with
 | non=>cases r;rfl
 | bl _=>cases r;rfl
 | int _=>obtain⟨t,rfl⟩:=r;rfl
 | str _=>obtain⟨t,rfl⟩:=r;rfl
 | byt _=>obtain⟨t,rfl⟩:=r;rfl
 | flt _=>obtain⟨t,rfl⟩:=r;rfl
 | ref _=>cases r;rfl
 | ty _=>cases r;rfl
theorem RelV.inj{x y:V}{u:Value}(r:RelV x u)(q:RelV y u):x=y:=Option.some.inj (r.abs.symm.trans q.abs)
theorem Vals.inj:∀ {xs ys:List V} {us:List Value},Vals xs us->Vals ys us->xs=ys
 | _,_,_,.nil,.nil=>rfl
 | _,_,_,.cons r t,.cons r' t'=>by rw[r.inj r',Vals.inj t t']
section
variable{X:Cx}{pins:List (Addr×Obj)}{σ:St}{H:Hp}{s:Shared}{a:Addr}{xs ys:List V}
theorem SqL.of{K:PySem.W.Frag}(h:H a=some (.lst xs)):SqL K H a xs:=.inl (.inl h)
theorem SqT.of{K:PySem.W.Frag}(h:H a=some (.tup xs)):SqT K H a xs:=.inl (.inl h)
theorem Inv.list(I:Inv X pins σ H s)(h:SqL X.K H a xs):∃ its:List Value,Vals xs its/\PlainL s.heap a its.toArray/\xs.length<=sizeLine:=by
 rcases h with h|⟨o,its,n,hk,hc,hd,hs,hz,r⟩
 ·obtain⟨z,its,n,r,e⟩:=h.ok I.hok
  exact⟨its,r,⟨_,n,e,rfl,rfl,rfl⟩,z⟩
 ·refine⟨its.toList,r,⟨o,n,I.kIn a o hk,hc,hd,by simpa using hs⟩,?_⟩
  have e:=r.length;simp only[Array.length_toList] at e
  omega
theorem Inv.tuple(I:Inv X pins σ H s)(h:SqT X.K H a xs):∃ its:List Value,Vals xs its/\IsTup s.heap a its.toArray/\xs.length<=sizeLine:=by
 rcases h with h|⟨o,its,n,hk,hc,hs,hz,r⟩
 ·obtain⟨z,its,r,p⟩:=h.ok I.hok
  exact⟨its,r,p,z⟩
 ·refine⟨its.toList,r,⟨o,I.kIn a o hk,hc,n,by simpa using hs⟩,?_⟩
  have e:=r.length;simp only[Array.length_toList] at e
  omega
theorem Inv.list_inj(I:Inv X pins σ H s)(h:SqL X.K H a xs)(h':SqL X.K H a ys):xs=ys:=by
 obtain⟨its,r,⟨o,n,e,_,_,d⟩,_⟩:=I.list h;obtain⟨its',r',⟨o',n',e',_,_,d'⟩,_⟩:=I.list h';rw[e] at e';cases e'
 rw[d] at d'
 injection d' with d1 _
 have:its=its':=by simpa using congrArg Array.toList d1
 subst this;exact r.inj r'
theorem Inv.tuple_inj(I:Inv X pins σ H s)(h:SqT X.K H a xs)(h':SqT X.K H a ys):xs=ys:=by
 obtain⟨its,r,⟨o,e,_,n,d⟩,_⟩:=I.tuple h;obtain⟨its',r',⟨o',e',_,n',d'⟩,_⟩:=I.tuple h';rw[e] at e';cases e'
 rw[d] at d'
 injection d' with d1 _
 have:its=its':=by simpa using congrArg Array.toList d1
 subst this;exact r.inj r'
end
section
variable{X:Cx}{pins:List (Addr×Obj)}{σ:St}{H:Hp}{s:Shared}{E:Value->Shared->Prop}
end
section
variable{X:Cx}{st:Stmt}{rest:List Stmt}{t u:TS}{e:Expr}{te:TE}{pos:Pos}
noncomputable def zcl:TS:=fun D σ H=>D.nx σ H
noncomputable def Zz(t u:TS):TS:=fun D σ H=>t { D with nx:=u D } σ H
theorem Zu:PSs X [] zcl:=fun _ _ σ H _ I h=>wpAny_execs_nil ⟨σ,H,I,h⟩
theorem Zc(h1:PS X st t)(h2:PSs X rest u):PSs X (st :: rest) (Zz t u):=by
 intro pins s σ H D I h;refine wpAny_execs_cons (thn (h1 pins s σ H { D with nx:=u D } I h) fun f s1 q=>?_)
 cases f with
 | next =>
   obtain⟨σ',H',I',q⟩:=q;exact h2 pins s1 σ' H' D I' q
 | ret v=>exact q
 | brk=>exact q
 | cont=>exact q
theorem Zf(h1:PS X st t):PSs X [st] t:=by
 intro pins s σ H D I h;refine wpAny_execs_cons (thn (h1 pins s σ H D I h) fun f s1 q=>?_)
 cases f with
 | next=>exact wpAny_execs_nil q
 | ret v=>exact q
 | brk=>exact q
 | cont=>exact q
noncomputable def zg3:TS:=fun D σ H=>D.bk σ H
theorem zcm:PS X (.Break pos) zg3:=fun _ _ σ H _ I h=>wpAny_Break ⟨σ,H,I,h⟩
theorem Inv.quiet{pins:List (Addr×Obj)}{σ:St}{H:Hp}{s:Shared}(I:Inv X pins σ H s):interactive X.env=false:=by simp[interactive,I.ok.kind]
noncomputable def ziq(te:TE):TS:=fun D σ H=>te σ H fun _ H1=>D.nx σ H1
theorem Z6(he:PE X e te)(hs:swapsWith e none pos.line X.env=pure false:=by rfl):PS X (.Expr e pos) (ziq te):=by
 intro pins s σ H D I h;exact wpAny_Expr_any (thn (he pins s σ H _ I h) fun v s1 ⟨x,H1,I1,r1,q1⟩=>⟨σ,H1,I1,q1⟩) I.quiet hs
noncomputable def zir(te:TE):TS:=fun D σ H=>te σ H D.rt
theorem Zo(he:PE X e te):PS X (.Return (some e) pos) (zir te):=by
 intro pins s σ H D I h;exact wpAny_Return_some (thn (he pins s σ H _ I h) fun v s1 ⟨x,H1,I1,r1,q1⟩=>⟨x,σ,H1,I1,r1,q1⟩)
noncomputable def Cz(c:TT)(t u:TS):TS:=fun D σ H=>c σ H fun b H1=>if b=true then t D σ H1 else u D σ H1
theorem Z9{c:Expr}{a b:List Stmt}{tc:TT}(hc:PT X c tc)(ha:PSs X a t)(hb:PSs X b u):PS X (.If c a b pos) (Cz tc t u):=by
 intro pins s σ H D I h;refine wpAny_If (thn (hc pins s σ H _ I h) fun d s1 ⟨H1,I1,q1⟩=>?_)
 cases d with
 | true=>exact ha pins s1 σ H1 D I1 q1
 | false=>exact hb pins s1 σ H1 D I1 q1
end
noncomputable abbrev TG:=V->St->Hp->(St->Hp->Prop)->Prop
noncomputable abbrev TGs:=List V->St->Hp->(St->Hp->Prop)->Prop
noncomputable def PG(X:Cx)(target:Expr)(t:TG):Prop :=
 ∀ (pins:List (Addr×Obj)) (s:Shared) (σ:St) (H:Hp) (v:V) (u:Value) (Q:St->Hp->Prop),Inv X pins σ H s->RelV v u->t v σ H Q ->
   wpAny (model X.prog X.w) X.A (assign target X.env u) (fun _ s'=>∃ σ' H',Inv X pins σ' H' s'/\Q σ' H') X.xe s
noncomputable def PGs(X:Cx)(ts:List Expr)(t:TGs):Prop :=
 ∀ (pins:List (Addr×Obj)) (s:Shared) (σ:St) (H:Hp) (vs:List V) (us:List Value) (Q:St->Hp->Prop),Inv X pins σ H s->Vals vs us->t vs σ H Q ->
   wpAny (model X.prog X.w) X.A (assignInOrder ((assignEach ts X.env).map (·.2)) us) (fun _ s'=>∃ σ' H',Inv X pins σ' H' s'/\Q σ' H') X.xe s
noncomputable abbrev zg4:=V->V->V->Hp->(Hp->Prop)->Prop
noncomputable def zis(X:Cx)(t:zg4):Prop :=
 ∀ (pins:List (Addr×Obj)) (s:Shared) (σ:St) (H:Hp) (o i v:V) (ov iv u:Value) (Q:Hp->Prop),Inv X pins σ H s->RelV o ov->RelV i iv->RelV v u->t o i v H Q ->
   wpAny (model X.prog X.w) X.A (setItem ov iv u) (fun _ s'=>∃ H',Inv X pins σ H' s'/\Q H') X.xe s
section
variable{X:Cx}{pos:Pos}
noncomputable def Vh(i:Nat):TG:=fun v σ H Q=>Q (σ.set i (some v)) H
theorem U0{i:Nat}{x:Str}(hN:X.N.Nodup)(hi:X.N[i]?=some x)(hx:Loc X.env.scope x)(hf:Cy X i x:=by first|exact⟨.inl rfl,Wo⟩|exact⟨.inr rfl,Wo⟩|assumption|exact⟨.inl rfl,by assumption⟩|exact⟨.inr rfl,by assumption⟩):PG X (.Name x pos) (Vh i):=by
 intro pins s σ H v u Q I r h;exact wpAny_assign_Name (Ek I hN hi hx r (fun s' I'=>⟨_,H,I',h⟩) hf)
noncomputable def zj0:TGs:=fun vs σ H Q=>vs=[]/\Q σ H
noncomputable def zit(t:TG)(u:TGs):TGs:=fun vs σ H Q=>∃ v r,vs=v :: r/\t v σ H fun σ' H'=>u r σ' H' Q
theorem Wg:PGs X [] zj0:=by
 intro pins s σ H vs us Q I r h;obtain⟨e,h⟩:=h;subst e;cases r;exact assignInOrder_nil ⟨σ,H,I,h⟩
theorem Z0{e:Expr}{es:List Expr}{t:TG}{u:TGs}(h1:PG X e t)(h2:PGs X es u)
  (hs:(assignEach (e :: es) X.env).map (·.2)=assign e X.env :: (assignEach es X.env).map (·.2):=by rfl):PGs X (e :: es) (zit t u):=by
 intro pins s σ H vs us Q I r h;obtain⟨v,vr,e1,h⟩:=h;subst e1;cases r with
 | cons r rr =>
   rw[hs];refine assignInOrder_cons (thn (h1 pins s σ H _ _ _ I r h) fun _ s1 ⟨σ1,H1,I1,q1⟩=>?_)
   exact h2 pins s1 σ1 H1 _ _ Q I1 rr q1
noncomputable def ziu(K:PySem.W.Frag)(n:Nat)(t:TGs):TG:=fun v σ H Q=>∃ a xs,v=.ref a/\SqT K H a xs/\xs.length=n/\t xs σ H Q
theorem zg5{es:List Expr}{k:Nat}{t:TGs}{n:Nat}(hc:X.calm=true)(h:PGs X es t)
  (hn:(assignEach es X.env).length=n:=by rfl) (hst:(assignEach es X.env).findIdx? (·.1)=none:=by rfl):PG X (.Tuple es k pos) (ziu X.K n t):=by
 intro pins s σ H v u Q I r hw;obtain⟨a,xs,e1,hq,hl,hw⟩:=hw;subst e1;cases r;obtain⟨its,rv,ht,hz⟩:=I.tuple hq;refine assign_Tuple_tuple (I.ok.hd hc) ht (by simp[hn,<- hl,rv.length]) hst fun h' hx=>?_
 have I1:Inv X pins σ H { s with heap:=h' }:=I.kept (t':=s.toks) fun b o e=>hx b o (zzr (Heap.lt_size e)) e
 exact h pins _ σ H xs _ Q I1 (by simpa using rv) hw
noncomputable def zj1(to ti:TE)(t:zg4):TG:=fun v σ H Q=>to σ H fun o H1=>ti σ H1 fun i H2=>t o i v H2 fun H3=>Q σ H3
theorem zg6{o i:Expr}{to ti:TE}{t:zg4}(ho:PE X o to)(hi:PE X i ti)(hs:zis X t)
  (ha:∀ v,assign (.Subscript o i pos) X.env v=(do
   let ov <- holding [v] (eval o X.env)
   let iv <- holding [v,ov] (eval i X.env)
   standAt pos
   holding [v,ov,iv] (setItem ov iv v)
   release [v,ov,iv] []):=by intro _;rfl):PG X (.Subscript o i pos) (zj1 to ti t):=by
 intro pins s σ H v u Q I r h;rw[ha];refine wpAny_bind (wpAny_holding (thn (ho pins s σ H _ I h) fun ov s1 ⟨x,H1,I1,r1,q1⟩=>?_))
 refine wpAny_bind (wpAny_holding (thn (hi pins s1 σ H1 _ I1 q1) fun iv s2 ⟨y,H2,I2,r2,q2⟩=>?_))
 refine wpAny_bind (wpAny_standAt (wpAny_bind (wpAny_holding (thn (hs pins s2 σ H2 x y v ov iv u _ I2 r1 r2 r q2) fun _ s3 ⟨H3,I3,q3⟩=>?_))))
 exact wpAny_release ⟨σ,H3,I3,q3⟩
noncomputable def zat(te:TE)(g:TG):TS:=fun D σ H=>te σ H fun x H1=>g x σ H1 D.nx
theorem Ki{tg e:Expr}{te:TE}{g:TG}(he:PE X e te)(hg:PG X tg g)(hs:swapsWithSole [tg] e pos.line X.env=pure false:=by rfl)(hw:swappedStores [tg] e X.env=pure none:=by rfl)
  (h1:(assignEach [tg] X.env).map (·.2)=[assign tg X.env]:=by rfl):PS X (.Assign [tg] e pos) (zat te g):=by
 intro pins s σ H D I h;refine wpAny_Assign_stores (thn (he pins s σ H _ I h) fun v s1 ⟨x,H1,I1,r1,q1⟩=>?_) hs hw
 rw[h1];exact thn (hg pins s1 σ H1 x v _ I1 r1 q1) fun _ s2 q=>q
theorem zg7{i:Nat}{x:Str}{e:Expr}{te:TE}{pos':Pos}(hN:X.N.Nodup)(hi:X.N[i]?=some x)(hx:Loc X.env.scope x)(he:PE X e te)(hs:swapsWith e (some (.Name x pos')) pos.line X.env=pure false:=by rfl)(hf:Cy X i x:=by first|exact⟨.inl rfl,Wo⟩|exact⟨.inr rfl,Wo⟩|assumption|exact⟨.inl rfl,by assumption⟩|exact⟨.inr rfl,by assumption⟩) :
  PS X (.Assign [.Name x pos'] e pos) (zat te (Vh i)):=by
 intro pins s σ H D I h;refine wpAny_Assign_Name (thn (he pins s σ H _ I h) fun v s1 ⟨y,H1,I1,r1,q1⟩=>?_) hs
 exact Ek I1 hN hi hx r1 (fun s2 I2=>⟨_,H1,I2,q1⟩) hf
end
section
variable{X:Cx}{pos:Pos}
noncomputable def zcn(c:TT)(tb:TS):TS:=fun D σ H=>∃ W:Nat->St->Hp->Prop,(∃ m,W m σ H)/\∀ m σ H,W m σ H ->
 c σ H fun b H1=>if b=true then ∃ N:St->Hp->Prop,(∀ σ' H',N σ' H'->∃ m',m' < m/\W m' σ' H')/\tb { D with nx:=N,ct:=N,bk:=D.nx } σ H1 else D.nx σ H1
theorem Em{c:Expr}{body:List Stmt}{tc:TT}{tb:TS}(hp:PassesOwn (model X.prog X.w) X.A X.env X.xe)(hc:PT X c tc)(hb:PSs X body tb):PS X (.While c body [] pos) (zcn tc tb):=by
 intro pins s σ H D I h;obtain⟨W,⟨m0,w0⟩,turn⟩:=h;refine wpAny_While (codeAny_whileLoop (fun n s'=>∃ σ' H',Inv X pins σ' H' s'/\W n σ' H') ?_ m0 ⟨σ,H,I,w0⟩)
 rintro n s1 ⟨σ1,H1,I1,w1⟩;refine wpAny_passesOwn hp (thn (hc pins s1 σ1 H1 _ I1 (turn n σ1 H1 w1)) fun b s2 ⟨H2,I2,q2⟩=>?_)
 cases b with
 | true =>
   obtain⟨N,hN,q2⟩:=q2;rw[if_pos rfl];refine wpAny_passesOwn hp (thn (hb pins s2 σ1 H2 _ I2 q2) fun f s3 q3=>?_)
   cases f with
   | next =>
     obtain⟨σ3,H3,I3,n3⟩:=q3;obtain⟨m',hm,w3⟩:=hN σ3 H3 n3;exact⟨m',hm,σ3,H3,I3,w3⟩
   | cont =>
     obtain⟨σ3,H3,I3,n3⟩:=q3;obtain⟨m',hm,w3⟩:=hN σ3 H3 n3;exact⟨m',hm,σ3,H3,I3,w3⟩
   | brk=>exact q3
   | ret v=>exact q3
 | false =>
   rw[if_neg zzf];exact wpAny_execs_nil ⟨σ1,H2,I2,q2⟩
end
structure It where
 go:Nat->Hp->Prop
 yld:Nat->Hp->V->Hp->Prop
 stop:Nat->Hp->Prop
noncomputable def FpOk(X:Cx)(pins:List (Addr×Obj))(H:Hp)(b:Addr):Prop :=
 H b=none/\b≠X.env.locals/\b∉X.fs/\(b∈X.ex\/X.s₀.heap.objs.size<=b)/\(∀ x c,X.env.cells.lookup x=some c->c≠b)/\∀ p∈X.pn++pins,p.1≠b
theorem Inv.fpOk{X:Cx}{pins:List (Addr×Obj)}{σ:St}{H H':Hp}{s:Shared}{b:Addr}(I:Inv X pins σ H s)(hb:s.heap.objs.size<=b)(hn:H' b=none):FpOk X pins H' b:=by
 refine⟨hn,Nat.ne_of_gt (zzk I.lt hb),I.nofs hb,.inr (zzg I.sz hb),fun x c e z=>?_,fun p hp z=>?_⟩
 ·obtain⟨v,q⟩:=I.cell x c e
  exact absurd (zzk q.lt (by rw[z];exact hb)) (z0a _)
 ·exact absurd (zzk (Heap.lt_size (I.pin p hp).1) (by rw[z];exact hb)) (z0a _)
structure En(P:Program)(w:World)(K:PySem.W.Frag)(tg:Expr)(J:It)(fp:List Addr)(it:Addr)(tn:Nat->Heap->Prop):Prop where
 mem:it∈fp
 obj:∀ i h,tn i h->∀ b∈fp,∃ o,h.get? b=some o/\∀ v,o.data≠.cell v
 keep:∀ i h h',tn i h->(∀ b∈fp,∀ o,h.get? b=some o->h'.get? b=some o)->tn i h'
 item:∀ (X:Cx),X.prog=P->X.w=w->X.K=K->X.calm=true->∀ (i:Nat) (pins:List (Addr×Obj)) (s:Shared) (σ:St) (H:Hp) (E:Value->Shared->Prop),Inv X pins σ H s->(∀ b∈fp,FpOk X pins H b)->tn i s.heap->J.go i H ->
  wpAny (model P w) X.A (pyNext (.ref it)) (fun r s1=>∃ u,r=some u /\
   wpAny (model P w) X.A (letOwnedTupleGo tg (.ref it) u) (fun _ s2=>∃ x H',Inv X pins σ H' s2/\RelV x u/\J.yld i H x H'/\tn (i+1) s2.heap/\∀ b∈fp,H' b=none) E s1) E s
 done:∀ (X:Cx),X.prog=P->X.w=w->X.K=K->X.calm=true->∀ (i:Nat) (pins:List (Addr×Obj)) (s:Shared) (σ:St) (H:Hp) (E:Value->Shared->Prop),Inv X pins σ H s->(∀ b∈fp,FpOk X pins H b)->tn i s.heap->J.stop i H ->
  wpAny (model P w) X.A (pyNext (.ref it)) (fun r s1=>r=none/\Inv X pins σ H s1) E s
 self:∀ (A:Around) (i:Nat) (s:Shared) (Q:Value->Shared->Prop) (E:Value->Shared->Prop),tn i s.heap->Q (.ref it) s->wpAny (model P w) A (pyIter (.ref it)) Q E s
noncomputable abbrev TI:=St->Hp->(It->Hp->Prop)->Prop
noncomputable def PIE(X:Cx)(pins:List (Addr×Obj))(σ:St)(tg:Expr)(R:It->Hp->Prop)(itv:Value)(s2:Shared):Prop :=
 ∃ (it:Addr) (fp:List Addr) (tn:Nat->Heap->Prop) (J:It) (H':Hp),itv=.ref it/\Inv X pins σ H' s2/\En X.prog X.w X.K tg J fp it tn/\tn 0 s2.heap/\(∀ b∈fp,FpOk X pins H' b)/\R J H'
noncomputable def PI(X:Cx)(tg iter:Expr)(wi:TI):Prop :=
 ∀ (pins:List (Addr×Obj)) (s:Shared) (σ:St) (H:Hp) (R:It->Hp->Prop),Inv X pins σ H s->wi σ H R ->
   wpAny (model X.prog X.w) X.A (eval iter X.env) (fun v s1=>wpAny (model X.prog X.w) X.A (pyIter v) (PIE X pins σ tg R) X.xe s1) X.xe s
theorem zco{M:Model}{A:Around}{E:Value->Shared->Prop}{s:Shared}{tg:Expr}{it:Addr}{u:Value}{o:Obj}{n:String}{vs:Array Value}{Q:Unit->Shared->Prop}(ho:s.heap.get? it=some o)(hc:o.cls=.type n)(hd:o.data=.fields vs)
  (hn:["enumerate","zip","dict_itemiterator","dict_reverseitemiterator","odict_iterator","itertools.zip_longest","itertools.pairwise"].contains n=false) (hQ:Q () s):wpAny M A (letOwnedTupleGo tg (.ref it) u) Q E s:=by
 unfold letOwnedTupleGo;cases tg<;>first
  | exact wpAny_pure hQ
  | (cases u<;>first
    | exact wpAny_pure hQ
    | (refine wpAny_bind (wpAny_load ho ?_)
       rw[hc,hd];show wpAny M A (if (["enumerate","zip","dict_itemiterator","dict_reverseitemiterator","odict_iterator","itertools.zip_longest","itertools.pairwise"].contains n&&vs[0]? == some (rawInt _))=true then _ else _) Q E s
       rw[if_neg (by intro h;rw[hn,Bool.false_and] at h;cases h)]
       exact wpAny_pure hQ))
noncomputable def Itl(K:PySem.W.Frag)(a:Addr):It :=
 ⟨fun i H=>∃ xs x,SqL K H a xs/\xs[i]?=some x,fun i H x H'=>H'=H/\∀ xs,SqL K H a xs->xs[i]?=some x,fun i H=>∃ xs,SqL K H a xs/\xs.length<=i⟩
noncomputable def Itr(lo:Int)(n:Nat):It:=⟨fun i _=>i<n,fun i H x H'=>H'=H/\x=.int (lo+i),fun i _=>n<=i⟩
theorem zau{P:Program}{w:World}{K:PySem.W.Frag}{tg:Expr}(a it:Addr):En P w K tg (Itl K a) [it] it (fun i h=>h.IsListIter it a i) where
 mem:=by simp
 obj:=fun i h st b hb=>by
  have e:b=it:=by simpa using hb
  subst e;obtain⟨o,e,c,d⟩:=st;exact⟨o,e,fun v z=>by rw[d] at z;cases z⟩
 keep:=fun i h h' st k=>st.at fun o e=>k it (by simp) o e
 item:=by
  intro X hP hw hK hc i pins s σ H E I hf st hg;subst hP hw hK;obtain⟨xs,x,hq,hx⟩:=hg;obtain⟨its,rv,p,hz⟩:=I.list hq;obtain⟨u,hu,ru⟩:=rv.get hx;obtain⟨f0,f1,f2,f3,f4,f5⟩:=hf it (by simp)
  refine wpAny_pyNext_list_item st p.isList (x:=u) (by simpa using hu) fun h' st' sb=>?_
  have I1:Inv X pins σ H { s with heap:=h' }:=I.turned (t':=s.toks) (fun b o hb e=>(sb.2 b hb).trans e) f0 f1 f3 f4 f5
  obtain⟨o,e,c,d⟩:=id st';exact⟨u,rfl,zco (s:={ s with heap:=h' }) e c d (by decide) ⟨x,H,I1,ru,⟨rfl,fun ys hy=>by rw[I.list_inj hy hq];exact hx⟩,st',fun b hb=>(hf b hb).1⟩⟩
 done:=by
  intro X hP hw hK hc i pins s σ H E I hf st hg;subst hP hw hK;obtain⟨xs,hq,hx⟩:=hg;obtain⟨its,rv,p,hz⟩:=I.list hq;obtain⟨f0,f1,f2,f3,f4,f5⟩:=hf it (by simp)
  have hl:=rv.length;exact wpAny_pyNext_list_end (I.ok.hd hc) st p.isList (by simp;omega) fun h' eb=>⟨rfl,I.turned (t':=s.toks) (fun b o hb e=>eb b o hb e) f0 f1 f3 f4 f5⟩
 self:=fun _ _ _ _ _ st h=>wpAny_pyIter_listiter st h
theorem C0{P:Program}{w:World}{K:PySem.W.Frag}{tg:Expr}(it:Addr)(lo:Int)(n:Nat):En P w K tg (Itr lo n) [it] it (fun i h=>IsRangeIter h it (lo+(i:Nat)*1) ((n:Int)-(i:Nat)) 1) where
 mem:=by simp
 obj:=fun i h st b hb=>by
  have e:b=it:=by simpa using hb
  subst e;exact⟨_,st,fun v z=>by
   have z':Data.fields _=Data.cell v:=z;cases z'⟩
 keep:=fun i h h' st k=>k it (by simp) _ st
 item:=by
  intro X hP hw hK hc i pins s σ H E I hf st hg;subst hP hw hK;obtain⟨f0,f1,f2,f3,f4,f5⟩:=hf it (by simp)
  have W:=Walks.range (prog:=X.prog) (w:=X.w) (I.ok.hd hc) it lo 1 n;refine W.item i s _ _ hg st fun v h' tk hv st' kk=>?_
  obtain⟨t,rfl⟩:=hv;have I1:Inv X pins σ H { s with heap:=h',toks:=tk }:=I.turned (fun b o hb e=>kk b o (by simpa using hb) e) f0 f1 f3 f4 f5
  refine⟨_,rfl,zco (s:={ s with heap:=h',toks:=tk }) (n:="range_iterator") st' rfl rfl (by decide) ⟨.int (lo+i),H,I1,⟨t,?_⟩,⟨rfl,rfl⟩,st',fun b hb=>(hf b hb).1⟩⟩
  rw[Int.mul_one]
 done:=by
  intro X hP hw hK hc i pins s σ H E I hf st hg;subst hP hw hK;obtain⟨f0,f1,f2,f3,f4,f5⟩:=hf it (by simp)
  exact wpAny_pyNext_range_end (I.ok.hd hc) st (by have:n<=i:=hg;omega) fun h' eb=>⟨rfl,I.turned (t':=s.toks) (fun b o hb e=>eb b o hb e) f0 f1 f3 f4 f5⟩
 self:=fun _ _ _ _ _ st h=>wpAny_pyIter_rangeiter st h
section
variable{X:Cx}{tg:Expr}
inductive zg8(K:PySem.W.Frag)(R:It->Hp->Prop)(x:V)(H1:Hp):Prop where
 | mk(a)(_:x=.ref a)(_:(∃ xs,SqL K H1 a xs))(_:R (Itl K a) H1)
noncomputable def zgh(K:PySem.W.Frag)(tl:TE):TI:=fun σ H R=>tl σ H fun x H1=>zg8 K R x H1
theorem ze1{l:Expr}{tl:TE}(hl:PE X l tl):PI X tg l (zgh X.K tl):=by
 intro pins s σ H R I h;refine thn (hl pins s σ H _ I h) fun v s1 ⟨x,H1,I1,r1,q1⟩=>?_
 obtain⟨a,e,⟨xs,hq⟩,q⟩:=q1;subst e;cases r1;obtain⟨its,rv,p,hz⟩:=I1.list hq;refine wpAny_pyIter_list p.isList ?_;refine⟨s1.heap.objs.size,[s1.heap.objs.size],_,_,H1,rfl,I1.kept (t':=s1.toks) fun b o e=>Heap.get?_push_of_some _ e,zau a _,⟨_,Heap.get?_push_size _ rfl,rfl,rfl⟩,fun b hb=>?_,q⟩
 have e:b=s1.heap.objs.size:=by simpa using hb
 subst e;exact I1.fpOk (zza _) (I1.hok.fresh (zza _))
theorem Eo{pins:List (Addr×Obj)}{σ:St}{H:Hp}{s:Shared}{R:It->Hp->Prop}{E:Value->Shared->Prop}{lo hi:Int}{t u v:Tok}{tk:Nat}(I:Inv X pins σ H s)(h1:-(2 ^ 62)<=lo)(h2:lo<2 ^ 62)(h3:-(2 ^ 62)<=hi)(h4:hi<2 ^ 62)
  (q:R (Itr lo (hi-lo).toNat) H):wpAny (model X.prog X.w) X.A (pyIter (.ref s.heap.objs.size)) (PIE X pins σ tg R) E { s with heap:=s.heap.push { cls:=.type "range",data:=.fields #[.int lo t,.int hi u,.int 1 v] },toks:=tk }:=by
 refine wpAny_pyIter_range (IsRange.new ..) (small_one h1 h2 h3 h4) ?_;have I1:Inv X pins σ H { s with heap:=s.heap.push { cls:=.type "range",data:=.fields #[.int lo t,.int hi u,.int 1 v] },toks:=tk }:=I.kept fun b o e=>Heap.get?_push_of_some _ e
 refine⟨(s.heap.push { cls:=.type "range",data:=.fields #[.int lo t,.int hi u,.int 1 v] }).objs.size,[(s.heap.push { cls:=.type "range",data:=.fields #[.int lo t,.int hi u,.int 1 v] }).objs.size],_,_,H,rfl,
  I1.kept (t':=tk) fun b o e=>Heap.get?_push_of_some _ e,C0 _ lo (hi-lo).toNat,?_,fun b hb=>?_,q⟩
 ·have e1:lo+((0:Nat):Int)*1=lo:=by simp
  have e2:(((hi-lo).toNat:Nat):Int)-((0:Nat):Int)=Builtin.Range.rangeSize lo hi 1:=by rw[rangeSize_one];split<;>omega
  show IsRangeIter _ _ (lo+((0:Nat):Int)*1) ((((hi-lo).toNat:Nat):Int)-((0:Nat):Int)) 1;rw[e1,e2];exact Heap.get?_push_size _ rfl
 ·have e:b=(s.heap.push { cls:=.type "range",data:=.fields #[.int lo t,.int hi u,.int 1 v] }).objs.size:=by simpa using hb
  subst e;exact I1.fpOk (zza _) (I1.hok.fresh (zza _))
noncomputable def ziv(ta:TA):TI:=fun σ H R=>ta σ H fun vs H1=>∃ j:Int,vs=[.int j]/\-(2 ^ 62)<=j/\j<2 ^ 62/\R (Itr 0 j.toNat) H1
noncomputable def ziw(ta:TA):TI:=fun σ H R=>ta σ H fun vs H1=>∃ i j:Int,vs=[.int i,.int j]/\(-(2 ^ 62)<=i/\i<2 ^ 62/\-(2 ^ 62)<=j/\j<2 ^ 62)/\R (Itr i (j-i).toNat) H1
theorem V8{a:Expr}{ta:TA}{p pos:Pos}(hg:Gl X "range")(hm:X.mg "range"=none)(ha:PA X [a] ta)(hs:starEach [a] X.env=[(false,eval a X.env)]:=by rfl):PI X tg (.Call (.Name "range" p) [a] [] pos) (ziv ta):=by
 intro pins s σ H R I h;refine Call_ (Pp I hg hm boot_range (PyProof.Rows.callWith_type1 (thn (ha pos pins s σ H _ I h) fun us s1 ⟨vs,H1,I1,r1,q1⟩=>?_) hs rfl))
 obtain⟨j,e,q1,q2,q⟩:=q1;subst e;cases r1 with
 | cons r rr =>
   cases rr;obtain⟨t,rfl⟩:=r;exact call_range_1 (Eo I1 (by omega) (by omega) q1 q2 (by simpa using q))
theorem zav{a b:Expr}{ta:TA}{p pos:Pos}(hg:Gl X "range")(hm:X.mg "range"=none)(ha:PA X [a,b] ta)(hs:starEach [a,b] X.env=[(false,eval a X.env),(false,eval b X.env)]:=by rfl)(hs2:starEach [b] X.env=[(false,eval b X.env)]:=by rfl) :
  PI X tg (.Call (.Name "range" p) [a,b] [] pos) (ziw ta):=by
 intro pins s σ H R I h;refine Call_ (Pp I hg hm boot_range (PyProof.Rows.callWith_type1 (thn (ha pos pins s σ H _ I h) fun us s1 ⟨vs,H1,I1,r1,q1⟩=>?_) (by rw[hs,hs2]) (by rw[hs2];rfl)))
 obtain⟨i,j,e,⟨q1,q2,q3,q4⟩,q⟩:=q1;subst e;cases r1 with
 | cons r rr =>
   cases rr with
   | cons r' rr =>
     cases rr;obtain⟨t,rfl⟩:=r;obtain⟨t',rfl⟩:=r';exact call_range_2 (Eo I1 q1 q2 q3 q4 q)
noncomputable def zcp(wi:TI)(g:TG)(tb:TS):TS:=fun D σ H=>wi σ H fun J H1=>∃ W:Nat->Nat->St->Hp->Prop,(∃ m,W 0 m σ H1)/\∀ i m σ H,W i m σ H ->
 (J.stop i H/\D.nx σ H)\/(J.go i H/\∃ N:St->Hp->Prop,(∀ σ' H',N σ' H'->∃ m',m' < m/\W (i+1) m' σ' H')/\∀ x H',J.yld i H x H'->g x σ H' fun σ2 H2=>tb { D with nx:=N,ct:=N,bk:=D.nx } σ2 H2)
noncomputable def Nq(fp:List Addr)(h:Heap):List (Addr×Obj):=fp.filterMap fun b=>(h.get? b).map fun o=>(b,o)
theorem Sv{fp:List Addr}{h:Heap}{b:Addr}{o:Obj}(hb:b∈fp)(e:h.get? b=some o):(b,o)∈Nq fp h:=z09.mpr ⟨b,hb,by rw[e];rfl⟩
theorem zaw{fp:List Addr}{h:Heap}{p:Addr×Obj}(hp:p∈Nq fp h):p.1∈fp/\h.get? p.1=some p.2:=by
 obtain⟨b,hb,e⟩:=z09.mp hp;cases q:h.get? b with
 | none=>rw[q] at e;cases e
 | some o =>
   rw[q] at e
   have e':(b,o)=p:=Option.some.inj e;subst e';exact⟨hb,q⟩
theorem Inv.pinned{pins:List (Addr×Obj)}{σ:St}{H:Hp}{s:Shared}{fp:List Addr}(I:Inv X pins σ H s)(hf:∀ b∈fp,FpOk X pins H b)(ho:∀ b∈fp,∃ o,s.heap.get? b=some o/\∀ v,o.data≠.cell v):Inv X (pins++Nq fp s.heap) σ H s :=
 I.pins_of fun p hp=>(zy6.mp hp).elim (fun z=>I.pin p (zzj _ z)) fun z=>by
  obtain⟨hb,e⟩:=zaw z;obtain⟨f0,f1,f2,_⟩:=hf p.1 hb;obtain⟨o,e',d⟩:=ho p.1 hb;rw[e] at e';cases e'
  exact⟨e,f0,f1,f2,d⟩
theorem Inv.unpinned{pins pl:List (Addr×Obj)}{σ:St}{H:Hp}{s:Shared}(I:Inv X (pins++pl) σ H s):Inv X pins σ H s:=I.pins_of fun p hp=>I.pin p (zzj _ (zzu _ hp))
theorem Xq{iter:Expr}{body:List Stmt}{wi:TI}{g:TG}{tb:TS}{pos:Pos}(hp:PassesOwn (model X.prog X.w) X.A X.env X.xe)(hc:X.calm=true)(hi:PI X tg iter wi)(hg:PG X tg g)(hb:PSs X body tb)
  (hs:∀ x,foldedSetIterable iter X.env x=pure x:=by intro _;rfl):PS X (.For tg iter body [] pos) (zcp wi g tb):=by
 intro pins s σ H D I h;refine wpAny_For (thn (hi pins s σ H _ I h) fun v s1 h1=>thn h1 fun itv s2 h2=>?_) hs
 obtain⟨it,fp,tn,J,H2,e,I2,T,st2,f2,W,⟨m0,w0⟩,turn⟩:=h2;subst e;have stat:∀ {H':Hp},(∀ b∈fp,H' b=none)->∀ b∈fp,FpOk X pins H' b:=fun hn b hb=>⟨hn b hb,(f2 b hb).2⟩
 refine codeAny_forLoop_any (fun n s'=>∃ i σ' H',Inv X pins σ' H' s'/\tn i s'.heap/\(∀ b∈fp,H' b=none)/\W i n σ' H') ?_ m0 ⟨0,σ,H2,I2,st2,fun b hb=>(f2 b hb).1,w0⟩
 rintro n s3 ⟨i,σ3,H3,I3,st3,fr3,w3⟩;rcases turn i n σ3 H3 w3 with ⟨stop,qn⟩|⟨go,N,hN,step⟩
 ·refine wpAny_passesOwn hp (thn (T.done X rfl rfl rfl hc i pins s3 σ3 H3 X.xe I3 (stat fr3) st3 stop) fun r s4 ⟨hr,I4⟩=>?_)
  subst hr;exact wpAny_execs_nil ⟨σ3,H3,I4,qn⟩
 ·refine wpAny_passesOwn hp (thn (T.item X rfl rfl rfl hc i pins s3 σ3 H3 X.xe I3 (stat fr3) st3 go) fun r s4 ⟨u,hr,h4⟩=>?_)
  subst hr;refine wpAny_passesOwn hp (thn h4 fun _ s5 ⟨x,H5,I5,r5,y5,st5,fr5⟩=>?_)
  have I5':=I5.pinned (stat fr5) (T.obj _ _ st5);refine wpAny_passesOwn hp (thn (hg _ s5 σ3 H5 x u _ I5' r5 (step x H5 y5)) fun _ s6 ⟨σ6,H6,I6,q6⟩=>?_)
  refine wpAny_passesOwn hp (thn (hb _ s6 σ6 H6 _ I6 q6) fun f s7 q7=>?_)
  have again:∀ {σ7:St} {H7:Hp},Inv X (pins++Nq fp s5.heap) σ7 H7 s7->N σ7 H7->∃ m,m<n/\∃ i σ' H',Inv X pins σ' H' s7/\tn i s7.heap/\(∀ b∈fp,H' b=none)/\W i m σ' H':=fun {σ7 H7} I7 n7=>by
   obtain⟨m',hm,w7⟩:=hN σ7 H7 n7;refine⟨m',hm,i+1,σ7,H7,I7.unpinned,T.keep _ _ _ st5 fun b hb o e=>(I7.pin (b,o) (zzj _ (zzj _ (Sv hb e)))).1,fun b hb=>?_,w7⟩
   obtain⟨o,e,d⟩:=T.obj _ _ st5 b hb;exact(I7.pin (b,o) (zzj _ (zzj _ (Sv hb e)))).2.1
  cases f with
  | next=>obtain⟨σ7,H7,I7,n7⟩:=q7;exact again I7 n7
  | cont=>obtain⟨σ7,H7,I7,n7⟩:=q7;exact again I7 n7
  | brk=>obtain⟨σ7,H7,I7,q7⟩:=q7;exact⟨σ7,H7,I7.unpinned,q7⟩
  | ret v=>obtain⟨x7,σ7,H7,I7,r7,q7⟩:=q7;exact⟨x7,σ7,H7,I7.unpinned,r7,q7⟩
end
theorem Xz{K:PySem.W.Frag}{a:Addr}{xs:List V}{g:TG}{tb:TS}{D:T9}{σ:St}{H:Hp}(Pv:Nat->St->Hp->Prop)(h0:Pv 0 σ H)(hl:∀ i σ H,i<=xs.length->Pv i σ H->SqL K H a xs)
  (hs:∀ i x σ H,xs[i]?=some x->Pv i σ H->g x σ H fun σ2 H2=>tb { D with nx:=Pv (i+1),ct:=Pv (i+1),bk:=D.nx } σ2 H2) (hd:∀ σ H,Pv xs.length σ H->D.nx σ H) :
  ∃ W:Nat->Nat->St->Hp->Prop,(∃ m,W 0 m σ H)/\∀ i m σ H,W i m σ H ->
    ((Itl K a).stop i H/\D.nx σ H)\/((Itl K a).go i H/\∃ N:St->Hp->Prop,(∀ σ' H',N σ' H'->∃ m',m' < m/\W (i+1) m' σ' H')/\∀ x H',(Itl K a).yld i H x H'->g x σ H' fun σ2 H2=>tb { D with nx:=N,ct:=N,bk:=D.nx } σ2 H2):=by
 refine⟨fun i m σ H=>m=xs.length-i/\i<=xs.length/\Pv i σ H,⟨xs.length,by simp,zzs _,h0⟩,?_⟩
 rintro i m σ H ⟨rfl,hi,p⟩;have q:=hl i σ H hi p;by_cases hlt:i<xs.length
 ·refine .inr ⟨⟨xs,xs[i],q,by simp[hlt]⟩,Pv (i+1),fun σ' H' p'=>⟨xs.length-(i+1),by omega,rfl,hlt,p'⟩,fun x H' y=>?_⟩
  obtain⟨e,y⟩:=y;subst e;exact hs i x σ _ (y xs q) p
 ·have e:i=xs.length:=by omega
  subst e;exact .inl ⟨⟨xs,q,zza _⟩,hd σ H p⟩
theorem Ti{lo:Int}{n:Nat}{g:TG}{tb:TS}{D:T9}{σ:St}{H:Hp}(Pv:Nat->St->Hp->Prop)(h0:Pv 0 σ H)
  (hs:∀ i σ H,i<n->Pv i σ H->g (.int (lo+i)) σ H fun σ2 H2=>tb { D with nx:=Pv (i+1),ct:=Pv (i+1),bk:=D.nx } σ2 H2) (hd:∀ σ H,Pv n σ H->D.nx σ H) :
  ∃ W:Nat->Nat->St->Hp->Prop,(∃ m,W 0 m σ H)/\∀ i m σ H,W i m σ H ->
    ((Itr lo n).stop i H/\D.nx σ H)\/((Itr lo n).go i H/\∃ N:St->Hp->Prop,(∀ σ' H',N σ' H'->∃ m',m' < m/\W (i+1) m' σ' H')/\∀ x H',(Itr lo n).yld i H x H'->g x σ H' fun σ2 H2=>tb { D with nx:=N,ct:=N,bk:=D.nx } σ2 H2):=by
 refine⟨fun i m σ H=>m=n-i/\i<=n/\Pv i σ H,⟨n,by simp,zzs _,h0⟩,?_⟩
 rintro i m σ H ⟨rfl,hi,p⟩;by_cases hlt:i<n
 ·refine .inr ⟨hlt,Pv (i+1),fun σ' H' p'=>⟨n-(i+1),by omega,rfl,hlt,p'⟩,fun x H' y=>?_⟩
  obtain⟨e,y⟩:=y;subst e y;exact hs i σ _ hlt p
 ·have e:i=n:=by omega
  subst e;exact .inl ⟨zza _,hd σ H p⟩
noncomputable abbrev R2:=V->V->Hp->VK->Prop
noncomputable def OpR(X:Cx)(f:Value->Value->Sem Value)(r:R2):Prop :=
 ∀ (pins:List (Addr×Obj)) (s:Shared) (σ:St) (H:Hp) (x y:V) (v u:Value) (Q:VK),Inv X pins σ H s->RelV x v->RelV y u->r x y H Q ->
   wpAny (model X.prog X.w) X.A (f v u) (EP X pins σ Q) X.xe s
noncomputable def UnR(X:Cx)(f:Value->Sem Value)(r:V->Hp->VK->Prop):Prop :=
 ∀ (pins:List (Addr×Obj)) (s:Shared) (σ:St) (H:Hp) (x:V) (v:Value) (Q:VK),Inv X pins σ H s->RelV x v->r x H Q ->
   wpAny (model X.prog X.w) X.A (f v) (EP X pins σ Q) X.xe s
noncomputable def Vg(X:Cx)(f:Value)(r:List V->Hp->VK->Prop):Prop :=
 ∀ (pins:List (Addr×Obj)) (s:Shared) (σ:St) (H:Hp) (xs:List V) (us:List Value) (Q:VK),Inv X pins σ H s->Vals xs us->r xs H Q ->
   wpAny (model X.prog X.w) X.A (call f us) (EP X pins σ Q) X.xe s
noncomputable def zj2(X:Cx)(r:V->Hp->(Bool->Hp->Prop)->Prop):Prop :=
 ∀ (pins:List (Addr×Obj)) (s:Shared) (σ:St) (H:Hp) (x:V) (v:Value) (Q:Bool->Hp->Prop),Inv X pins σ H s->RelV x v->r x H Q ->
   wpAny (model X.prog X.w) X.A (truthy v) (TP X pins σ Q) X.xe s
noncomputable def tOp(r:R2)(ta tb:TE):TE:=fun σ H Q=>ta σ H fun x H1=>tb σ H1 fun y H2=>r x y H2 Q
noncomputable def tUn(r:V->Hp->VK->Prop)(ta:TE):TE:=fun σ H Q=>ta σ H fun x H1=>r x H1 Q
inductive rI(C:Int->Int->Prop)(g:Int->Int->V)(x:V)(y:V)(H:Hp)(Q:VK):Prop where
 | mk(i)(j)(_:x=.int i)(_:y=.int j)(_:C i j/\Q (g i j) H)
inductive rI0(g:Int->Int->V)(x:V)(y:V)(H:Hp)(Q:VK):Prop where
 | mk(i)(j)(_:x=.int i)(_:y=.int j)(_:Q (g i j) H)
inductive rU(g:Int->V)(x:V)(H:Hp)(Q:VK):Prop where
 | mk(i)(_:x=.int i)(_:Q (g i) H)
section
variable{X:Cx}{a b c:Expr}{ta tb tc:TE}{pos:Pos}
theorem binT(ha:PE X a ta)(hb:PE X b tb){pins:List (Addr×Obj)}{s:Shared}{σ:St}{H:Hp}{R:V->V->Hp->Prop}(I:Inv X pins σ H s)
  (h:ta σ H fun x H1=>tb σ H1 fun y H2=>R x y H2) {Q:Value->Shared->Prop} {f:Value->Value->Sem Value}
  (hf:∀ v u s2 x y H2,Inv X pins σ H2 s2->RelV x v->RelV y u->R x y H2->wpAny (model X.prog X.w) X.A (f v u) Q X.xe s2) :
  wpAny (model X.prog X.w) X.A (eval a X.env) (fun v s₁=>wpAny (model X.prog X.w) X.A (eval b X.env) (fun u s₂=>wpAny (model X.prog X.w) X.A (f v u) Q X.xe s₂) X.xe s₁) X.xe s:=by
 refine thn (ha pins s σ H _ I h) fun v s1 ⟨x,H1,I1,r1,q1⟩=>?_
 refine thn (hb pins s1 σ H1 _ I1 q1) fun u s2 ⟨y,H2,I2,r2,q2⟩=>?_
 exact hf v u s2 x y H2 I2 r1 r2 q2
theorem Zp{op:Operator}{r:R2}(ho:OpR X (binaryOp op) r)(ha:PE X a ta)(hb:PE X b tb):PE X (.BinOp a op b pos) (tOp r ta tb):=by
 intro pins s σ H Q I h;exact wpAny_BinOp (binT ha hb I h fun v u s2 x y H2 I2 rx ry q=>ho pins s2 σ H2 x y v u Q I2 rx ry q)
theorem Mo{op:UnaryOp}{r:V->Hp->VK->Prop}(ho:UnR X (unaryOp op) r)(ha:PE X a ta):PE X (.UnaryOp op a pos) (tUn r ta):=by
 intro pins s σ H Q I h;exact UnaryOp_ (thn (ha pins s σ H _ I h) fun v s1 ⟨x,H1,I1,r1,q1⟩=>ho pins s1 σ H1 x v Q I1 r1 q1)
theorem opI{f:Value->Value->Sem Value}{C:Int->Int->Prop}{g:Int->Int->Int}
  (rule:∀ (i j:Int) (t u:Tok) (s:Shared) (Q:Value->Shared->Prop) (E:Value->Shared->Prop),C i j->Q (.int (g i j) s.toks) { s with toks:=s.toks+1 }->wpAny (model X.prog X.w) X.A (f (.int i t) (.int j u)) Q E s) :
  OpR X f (rI C fun i j=>.int (g i j)):=by
 intro pins s σ H x y v u Q I rx ry h;obtain⟨i,j,rfl,rfl,hc,q⟩:=h;obtain⟨t,rfl⟩:=rx;obtain⟨t',rfl⟩:=ry;exact rule i j t t' s _ _ hc ⟨.int (g i j),H,I.tok _,⟨_,rfl⟩,q⟩
theorem zix{f:Value->Value->Sem Value}{g:Int->Int->Int}
  (rule:∀ (i j:Int) (t u:Tok) (s:Shared) (Q:Value->Shared->Prop) (E:Value->Shared->Prop),Q (.int (g i j) s.toks) { s with toks:=s.toks+1 }->wpAny (model X.prog X.w) X.A (f (.int i t) (.int j u)) Q E s) :
  OpR X f (rI0 fun i j=>.int (g i j)):=by
 intro pins s σ H x y v u Q I rx ry h;obtain⟨i,j,rfl,rfl,q⟩:=h;obtain⟨t,rfl⟩:=rx;obtain⟨t',rfl⟩:=ry;exact rule i j t t' s _ _ ⟨.int (g i j),H,I.tok _,⟨_,rfl⟩,q⟩
theorem ze2{f:Value->Value->Sem Value}{g:Int->Int->Bool}
  (rule:∀ (i j:Int) (t u:Tok) (s:Shared) (Q:Value->Shared->Prop) (E:Value->Shared->Prop),Q (.bool (g i j)) s->wpAny (model X.prog X.w) X.A (f (.int i t) (.int j u)) Q E s) :
  OpR X f (rI0 fun i j=>.bl (g i j)):=by
 intro pins s σ H x y v u Q I rx ry h;obtain⟨i,j,rfl,rfl,q⟩:=h;obtain⟨t,rfl⟩:=rx;obtain⟨t',rfl⟩:=ry;exact rule i j t t' s _ _ ⟨.bl (g i j),H,I,rfl,q⟩
noncomputable def CDiv(i j:Int):Prop:=0<j/\j<1073741824
noncomputable def CMul(i j:Int):Prop:=(-(2 ^ 64)<i/\i<2 ^ 64)\/(-(2 ^ 64)<j/\j<2 ^ 64)
theorem CMul.ok{i j:Int}(h:CMul i j):IntMulOk i j:=by
 rcases h with ⟨h1,h2⟩|⟨h1,h2⟩
 ·exact .of_left (intBits_le_64 h1 h2)
 ·exact .of_right (intBits_le_64 h1 h2)
theorem Ys:OpR X (binaryOp .Add) (rI0 fun i j=>.int (i+j)):=zix fun _ _ _ _ _ _ _ q=>add_int q
theorem Pq:OpR X (binaryOp .Sub) (rI0 fun i j=>.int (i-j)):=zix fun _ _ _ _ _ _ _ q=>sub_int q
theorem Uv:OpR X (binaryOp .Mult) (rI CMul fun i j=>.int (i*j)):=opI fun _ _ _ _ _ _ _ hc q=>mul_int q hc.ok
theorem Y3:OpR X (binaryOp .FloorDiv) (rI CDiv fun i j=>.int (i/j)):=opI fun i j _ _ _ _ _ hc q=>by
 have h1:(0:Int)<j:=hc.1;have h2:j<1073741824:=hc.2;exact floordiv_int (by omega) (by rw[Int.fdiv_eq_ediv_of_nonneg i (by omega)];exact q) (.inl (PyProof.noPylong_small (by omega)))
theorem Yn:OpR X (binaryOp .Mod) (rI (fun _ j=>0<j) fun i j=>.int (i%j)):=opI fun i j _ _ _ _ _ hc q=>by
 have h1:(0:Int)<j:=hc;exact mod_int' (by omega) (by rw[Int.fmod_eq_emod_of_nonneg i (by omega)];exact q)
theorem unI{f:Value->Sem Value}{g:Int->Int}
  (rule:∀ (i:Int) (t:Tok) (s:Shared) (Q:Value->Shared->Prop) (E:Value->Shared->Prop),Q (.int (g i) s.toks) { s with toks:=s.toks+1 }->wpAny (model X.prog X.w) X.A (f (.int i t)) Q E s) :
  UnR X f (rU fun i=>.int (g i)):=by
 intro pins s σ H x v Q I rx h;obtain⟨i,rfl,q⟩:=h;obtain⟨t,rfl⟩:=rx;exact rule i t s _ _ ⟨.int (g i),H,I.tok _,⟨_,rfl⟩,q⟩
theorem Rv:UnR X (unaryOp .USub) (rU fun i=>.int (-i)):=unI fun _ _ _ _ _ q=>neg_int q
end
noncomputable def ziy:V->V->Bool
 | .non,.non=>true|.non,.int _=>true|.int _,.non=>true|.non,.bl _=>true|.bl _,.non=>true|.non,.str _=>true|.str _,.non=>true
 | .int _,.int _=>true|.bl _,.bl _=>true|.str _,.str _=>true|.byt _,.byt _=>true
 | .int _,.str _=>true|.str _,.int _=>true|.bl _,.str _=>true|.str _,.bl _=>true
 | _,_=>false
inductive rEq(x:V)(y:V)(H:Hp)(Q:VK):Prop where
 | mk(_:ziy x y=true)(_:Q (.bl (decide (x=y))) H)
inductive rNe(x:V)(y:V)(H:Hp)(Q:VK):Prop where
 | mk(_:ziy x y=true)(_:Q (.bl (!decide (x=y))) H)
theorem Af{i j:Int}:decide (V.int i=V.int j)=(i == j):=by
 rw[z0z];simp
theorem zcq{i j:Bool}:decide (V.bl i=V.bl j)=(i == j):=by
 rw[z0z];simp
theorem Ag{i j:Str}:decide (V.str i=V.str j)=(i == j):=by
 rw[z0z];simp
theorem Ah{i j:Array UInt8}:decide (V.byt i=V.byt j)=(i.toList == j.toList):=by
 rw[z0z];cases i;cases j;simp
section
variable{X:Cx}{a b c:Expr}{ta tb tc:TE}{pos:Pos}
theorem Yk{pins:List (Addr×Obj)}{σ:St}{H:Hp}{s:Shared}{Q:VK}{k k':Bool}(I:Inv X pins σ H s)(q:Q (.bl k) H)(e:k=k'):EP X pins σ Q (.bool k') s:=by
 subst e;exact⟨.bl k,H,I,rfl,q⟩
theorem Wq:OpR X (compareOp .Eq) rEq:=by
 intro pins s σ H x y v u Q I rx ry h;obtain⟨hs,q⟩:=h;cases x with
 | non =>
   cases rx;cases y with
   | non=>cases ry;exact PySem.EqNone.eq_none_none (Yk I q (by simp))
   | bl j=>cases ry;exact PySem.EqNone.eq_none_bool (Yk I q (by simp))
   | int j=>obtain⟨t',rfl⟩:=ry;exact PySem.EqNone.eq_none_int (Yk I q (by simp))
   | str j=>obtain⟨t',rfl⟩:=ry;exact PySem.EqNone.eq_none_str (Yk I q (by simp))
   | _=>exact absurd (show false=true from hs) zzf
 | bl i =>
   cases rx;cases y with
   | non=>cases ry;exact PySem.EqNone.eq_bool_none (Yk I q (by simp))
   | bl j=>cases ry;exact eq_bool (Yk I q zcq)
   | str j=>obtain⟨t',rfl⟩:=ry;exact PySem.EqMixed.eq_bool_str (Yk I q (by simp))
   | _=>exact absurd (show false=true from hs) zzf
 | int i =>
   obtain⟨t,rfl⟩:=rx;cases y with
   | non=>cases ry;exact PySem.EqNone.eq_int_none (Yk I q (by simp))
   | int j=>obtain⟨t',rfl⟩:=ry;exact eq_int (Yk I q Af)
   | str j=>obtain⟨t',rfl⟩:=ry;exact PySem.EqMixed.eq_int_str (Yk I q (by simp))
   | _=>exact absurd (show false=true from hs) zzf
 | str i =>
   obtain⟨t,rfl⟩:=rx;cases y with
   | non=>cases ry;exact PySem.EqNone.eq_str_none (Yk I q (by simp))
   | bl j=>cases ry;exact PySem.EqMixed.eq_str_bool (Yk I q (by simp))
   | int j=>obtain⟨t',rfl⟩:=ry;exact PySem.EqMixed.eq_str_int (Yk I q (by simp))
   | str j=>obtain⟨t',rfl⟩:=ry;exact eq_str (Yk I q Ag)
   | _=>exact absurd (show false=true from hs) zzf
 | byt i =>
   obtain⟨t,rfl⟩:=rx;cases y with
   | byt j=>obtain⟨t',rfl⟩:=ry;exact PySem.W.eq_bytes (Yk I q Ah)
   | _=>exact absurd (show false=true from hs) zzf
 | _=>cases y<;>exact absurd (show false=true from hs) zzf
theorem zgi:OpR X (compareOp .NotEq) rNe:=by
 intro pins s σ H x y v u Q I rx ry h;obtain⟨hs,q⟩:=h;cases x with
 | non =>
   cases rx;cases y with
   | non=>cases ry;exact PySem.EqNone.ne_none_none (Yk I q (by simp))
   | bl j=>cases ry;exact PySem.EqNone.ne_none_bool (Yk I q (by simp))
   | int j=>obtain⟨t',rfl⟩:=ry;exact PySem.EqNone.ne_none_int (Yk I q (by simp))
   | str j=>obtain⟨t',rfl⟩:=ry;exact PySem.EqNone.ne_none_str (Yk I q (by simp))
   | _=>exact absurd (show false=true from hs) zzf
 | bl i =>
   cases rx;cases y with
   | non=>cases ry;exact PySem.EqNone.ne_bool_none (Yk I q (by simp))
   | bl j=>cases ry;exact ne_bool (Yk I q (congrArg not zcq))
   | str j=>obtain⟨t',rfl⟩:=ry;exact PySem.EqMixed.ne_bool_str (Yk I q (by simp))
   | _=>exact absurd (show false=true from hs) zzf
 | int i =>
   obtain⟨t,rfl⟩:=rx;cases y with
   | non=>cases ry;exact PySem.EqNone.ne_int_none (Yk I q (by simp))
   | int j=>obtain⟨t',rfl⟩:=ry;exact ne_int (Yk I q (congrArg not Af))
   | str j=>obtain⟨t',rfl⟩:=ry;exact PySem.EqMixed.ne_int_str (Yk I q (by simp))
   | _=>exact absurd (show false=true from hs) zzf
 | str i =>
   obtain⟨t,rfl⟩:=rx;cases y with
   | non=>cases ry;exact PySem.EqNone.ne_str_none (Yk I q (by simp))
   | bl j=>cases ry;exact PySem.EqMixed.ne_str_bool (Yk I q (by simp))
   | int j=>obtain⟨t',rfl⟩:=ry;exact PySem.EqMixed.ne_str_int (Yk I q (by simp))
   | str j=>obtain⟨t',rfl⟩:=ry;exact ne_str (Yk I q (congrArg not Ag))
   | _=>exact absurd (show false=true from hs) zzf
 | byt i =>
   obtain⟨t,rfl⟩:=rx;cases y with
   | byt j=>obtain⟨t',rfl⟩:=ry;exact PySem.W.ne_bytes (Yk I q (congrArg not Ah))
   | _=>exact absurd (show false=true from hs) zzf
 | _=>cases y<;>exact absurd (show false=true from hs) zzf
theorem Ai:OpR X (compareOp .Lt) (rI0 fun i j=>.bl (decide (i<j))):=ze2 fun _ _ _ _ _ _ _ q=>lt_int q
theorem zgj:OpR X (compareOp .LtE) (rI0 fun i j=>.bl (decide (i<=j))):=ze2 fun _ _ _ _ _ _ _ q=>le_int q
theorem Ri:OpR X (compareOp .Gt) (rI0 fun i j=>.bl (decide (j<i))):=ze2 fun _ _ _ _ _ _ _ q=>gt_int q
theorem zgk:OpR X (compareOp .GtE) (rI0 fun i j=>.bl (decide (j<=i))):=ze2 fun _ _ _ _ _ _ _ q=>ge_int q
theorem Kj:OpR X (compareOp .Is) (fun x y H Q=>y=.non/\Q (.bl (decide (x=.non))) H):=by
 intro pins s σ H x y v u Q I rx ry h;obtain⟨rfl,q⟩:=h;cases ry;refine is_none_gen (Yk I q ?_);cases x<;>first
  | (cases rx;rfl)
  | (obtain⟨t,rfl⟩:=rx;rfl)
theorem Vi:OpR X (compareOp .IsNot) (fun x y H Q=>y=.non/\Q (.bl (!decide (x=.non))) H):=by
 intro pins s σ H x y v u Q I rx ry h;obtain⟨rfl,q⟩:=h;cases ry;refine isnot_none_gen (Yk I q ?_);cases x<;>first
  | (cases rx;rfl)
  | (obtain⟨t,rfl⟩:=rx;rfl)
theorem Zv(b:Expr){op:CmpOp}(h:op≠.In:=by decide)(h2:op≠.NotIn:=by decide):behindInMarks op b=false:=by
 have e1:(op == CmpOp.In)=false:=by cases op<;>first|rfl|exact absurd rfl h
 have e2:(op == CmpOp.NotIn)=false:=by cases op<;>first|rfl|exact absurd rfl h2
 cases b<;>simp[behindInMarks,e1,e2]
theorem Qq{op:CmpOp}{r:R2}(ho:OpR X (compareOp op) r)(ha:PE X a ta)(hb:PE X b tb)(hm:behindInMarks op b=false):PE X (.Compare a [op] [b] pos) (tOp r ta tb):=by
 intro pins s σ H Q I h;exact wpAny_Compare1 (binT ha hb I h fun v u s2 x y H2 I2 rx ry q=>ho pins s2 σ H2 x y v u Q I2 rx ry q) hm
noncomputable def zgl(t:TE):TT:=fun σ H Q=>t σ H fun x H'=>∃ k,x=.bl k/\Q k H'
theorem Zm{op:CmpOp}{r:R2}(ho:OpR X (compareOp op) r)(ha:PE X a ta)(hb:PE X b tb)(hm:behindInMarks op b=false):PT X (.Compare a [op] [b] pos) (zgl (tOp r ta tb)):=by
 intro pins s σ H Q I h;refine wpAny_isTrue_Compare1 (thn (ha pins s σ H _ I h) fun v s1 ⟨x,H1,I1,r1,q1⟩=>thn (hb pins s1 σ H1 _ I1 q1) fun u s2 ⟨y,H2,I2,r2,q2⟩ =>
  thn (ho pins s2 σ H2 x y v u _ I2 r1 r2 q2) fun c s3 ⟨z,H3,I3,r3,k,e,q3⟩=>?_) hm
 subst e;cases r3;exact wpAny_truthy_bool ⟨H3,I3,q3⟩
noncomputable def TruV(K:PySem.W.Frag)(x:V)(H:Hp)(k:Bool):Prop :=
 match x with
 | .non=>k=false
 | .bl b=>k=b
 | .int i=>k=(i != 0)
 | .str y=>y.length<=sizeLine/\k=((y.length:Int) != 0)
 | .byt y=>y.size<=sizeLine/\k=((y.size:Int) != 0)
 | .ref p=>(∃ xs,SqL K H p xs/\k=!xs.isEmpty)\/(∃ xs,SqT K H p xs/\k=!xs.isEmpty)\/∃ kvs,H p=some (.dK kvs)/\k=!kvs.isEmpty
 | _=>False
theorem C2{κ:Type}{kvs:List (κ×V)}{vs:List (κ×Value)}(r:KV kvs vs):(!vs.isEmpty)=!kvs.isEmpty:=by
 cases r<;>rfl
theorem Kk{xs:List V}{its:List Value}(r:Vals xs its):(!its.toArray.isEmpty)=!xs.isEmpty:=by
 cases r<;>simp
theorem Pr:(sizeLine:Nat)<2 ^ 63:=by rw[sizeLine_eq];decide
theorem zg9:zj2 X (fun x H Q=>∃ k,TruV X.K x H k/\Q k H):=by
 intro pins s σ H x v Q I rx h;obtain⟨k,e,q⟩:=h;have hl:=Pr;have hs:sizeLine=16777216:=sizeLine_eq;cases x with
 | non =>
   cases rx;have e':k=false:=e;subst e';exact truthy_none ⟨H,I,q⟩
 | bl b =>
   cases rx;have e':k=b:=e;subst e';exact wpAny_truthy_bool ⟨H,I,q⟩
 | int i =>
   obtain⟨t,rfl⟩:=rx;have e':k=(i != 0):=e;subst e';exact PySem.P.truthy_int ⟨H,I,q⟩
 | str y =>
   obtain⟨t,rfl⟩:=rx;obtain⟨hy,e'⟩:y.length<=sizeLine/\k=((y.length:Int) != 0):=e;subst e';exact PySem.P.truthy_str (by omega) ⟨H,I.tok _,q⟩
 | byt y =>
   obtain⟨t,rfl⟩:=rx;obtain⟨hy,e'⟩:y.size<=sizeLine/\k=((y.size:Int) != 0):=e;subst e';exact PySem.W.truthy_bytes (by omega) ⟨H,I.tok _,q⟩
 | ref p =>
   cases rx;have e':(∃ xs,SqL X.K H p xs/\k=!xs.isEmpty)\/(∃ xs,SqT X.K H p xs/\k=!xs.isEmpty)\/∃ kvs,H p=some (.dK kvs)/\k=!kvs.isEmpty:=e
   rcases e' with ⟨xs,hx,e'⟩|⟨xs,hx,e'⟩|⟨kvs,hx,e'⟩
   ·subst e'
    obtain⟨its,r,pl,hz⟩:=I.list hx;have hlen:=r.length;exact wpAny_truthy_list pl.isList (by simp only[zzd];omega) ⟨H,I.tok _,by rw[Kk r];exact q⟩
   ·subst e'
    obtain⟨its,r,pl,hz⟩:=I.tuple hx;have hlen:=r.length;exact truthy_tuple pl (by simp only[zzd];omega) ⟨H,I.tok _,by rw[Kk r];exact q⟩
   ·subst e'
    obtain⟨hz,hS,vs,r,m⟩:kvs.length<=sizeLine/\(p == sysModules)=false/\∃ vs,KV kvs vs/\s.heap.DictOf (Yj X.prog X.w) p vs:=I.hok p _ hx
    have hlen:kvs.length=vs.length:=Paired.length r;exact wpAny_truthy_dict hS m (by omega) ⟨H,I.tok _,by rw[C2 r];exact q⟩
 | _=>exact(show False from e).elim
theorem zcr(ha:PE X a ta)(he:∀ whole,isTrue a X.env whole=(do let v <- whole;standAt a.pos;holding [v] (truthy v))) :
  PT X a (fun σ H Q=>ta σ H fun x H'=>∃ k,TruV X.K x H' k/\Q k H'):=by
 intro pins s σ H Q I h;exact isTrue_plain (thn (ha pins s σ H _ I h) fun v s1 ⟨x,H1,I1,r1,q1⟩=>zg9 pins s1 σ H1 x v Q I1 r1 q1) (he _)
theorem Sg{x:V}{us:List Value}(r:Vals [x] us):∃ u,us=[u]/\RelV x u:=by
 cases r with
 | cons r1 r2=>cases r2;exact⟨_,rfl,r1⟩
theorem zcs{x y:V}{us:List Value}(r:Vals [x,y] us):∃ u w',us=[u,w']/\RelV x u/\RelV y w':=by
 cases r with
 | cons r1 r2 =>
   cases r2 with
   | cons r3 r4=>cases r4;exact⟨_,_,rfl,r1,r3⟩
theorem Hr(hc:X.calm=true):Vg X (.builtin "max") (fun xs H Q=>∃ i j,xs=[.int i,.int j]/\Q (.int (if j>i then j else i)) H):=by
 intro pins s σ H xs us Q I r h;obtain⟨i,j,rfl,q⟩:=h;obtain⟨u,w',rfl,⟨t,rfl⟩,⟨t',rfl⟩⟩:=zcs r;refine max_two_ints (I.ok.hd hc) fun h' tk k=>⟨_,H,I.kept k,?_,q⟩
 by_cases hj:j>i
 ·rw[if_pos hj,if_pos hj];exact⟨_,rfl⟩
 ·rw[if_neg hj,if_neg hj];exact⟨_,rfl⟩
theorem Hs(hc:X.calm=true):Vg X (.builtin "min") (fun xs H Q=>∃ i j,xs=[.int i,.int j]/\Q (.int (if j<i then j else i)) H):=by
 intro pins s σ H xs us Q I r h;obtain⟨i,j,rfl,q⟩:=h;obtain⟨u,w',rfl,⟨t,rfl⟩,⟨t',rfl⟩⟩:=zcs r;refine min_two_ints (I.ok.hd hc) fun h' tk k=>⟨_,H,I.kept k,?_,q⟩
 by_cases hj:j<i
 ·rw[if_pos hj,if_pos hj];exact⟨_,rfl⟩
 ·rw[if_neg hj,if_neg hj];exact⟨_,rfl⟩
theorem Hu:Vg X (.type "int") (fun xs H Q=>(∃ i,xs=[.int i]/\Q (.int i) H)\/∃ k,xs=[.bl k]/\Q (.int (if k then 1 else 0)) H):=by
 intro pins s σ H xs us Q I r h;rcases h with ⟨i,rfl,q⟩|⟨k,rfl,q⟩
 ·obtain⟨u,rfl,t,rfl⟩:=Sg r
  exact call_int_int ⟨.int i,H,I,⟨_,rfl⟩,q⟩
 ·obtain⟨u,rfl,r1⟩:=Sg r
  cases r1;exact call_int_bool ⟨.int (if k then 1 else 0),H,I.tok _,⟨_,rfl⟩,q⟩
end
structure ObjM(h:Heap)(x dx C:Addr)(mA:Str->Option Value):Prop where
 obj:h.get? x=some (PySem.W.instObj C dx)
 ns:h.Ns1 dx mA
 ne:dx≠x
theorem zax{h:Heap}{dx:Addr}{mA:Str->Option Value}(n:h.Ns1 dx mA):∃ od,h.get? dx=some od/\∀ name,PySem.W.lookIn name od=some (mA name):=by
 obtain⟨o,es,ep,ho,hd,hk,_,hm⟩:=n;refine⟨o,ho,fun name=>?_⟩
 have e:=hm name;unfold nsFind findBy at e
 rw[<- Array.find?_toList] at e
 unfold PySem.W.lookIn;rw[hd];dsimp only;split
 ·rename_i y q
  rw[q] at e
  exact congrArg some e
 ·rename_i q
  rw[q] at e
  have a:es.toList.any (·.refKey)=false:=by
   rw[List.any_eq_false];intro y hy;obtain⟨z,t,hkey⟩:=hk y (Array.mem_toList_iff.mp hy);simp[DictEntry.refKey,hkey]
  have a':¬ es.toList.any (·.refKey)=true:=by rw[a];exact zzf
  rw[if_neg a'];exact congrArg some e
theorem ObjM.look{h:Heap}{x dx C:Addr}{mA:Str->Option Value}(I:ObjM h x dx C mA):∃ od,PySem.W.InstAt h x (PySem.W.instObj C dx) C (some od)/\∀ name,PySem.W.lookIn name od=some (mA name) :=
 let ⟨od,ho,hl⟩:=zax I.ns
 ⟨od,⟨I.obj,rfl,rfl,ho⟩,hl⟩
section
variable{prog:Program}{w:World}{A:Around}{E:Value->Shared->Prop}{s:Shared}{K:PySem.W.Frag}{x dx C f:Addr}{mA:Str->Option Value}{name:Str}{v:Value}
theorem ze3{expr:Bool}{Q:Value->Shared->Prop}(X:K.In s.heap)(I:ObjM s.heap x dx C mA)(hg:PySem.W.plainGet K C name=true)(hh:PySem.W.hasDictIn K C=true)
  (ha:PySem.W.findIn K (.ref C) name=some none) (hv:mA name=some v) (hv':PySem.W.handedIn v=true) (h:Q v { s with toks:=s.toks+1 }) :
  wpAny (model prog w) A (getAttr (.ref x) name expr) Q E s:=by
 obtain⟨od,J,hl⟩:=I.look;exact PySem.W.get_value X J (PySem.W.plainGet_of hg).1 (PySem.W.findObj_own hh ha rfl (by rw[hl,hv])) hv' h
theorem zct{pl:Sem Bool}{Q:Value×List Value->Shared->Prop}(X:K.In s.heap)(I:ObjM s.heap x dx C mA)(hg:PySem.W.plainGet K C name=true)
  (hf:PySem.W.findIn K (.ref C) name=some (some (.ref f))) (ht:PySem.W.isFn K (.ref f)=true) (hv:mA name=none) (h:Q (.ref f,[.ref x]) s) :
  wpAny (model prog w) A (getMethod (.ref x) name pl) Q E s:=by
 obtain⟨od,J,hl⟩:=I.look;exact PySem.W.method_fn X J (PySem.W.plainGet_of hg).1 (PySem.W.plainGet_of hg).2 hf (beq_iff_eq.mp ht) (by show (PySem.W.lookIn name od).map (·.isSome)=some false;rw[hl,hv];rfl) h
theorem ze4{ns:List Str}{Q:Unit->Shared->Prop}(X:K.In s.heap)(I:ObjM s.heap x dx C mA)
  (hs:PySem.W.findIn K (.ref C) "__setattr__"=some (some (.builtin "object.__setattr__"))) (hp:PySem.W.plainOver K C=true) (ht:PySem.W.takerIn K C name=some none) (hh:PySem.W.hasDictIn K C=true)
  (hw:PySem.Within mA ns) (hsz:ns.length<=sizeLine)
  (h:∀ h',ObjM h' x dx C (fun y=>if y=name then some v else mA y)->Heap.SameBut dx s.heap h'->Q () { s with heap:=h',toks:=s.toks+2 }) :
  wpAny (model prog w) A (setAttr (.ref x) name v) Q E s:=by
 obtain⟨od,J,hl⟩:=I.look;refine PySem.W.set_plain X J hs (PySem.W.osa_open (s:={ s with toks:=s.toks+1 }) (r:=none) X J hp ht fun b=>?_)
 obtain⟨cd,hc,hd'⟩:=PySem.W.any_some hh;have hx:s.heap.get? x=some ⟨.ref C,some dx,.plain,#[]⟩:=I.obj;refine wpAny_bind (wpAny_pure (wpAny_bind (wpAny_bind (wpAny_loadPart hx (wpAny_bind (PySem.W.Looks.here (s:={ s with toks:=s.toks+1 }) (PySem.W.looks_clsIn X hc) ?_))))))
 rw[hd'];refine wpAny_pure (a:=some dx) (wpAny_bind (wpAny_pure (wpAny_bind ?_)));refine wpAny_nsSet1 (s:={ s with toks:=s.toks+1 }) I.ns fun h' hn2 hs2=>?_
 obtain⟨oD,esD,epD,hoD,hdD,hcD⟩:=hn2.count (PySem.Within.cons name v hw);refine wpAny_bind (wpAny_lookBehind hoD (by rw[hdD];exact pastItsLine_dict (zzg hcD (by rw[zzl];omega))) ?_)
 exact wpAny_pure (h _ ⟨(hs2.2 _ (Ne.symm I.ne)).trans I.obj,hn2,I.ne⟩ hs2)
theorem zcu{R:Result->Shared->Prop}{vs:List Value}{kw:List (Str×Value)}(X:K.In s.heap)(hm:PySem.W.makesIn K C=true)
  (hi:PySem.W.findIn K (.ref C) "__init__"=some (some (.ref f))) (hf:PySem.W.typeIn K (.ref f)=some (.type "function"))
  (h:codeAny (model prog w) (A.under (.builtin "type.__call__" ⟨.ref C :: vs,kw⟩)) (.call (.ref f) ⟨.ref (s.heap.objs.size+1) :: vs,kw⟩) (PySem.W.InitBack (s.heap.objs.size+1) R)
   { s with heap:=(s.heap.push PySem.W.emptyDict).push (PySem.W.instObj C s.heap.objs.size) }) :
  codeAny (model prog w) A (.call (.ref C) ⟨vs,kw⟩) R s:=by
 obtain⟨hh,g,d,t,os⟩:=s;exact PySem.W.make_core (PySem.W.makes_of X hm) (PySem.W.looks_findIn X hi) (fun self=>PySem.W.bind_fn X self hf) (.inl rfl) h
end
noncomputable def putF(f:Str)(v:V):List (Str×V)->List (Str×V)
 | []=>[(f,v)]
 | (g,x) :: r=>if g=f then (g,v) :: r else (g,x) :: putF f v r
theorem Mp(f g:Str)(v:V):∀ fs:List (Str×V),(putF f v fs).lookup g=if g=f then some v else fs.lookup g
 | []=>by
   show List.lookup g [(f,v)]=_;by_cases h:g=f
   ·have hb:(g == f)=true:=beq_iff_eq.mpr h
    simp only[List.lookup,hb,if_pos h]
   ·have hb:(g == f)=false:=zzn.mpr h
    simp only[List.lookup,hb,if_neg h]
 | (k,x) :: r=>by
   have ih:=Mp f g v r;rw[show putF f v ((k,x) :: r)=(if k=f then (k,v) :: r else (k,x) :: putF f v r) from rfl]
   by_cases hk:k=f
   ·rw[if_pos hk]
    by_cases h:g=k
    ·have hb:(g == k)=true:=beq_iff_eq.mpr h
     simp only[List.lookup,hb,if_pos (h.trans hk)]
    ·have hb:(g == k)=false:=zzn.mpr h
     simp only[List.lookup,hb,if_neg (fun e:g=f=>h (e.trans hk.symm))]
   ·rw[if_neg hk]
    by_cases h:g=k
    ·have hb:(g == k)=true:=beq_iff_eq.mpr h
     simp only[List.lookup,hb,if_neg (fun e:g=f=>hk (h.symm.trans e))]
    ·have hb:(g == k)=false:=zzn.mpr h
     simp only[List.lookup,hb];exact ih
theorem Nr(f:Str)(v:V):∀ fs:List (Str×V),f∈(putF f v fs).map (·.1)/\∀ g,g∈fs.map (·.1)->g∈(putF f v fs).map (·.1)
 | []=>⟨by simp[putF],fun g h=>by simp at h⟩
 | (k,x) :: r=>by
   obtain⟨i1,i2⟩:=Nr f v r;rw[show putF f v ((k,x) :: r)=(if k=f then (k,v) :: r else (k,x) :: putF f v r) from rfl]
   by_cases hk:k=f
   ·rw[if_pos hk]
    subst hk;exact⟨by simp,fun g h=>by simpa using h⟩
   ·rw[if_neg hk]
    refine⟨?_,fun g h=>?_⟩
    ·rw[zzc]
     exact zzi _ i1
    ·rw[zzc] at h ⊢
     rcases zy8.mp h with e|e
     ·exact zy8.mpr (.inl e)
     ·exact zzi _ (i2 g e)
theorem Mq(f:Str)(v:V):∀ fs:List (Str×V),(putF f v fs).length<=fs.length+1
 | []=>by simp[putF]
 | (k,x) :: r=>by
   have ih:=Mq f v r;rw[show putF f v ((k,x) :: r)=(if k=f then (k,v) :: r else (k,x) :: putF f v r) from rfl]
   by_cases hk:k=f
   ·rw[if_pos hk,zzl,zzl];omega
   ·rw[if_neg hk,zzl,zzl];omega
theorem RelO.some_of{v:V}{o:Option Value}(r:RelO (some v) o):∃ u,o=some u/\RelV v u:=by
 cases o with
 | none=>exact(show False from r).elim
 | some u=>exact⟨u,rfl,r⟩
theorem RelO.none_of{o:Option Value}(r:RelO none o):o=none:=by
 cases o with
 | none=>rfl
 | some u=>exact(show False from r).elim
theorem zay{v:V}{u:Value}(r:RelV v u):PySem.W.handedIn u=true:=by
 cases v with
 | non=>cases (show u=Value.none from r);rfl
 | bl b=>cases (show u=Value.bool b from r);rfl
 | int i=>obtain⟨t,e⟩:=(show ∃ t,u=Value.int i t from r);cases e;rfl
 | str x=>obtain⟨t,e⟩:=(show ∃ t,u=Value.str x t from r);cases e;rfl
 | byt b=>obtain⟨t,e⟩:=(show ∃ t,u=Value.bytes b t from r);cases e;rfl
 | flt b=>obtain⟨t,e⟩:=(show ∃ t,u=Value.float b t from r);cases e;rfl
 | ref a=>cases (show u=Value.ref a from r);rfl
 | ty n=>cases (show u=Value.type n from r);rfl
section
variable{P:Program}{w:World}{H H':Hp}{h h':Heap}{a C dx:Addr}{fs fs':List (Str×V)}
theorem Kb(hok:HOk P w H h)(e:H a=some (.ins C dx fs)):∃ mA,ObjM h a dx C mA/\(∀ f,RelO (fs.lookup f) (mA f))/\PySem.Within mA (fs.map (·.1))/\fs.length<=1000/\H dx=some (.own a):=by
 obtain⟨d,z,ne,ob,mA,n,r,q⟩:=(show Y2 P w H h a (.ins C dx fs) from hok a _ e)
 exact⟨mA,⟨ob,n,ne⟩,r,q,z,d⟩
end
structure Cls(K:PySem.W.Frag)(C:Addr):Prop where
 pg:PySem.W.plainGet K C Str.empty=true
 hd:PySem.W.hasDictIn K C=true
 po:PySem.W.plainOver K C=true
 sa:PySem.W.findIn K (.ref C) "__setattr__"=some (some (.builtin "object.__setattr__"))
theorem Cls.get{K:PySem.W.Frag}{C:Addr}(c:Cls K C)(f:Str):PySem.W.plainGet K C f=true:=c.pg
noncomputable def Xr(K:PySem.W.Frag)(C:Addr)(f:Str):Prop:=PySem.W.findIn K (.ref C) f=some none
theorem Xr.taker{K:PySem.W.Frag}{C:Addr}{f:Str}(n:Xr K C f):PySem.W.takerIn K C f=some none:=by
 unfold PySem.W.takerIn;rw[show PySem.W.findIn K (.ref C) f=some none from n]
 rfl
structure Con(K:PySem.W.Frag)(C:Addr)(f:Str)(v:V)(u:Value):Prop where
 at_:PySem.W.findIn K (.ref C) f=some (some u)
 rel:RelV v u
 get:PySem.W.specialIn K u "__get__"=some none
 cp:PySem.W.copiedNames.contains f=false
structure zcv(K:PySem.W.Frag)(C:Addr)(m:Str)(f:Addr):Prop where
 at_:PySem.W.findIn K (.ref C) m=some (some (.ref f))
 fn:PySem.W.isFn K (.ref f)=true
 kp:PySem.W.keepIn K (.ref f)=true
section
variable{X:Cx}{pins:List (Addr×Obj)}{σ:St}{H:Hp}{s:Shared}{a C dx:Addr}{fs:List (Str×V)}{f:Str}{v:V}{A:Around}{E:Value->Shared->Prop}
theorem C3{b:Bool}{Q:Value->Shared->Prop}(I:Inv X pins σ H s)(e:H a=some (.ins C dx fs))(c:Cls X.K C)(n:Xr X.K C f)(l:fs.lookup f=some v)
  (h:∀ u s',Inv X pins σ H s'->RelV v u->Q u s'):wpAny (model X.prog X.w) A (getAttr (.ref a) f b) Q E s:=by
 obtain⟨mA,O,r,_,_,_⟩:=Kb I.hok e;obtain⟨u,hu,ru⟩:=RelO.some_of (v:=v) (o:=mA f) (by rw[<- l];exact r f)
 exact ze3 I.kIn O (c.get f) c.hd n hu (zay ru) (h u _ (I.tok _) ru)
theorem Kl{m:Str}{g:Addr}{pl:Sem Bool}{Q:Value×List Value->Shared->Prop}(I:Inv X pins σ H s)(e:H a=some (.ins C dx fs))(c:Cls X.K C)(k:zcv X.K C m g)(l:fs.lookup m=none)
  (h:Q (.ref g,[.ref a]) s):wpAny (model X.prog X.w) A (getMethod (.ref a) m pl) Q E s:=by
 obtain⟨mA,O,r,_,_,_⟩:=Kb I.hok e;have hn:mA m=none:=RelO.none_of (by rw[<- l];exact r m)
 exact zct I.kIn O (c.get m) k.at_ k.fn hn h
theorem C4{y:V}{u:Value}{Q:Unit->Shared->Prop}(I:Inv X pins σ H s)(e:H a=some (.ins C dx fs))(c:Cls X.K C)(n:Xr X.K C f)(hl:fs.length<1000)(ry:RelV y u)
  (h:∀ s',Inv X pins σ (upd H a (.ins C dx (putF f y fs))) s'->Q () s'):wpAny (model X.prog X.w) A (setAttr (.ref a) f u) Q E s:=by
 obtain⟨mA,O,r,wi,_,ho⟩:=Kb I.hok e;have hz:(fs.map (·.1)).length<=sizeLine:=by rw[zyz,sizeLine_eq];omega
 refine ze4 I.kIn O c.sa c.po n.taker c.hd wi hz fun h' O' sb=>h _ ?_
 have hd:∃ o,h'.get? dx=some o:=let ⟨o,_,_,e',_⟩:=O'.ns;⟨o,e'⟩
 refine I.write (x:=a) (e:=dx) (by rw[e];exact True.intro) (.inr ho) (fun b q hb z=>(sb.2 b hb).trans z) hd ?_
 refine⟨by rw[Zh O.ne];exact ho,?_,O.ne,O'.obj,_,O'.ns,fun g=>?_,fun g hg=>?_⟩
 ·have:=Mq f y fs;omega
 ·show RelO ((putF f y fs).lookup g) (if g=f then some u else mA g)
  rw[Mp];by_cases q:g=f
  ·rw[if_pos q,if_pos q];exact ry
  ·rw[if_neg q,if_neg q];exact r g
 ·by_cases q:g=f
  ·rw[q];exact(Nr f y fs).1
  ·refine(Nr f y fs).2 g (wi g fun z=>hg ?_)
   show (if g=f then some u else mA g)=none
   rw[if_neg q];exact z
theorem Inv.made(I:Inv X pins σ H s):Inv X pins σ (upd (upd H s.heap.objs.size (.own (s.heap.objs.size+1))) (s.heap.objs.size+1) (.ins C s.heap.objs.size []))
  { s with heap:=(s.heap.push PySem.W.emptyDict).push (PySem.W.instObj C s.heap.objs.size) }:=by
 have e1:(s.heap.push PySem.W.emptyDict).get? s.heap.objs.size=some PySem.W.emptyDict:=Heap.get?_push_size s.heap rfl;have e2:((s.heap.push PySem.W.emptyDict).push (PySem.W.instObj C s.heap.objs.size)).get? (s.heap.objs.size+1)=some (PySem.W.instObj C s.heap.objs.size):=by
  have:=Heap.get?_push_size (s.heap.push PySem.W.emptyDict) (o:=PySem.W.instObj C s.heap.objs.size) rfl
  rwa [Heap.size_push] at this
 have e3:(s.heap.push PySem.W.emptyDict).Ns s.heap.objs.size (fun _=>none):=⟨PySem.W.emptyDict,#[],_,e1,rfl,(fun e he=>absurd he (by simp)),fun _=>rfl⟩
 have I1:=I.laid (a:=s.heap.objs.size) (o:=.own (s.heap.objs.size+1)) (h':=s.heap.push PySem.W.emptyDict) (t':=s.toks) (fun b u q=>Heap.get?_push_of_some _ q) (zza _) ⟨_,e1⟩
 refine I1.laid (a:=s.heap.objs.size+1) (o:=.ins C s.heap.objs.size []) (t':=s.toks) (fun b u q=>Heap.get?_push_of_some _ q) (Nat.le_of_eq (Heap.size_push _ _)) ?_
 have ne:s.heap.objs.size≠s.heap.objs.size+1:=zzr (z05 _);refine⟨by rw[Zh ne,Zb],zzs _,ne,e2,fun _=>none,(Heap.Ns1.of_empty e3).at fun o q=>Heap.get?_push_of_some _ q,fun _=>True.intro,fun y hy=>absurd rfl hy⟩
theorem ze5{prog:Program}{w:World}{env:Env}{e:Expr}{f:Str}{pos:Pos}{s:Shared}{Q:Value->Shared->Prop}(hb:attributeBase e f env (eval e env)=eval e env)
  (h:wpAny (model prog w) A (eval e env) (fun o s₁=>wpAny (model prog w) A (getAttr o f true) Q E s₁) E s):wpAny (model prog w) A (eval (.Attribute e f pos) env) Q E s :=
 Attribute_any_ h (by rw[arm_eval_Attribute,hb])
end
inductive ziz(K:PySem.W.Frag)(f:Str)(Q:VK)(x:V)(H1:Hp):Prop where
 | mk(a)(C)(dx)(fs)(v)(_:x=.ref a)(_:H1 a=some (.ins C dx fs))(_:Cls K C)(_:Xr K C f)(_:fs.lookup f=some v)(_:Q v H1)
noncomputable def zi0(K:PySem.W.Frag)(ta:TE)(f:Str):TE:=fun σ H Q=>ta σ H fun x H1=>ziz K f Q x H1
inductive zi1(K:PySem.W.Frag)(f:Str)(D:T9)(σ:L2.St)(y:V)(x:V)(H2:Hp):Prop where
 | mk(a)(C)(dx)(fs)(_:x=.ref a)(_:H2 a=some (.ins C dx fs))(_:Cls K C)(_:Xr K C f)(_:fs.length<1000)(_:D.nx σ (upd H2 a (.ins C dx (putF f y fs))))
noncomputable def zi2(K:PySem.W.Frag)(ta tv:TE)(f:Str):TS:=fun D σ H=>tv σ H fun y H1=>ta σ H1 fun x H2=>zi1 K f D σ y x H2
section
variable{X:Cx}{o e value:Expr}{f:Str}{pos pos' tpos:Pos}{ta tv:TE}
theorem zha(he:PE X e ta)(hb:attributeBase e f X.env (eval e X.env)=eval e X.env):PE X (.Attribute e f pos) (zi0 X.K ta f):=by
 intro pins s σ H Q I h;refine ze5 hb (thn (he pins s σ H _ I h) fun u s1 ⟨x,H1,I1,rx,a,C,dx,fs,v,ex,ea,c,n,l,q⟩=>?_)
 subst ex;obtain rfl:u=Value.ref a:=rx;exact C3 I1 ea c n l fun u' s2 I2 ru=>⟨v,H1,I2,ru,q⟩
theorem zhb(ha:PE X o ta)(hv:PE X value tv)(hs:swapsWith value (some (.Attribute o f pos')) pos.line X.env=pure false):PS X (.Assign [.Attribute o f pos'] value pos) (zi2 X.K ta tv f):=by
 intro pins s σ H D I h;refine plainObj_wpAny_Assign_Attribute (thn (hv pins s σ H _ I h) fun u s1 ⟨y,H1,I1,ry,q⟩=>thn (ha pins s1 σ H1 _ I1 q) fun ov s2 ⟨x,H2,I2,rx,a,C,dx,fs,ex,ea,c,n,l,q2⟩=>?_) hs
 subst ex;obtain rfl:ov=Value.ref a:=rx;exact C4 I2 ea c n l ry fun s3 I3=>⟨σ,_,I3,q2⟩
end
section
variable{X:Cx}{pins:List (Addr×Obj)}{σ:St}{H:Hp}{s:Shared}{A:Around}{E:Value->Shared->Prop}{Q:Value->Shared->Prop}{c:Value}{b:Bool}
inductive Nt(K:PySem.W.Frag)(H:Hp):V->Value->Prop where
 | non:Nt K H .non (.type "NoneType")
 | bl (x:Bool):Nt K H (.bl x) (.type "bool")
 | int (i:Int):Nt K H (.int i) (.type "int")
 | str (x:Str):Nt K H (.str x) (.type "str")
 | flt (x:UInt64):Nt K H (.flt x) (.type "float")
 | lst {a:Addr} {xs:List V} (e:H a=some (.lst xs)):Nt K H (.ref a) (.type "list")
 | frz {a:Addr} {o:Obj} {xs:List V} (e:H a=some (.frz o (.lst xs))):Nt K H (.ref a) (.type "list")
 | tup {a:Addr} {xs:List V} (e:H a=some (.tup xs)):Nt K H (.ref a) (.type "tuple")
 | dK {a:Addr} {kvs:List (Key×V)} (e:H a=some (.dK kvs)):Nt K H (.ref a) (.type "dict")
 | dT {a:Addr} {kvs:List (List Key×V)} (e:H a=some (.dT kvs)):Nt K H (.ref a) (.type "dict")
 | ins {a C dx:Addr} {fs:List (Str×V)} (e:H a=some (.ins C dx fs)) (cl:Cls K C) (ha:PySem.W.findIn K (.ref C) "__class__"=some (some (.builtin "object.__class__")))
   (hn:PySem.W.specialIn K (.builtin "object.__class__") "__get__"=some (some (.builtin "getset_descriptor.__get__"))) (htk:PySem.W.takesIn K (.builtin "object.__class__")=some true)
   (hm:PySem.W.mroIn K C (.type "object")=some true):Nt K H (.ref a) (.ref C)
theorem zaz{x:V}{u t:Value}(I:Inv X pins σ H s)(rx:RelV x u)(ty:Nt X.K H x t)(e:PySem.W.kitOne X.K t c=some b)(h:∀ tk,Q (.bool b) { s with toks:=tk }) :
  wpAny (model X.prog X.w) A (call (.builtin "isinstance") [u,c]) Q E s:=by
 cases ty with
 | non=>cases (show u=Value.none from rx);exact PySem.W.kia_one PySem.W.kitx_none I.kIn True.intro e (fun z=>nomatch z) h
 | bl y=>cases (show u=Value.bool y from rx);exact PySem.W.kia_one PySem.W.kitx_bool I.kIn True.intro e (fun z=>nomatch z) h
 | int i=>obtain⟨t,q⟩:=(show ∃ t,u=Value.int i t from rx);cases q;exact PySem.W.kia_one PySem.W.kitx_int I.kIn True.intro e (fun z=>nomatch z) h
 | str y=>obtain⟨t,q⟩:=(show ∃ t,u=Value.str y t from rx);cases q;exact PySem.W.kia_one PySem.W.kitx_str I.kIn True.intro e (fun z=>nomatch z) h
 | flt y=>obtain⟨t,q⟩:=(show ∃ t,u=Value.float y t from rx);cases q;exact PySem.W.kia_one PySem.W.kitx_float I.kIn True.intro e (fun z=>nomatch z) h
 | @lst a xs ea =>
   cases (show u=Value.ref a from rx)
   obtain⟨_,_,n,_,h1⟩:=(show Y2 X.prog X.w H s.heap a (.lst xs) from I.hok a _ ea)
   exact PySem.W.kia_one PySem.W.kitx_list I.kIn ⟨_,h1,rfl⟩ e (fun z=>nomatch z) h
 | @frz a ob xs ea =>
   cases (show u=Value.ref a from rx)
   obtain⟨_,_,_,n,_,h1⟩:=(show Y2 X.prog X.w H s.heap a (.frz ob (.lst xs)) from I.hok a _ ea)
   exact PySem.W.kia_one PySem.W.kitx_list I.kIn ⟨_,h1,rfl⟩ e (fun z=>nomatch z) h
 | @tup a xs ea =>
   cases (show u=Value.ref a from rx)
   obtain⟨_,_,_,p⟩:=(show Y2 X.prog X.w H s.heap a (.tup xs) from I.hok a _ ea)
   obtain⟨o,h1,h2,_⟩:=p;exact PySem.W.kia_one PySem.W.kitx_tuple I.kIn ⟨o,h1,h2⟩ e (fun z=>nomatch z) h
 | @dK a kvs ea =>
   cases (show u=Value.ref a from rx)
   obtain⟨_,_,vs,_,p⟩:=(show Y2 X.prog X.w H s.heap a (.dK kvs) from I.hok a _ ea)
   obtain⟨o,es,ep,h1,h2,_⟩:=p;exact PySem.W.kia_one PySem.W.kitx_dict I.kIn ⟨o,h1,h2.1⟩ e (fun z=>nomatch z) h
 | @dT a kvs ea =>
   cases (show u=Value.ref a from rx)
   obtain⟨_,_,xs,_,o,es,ep,h1,h2,_⟩:=(show Y2 X.prog X.w H s.heap a (.dT kvs) from I.hok a _ ea)
   exact PySem.W.kia_one PySem.W.kitx_dict I.kIn ⟨o,h1,h2.1⟩ e (fun z=>nomatch z) h
 | @ins a C dx fs ea cl ha hn htk hm =>
   cases (show u=Value.ref a from rx)
   obtain⟨mA,O,_⟩:=Kb I.hok ea;obtain⟨od,J,_⟩:=O.look;exact PySem.W.kia_one (PySem.W.kitx_own (cl.get _) cl.hd ha hn htk hm) I.kIn J e (fun z=>nomatch z) h
end
structure W4(k:Nat)(A:Around):Prop where
 hd:A.handled=none
 dp:A.depth+3*k+5<recursionLimit
 un:A.units+16*k+200<cLine
theorem W4.mono{j k:Nat}{A:Around}(r:W4 k A)(h:j<=k):W4 j A:=⟨r.hd,by have:=r.dp;omega,by have:=r.un;omega⟩
theorem W4.deeper{k:Nat}{A:Around}(r:W4 (k+1) A)(env:Env):W4 k (A.deeper env) :=
 ⟨r.hd,by have:=r.dp;show A.depth+1+3*k+5<_;omega,by have:=r.un;show A.units+3+16*k+200<_;omega⟩
theorem C5{A:Around}{C:Addr}{us:List Value}{kw:List (Str×Value)}:(A.under (.builtin "type.__call__" ⟨.ref C :: us,kw⟩)).depth=A.depth+1:=by
 first|rfl|simp[Around.under,Code.weight,Code.isCreation,Code.isGuard,Code.isCaller,Code.frames,Code.isFrame,guardIds]
theorem C6{A:Around}{C:Addr}{us:List Value}{kw:List (Str×Value)}:(A.under (.builtin "type.__call__" ⟨.ref C :: us,kw⟩)).units=A.units+1:=by
 first|rfl|simp[Around.under,Code.cUnits,Code.frames,Code.isFrame]
theorem W4.make{k:Nat}{A:Around}(r:W4 (k+1) A)(C:Addr)(us:List Value)(kw:List (Str×Value)):W4 k (A.under (.builtin "type.__call__" ⟨.ref C :: us,kw⟩)) :=
 ⟨r.hd,by have:=r.dp;rw[C5];omega,by have:=r.un;rw[C6];omega⟩
theorem W4.depth{k:Nat}{A:Around}(r:W4 k A):A.depth<recursionLimit:=by have:=r.dp;omega
theorem W4.units{k:Nat}{A:Around}(r:W4 k A):A.units+64<cLine:=by have:=r.un;omega
noncomputable def C7:TA:=fun _ H Q=>Q [] H
noncomputable def zgm(ta:TE)(tr:TA):TA:=fun σ H Q=>ta σ H fun x H1=>tr σ H1 fun xs H2=>Q (x :: xs) H2
section
variable{X:Cx}{e:Expr}{es:List Expr}{te:TE}{t:TA}{pos:Pos}
theorem Zd:PA X [] C7:=fun _ _ _ _ H Q I h=>Calls.spliced_nil ⟨[],H,I,.nil,h⟩
theorem Za(ha:PE X e te)(hr:PA X es t)(hs:starEach (e :: es) X.env=(false,eval e X.env) :: starEach es X.env:=by rfl):PA X (e :: es) (zgm te t):=by
 intro pos pins s σ H Q I h;rw[hs];show wpAny _ _ (spliced ((false,eval e X.env) :: backTo pos (starEach es X.env))) _ _ s;refine Calls.spliced_cons (thn (ha pins s σ H _ I h) fun u s1 ⟨x,H1,I1,r1,q1⟩=>?_)
 exact thn (hr pos pins s1 σ H1 _ I1 q1) fun us s2 ⟨xs,H2,I2,r2,q2⟩=>⟨x :: xs,H2,I2,.cons r1 r2,q2⟩
inductive zi3(Q:VK)(xs:List V)(H1:Hp):Prop where
 | mk(_:xs.length<=sizeLine)(_:∀ p,H1 p=none->Q (.ref p) (upd H1 p (.tup xs)))
noncomputable def zj3(t:TA):TE:=fun σ H Q=>t σ H fun xs H1=>zi3 Q xs H1
inductive zi4(Q:VK)(xs:List V)(H1:Hp):Prop where
 | mk(_:xs.length<=sizeLine)(_:∀ p,H1 p=none->Q (.ref p) (upd H1 p (.lst xs)))
noncomputable def C8(t:TA):TE:=fun σ H Q=>t σ H fun xs H1=>zi4 Q xs H1
theorem Yd{x1}(h:PA X es t):PE X (.Tuple es x1 pos) (zj3 t):=by
 intro pins s σ H Q I hq;refine wpAny_Tuple_spliced (thn (h pos pins s σ H _ I hq) fun us s1 ⟨xs,H1,I1,r,z,q⟩=>⟨by rw[<- r.length];exact z,?_⟩)
 have hf:H1 s1.heap.objs.size=none:=I1.hok.fresh (zza _);refine⟨.ref s1.heap.objs.size,upd H1 s1.heap.objs.size (.tup xs),I1.laid (t':=s1.toks) (fun b u e=>Heap.get?_push_of_some _ e) (zza _) ?_,rfl,q _ hf⟩
 exact⟨z,us,r,⟨_,Heap.get?_push_size _ rfl,rfl,_,rfl⟩⟩
theorem Ya(h:PA X es t):PE X (.List es pos) (C8 t):=by
 intro pins s σ H Q I hq;refine wpAny_List_spliced (thn (h pos pins s σ H _ I hq) fun us s1 ⟨xs,H1,I1,r,z,q⟩=>⟨by rw[<- r.length];exact z,?_⟩)
 have hf:H1 s1.heap.objs.size=none:=I1.hok.fresh (zza _);refine⟨.ref s1.heap.objs.size,upd H1 s1.heap.objs.size (.lst xs),I1.laid (t':=s1.toks) (fun b u e=>Heap.get?_push_of_some _ e) (zza _) ?_,rfl,q _ hf⟩
 exact⟨z,us,0,r,Heap.get?_push_size _ rfl⟩
end
noncomputable abbrev Sp:=List V->Hp->VK->XK->Prop
noncomputable abbrev CXT:=List Env->Hp->Shared->XK->Value->Shared->Prop
structure C9(P:Program)(w:World)(K:PySem.W.Frag)(mg:Str->Option Value)(base:Heap)(A:Around)(outer:List Env)(s:Shared)(H:Hp):Prop where
 frames:A.frames=some outer
 mod:Mod K mg base
 bs:∀ b o,base.get? b=some o->s.heap.get? b=some o/\H b=none
 bsz:base.objs.size<=s.heap.objs.size
 funs:s.heap.FunFrames base outer
 frf:∀ b∈frs outer,H b=none
 hok:HOk P w H s.heap
 bare:AllBare s.gens
noncomputable def CE(outer:List Env)(P:Program)(w:World)(H:Hp)(s:Shared)(Q:VK)(u:Value)(s':Shared):Prop :=
 ∃ v H',s'.os=s.os/\AllBare s'.gens/\Un (frs outer) [] H H' s.heap s'.heap/\HOk P w H' s'.heap/\RelV v u/\Q v H'
noncomputable def CR(CX:CXT)(outer:List Env)(P:Program)(w:World)(H:Hp)(s:Shared)(Q:VK)(E:XK)(r:Result)(s':Shared):Prop :=
 match r with
 | .ok (.ret u)=>CE outer P w H s Q u s'
 | .ok _=>False
 | .error e=>CX outer H s E e s'
structure Z3(P:Program)(w:World)(K:PySem.W.Frag)(mg:Str->Option Value)(base:Heap)(CX:CXT)(k:Nat)(f:Addr)(fd:FuncData)(ps:List Str)(sp:Sp):Prop where
 len:∀ vs H Q E,sp vs H Q E->vs.length=ps.length
 run:∀ (A:Around) (outer:List Env) (s:Shared) (H:Hp) (args:Args) (us:List Value) (vs:List V) (Q:VK) (E:XK),W4 k A->C9 P w K mg base A outer s H->BindsTo s fd args (ps.zip us)->Vals vs us->sp vs H Q E ->
  codeAny (model P w) A (.call (.ref f) args) (CR CX outer P w H s Q E) s
theorem C9.make{P:Program}{w:World}{K:PySem.W.Frag}{mg:Str->Option Value}{base:Heap}{A:Around}{outer:List Env}{s:Shared}{H:Hp}(e:C9 P w K mg base A outer s H)(C:Addr)(us:List Value)(kw:List (Str×Value)) :
  C9 P w K mg base (A.under (.builtin "type.__call__" ⟨.ref C :: us,kw⟩)) outer s H:=⟨by first|exact e.frames|(simpa [Around.under,Code.envs,Code.isFrame,pushEnvs] using e.frames),e.mod,e.bs,e.bsz,e.funs,e.frf,e.hok,e.bare⟩
section
variable{X:Cx}{pins:List (Addr×Obj)}{σ:St}{H:Hp}{s s':Shared}
theorem Inv.env0(I:Inv X pins σ H s):C9 X.prog X.w X.K X.mg X.base X.A X.stack s H :=
 ⟨I.ok.frames,I.ok.mod,I.bs,zzg I.ok.bsz I.sz,I.stack,I.stkFree,I.hok,I.bare⟩
theorem Inv.after{Q:VK}{u:Value}(I:Inv X pins σ H s)(h:CE X.stack X.prog X.w H s Q u s'):EP X pins σ Q u s':=by
 obtain⟨v,H',os,bare,un,hok,r,q⟩:=h;obtain⟨hh,g,d,t,os'⟩:=s';obtain rfl:os'=s.os:=os;exact⟨v,H',I.call (h':=hh) (g':=g) (d':=d) (t':=t) (ch:=[]) un hok bare (fun b z=>absurd z (by simp)),r,q⟩
end
noncomputable def zcw(sp:Sp)(dvs:List V)(E:XK)(t:TA):TE:=fun σ H Q=>t σ H fun vs H1=>sp (vs++dvs) H1 Q E
inductive zhc(C:Addr)(m:Str)(sp:Sp)(dvs:List V)(E:XK)(t:TA)(σ:L2.St)(Q:VK)(x:V)(H1:Hp):Prop where
 | mk(a)(dx)(fs)(_:x=.ref a)(_:H1 a=some (.ins C dx fs))(_:fs.lookup m=none)(_:t σ H1 fun vs H2=>sp (x :: (vs++dvs)) H2 Q E)
noncomputable def Aj(C:Addr)(m:Str)(sp:Sp)(dvs:List V)(E:XK)(ta:TE)(t:TA):TE:=fun σ H Q=>ta σ H fun x H1=>zhc C m sp dvs E t σ Q x H1
noncomputable def Ak(C:Addr)(sp:Sp)(dvs:List V)(E:XK)(t:TA):TE:=fun σ H Q=>t σ H fun vs H1=>∀ x dx,H1 x=none->H1 dx=none->dx≠x ->
 sp (.ref x :: (vs++dvs)) (upd (upd H1 dx (.own x)) x (.ins C dx [])) (fun v H2=>v=.non/\Q (.ref x) H2) E
noncomputable def Sh(K:PySem.W.Frag)(fd:FuncData)(ps:List Str)(ds:List Value):Prop :=
 ∀ (s:Shared) (us:List Value),K.In s.heap->(us++ds).length=ps.length->BindsTo s fd ⟨us,[]⟩ (ps.zip (us++ds))
theorem Sh.all{K:PySem.W.Frag}{fd:FuncData}{ps:List Str}(h:∀ us:List Value,us.length=ps.length->bindArgs fd ⟨us,[]⟩=pure (ps.zip us)):Sh K fd ps []:=fun s us _ hl=>by
 rw[z1a] at hl ⊢
 exact .of_eq (h us hl)
noncomputable def Va(CX:CXT)(X:Cx)(E:XK):Prop:=∀ (pins:List (Addr×Obj)) (σ:St) (H:Hp) (s:Shared) (e:Value) (s':Shared),Inv X pins σ H s->CX X.stack H s E e s'->X.xe e s'
section
variable{X:Cx}{CX:CXT}{k:Nat}{f C:Addr}{fd:FuncData}{ps:List Str}{sp:Sp}{dvs:List V}{ds:List Value}{E:XK}{x m:Str}{p pos apos:Pos}{e o:Expr}{es:List Expr}{ta:TE}{t:TA}
theorem Ba{pins:List (Addr×Obj)}{σ:St}{H:Hp}{s:Shared}{Q:VK}{us:List Value}{vs:List V}(F:Z3 X.prog X.w X.K X.mg X.base CX k f fd ps sp)(hr:W4 k X.A)(hb:Sh X.K fd ps ds)(hd:Vals dvs ds)(hx:Va CX X E)
  (I:Inv X pins σ H s) (r:Vals vs us) (h:sp (vs++dvs) H Q E):wpAny (model X.prog X.w) X.A (call (.ref f) us) (EP X pins σ Q) X.xe s:=by
 have r2:Vals (vs++dvs) (us++ds):=r.append hd;have hl:(us++ds).length=ps.length:=by rw[<- r2.length];exact F.len _ _ _ _ h
 refine wpAny_call (codeAny_mono (F.run X.A X.stack s H ⟨us,[]⟩ (us++ds) (vs++dvs) Q E hr I.env0 (hb s us I.kIn hl) r2 h) fun r s' hq=>?_)
 cases r with
 | error e=>exact hx pins σ H s e s' I hq
 | ok fl =>
   cases fl with
   | ret u=>exact I.after hq
   | next=>exact False.elim hq
   | brk=>exact False.elim hq
   | cont=>exact False.elim hq
theorem ze6(F:Z3 X.prog X.w X.K X.mg X.base CX k f fd ps sp)(hr:W4 k X.A)(hg:Gl X x)(hm:X.mg x=some (.ref f))(hk:PySem.W.keepIn X.K (.ref f)=true)(hb:Sh X.K fd ps ds)(hd:Vals dvs ds)(hx:Va CX X E)
  (ha:PA X (e :: es) t) (hdb:(x == ("__debug__":Str))=false:=by decide) (he:starEach (e :: es) X.env=(false,eval e X.env) :: starEach es X.env:=by rfl) (hpl:(backTo pos (starEach es X.env)).any (·.1)=false:=by rfl) :
  PE X (.Call (.Name x p) (e :: es) [] pos) (zcw sp dvs E t):=by
 intro pins s σ H Q I h;refine wpAny_Call_Name_kw (Oq I hg hm ?_ hdb);refine PySem.W.callWith_K (h₀:=X.base) I.ok.mod.kin hk (thn (ha pos pins s σ H _ I h) fun us s1 ⟨vs,H1,I1,r,q⟩=>⟨I1.kIn,?_⟩) he hpl
 exact Ba F hr hb hd hx I1 r q
theorem ze7{pl:Sem Bool}(he:PE X o ta)(c:Cls X.K C)(hm:zcv X.K C m f)(F:Z3 X.prog X.w X.K X.mg X.base CX k f fd ps sp)(hr:W4 k X.A)(hb:Sh X.K fd ps ds)(hd:Vals dvs ds)(hx:Va CX X E)(ha:PA X (e :: es) t)
  (hst:starEach (e :: es) X.env=(false,eval e X.env) :: starEach es X.env:=by rfl) (hpl:(backTo pos (starEach es X.env)).any (·.1)=false:=by rfl)
  (ht:eval (.Call (.Attribute o m apos) (e :: es) [] pos) X.env=(do
   let ov <- eval o X.env
   standAt apos.atName
   let (f,first) <- holding [ov] (getMethod ov m pl)
   callWith pos f first (backTo pos (starEach (e :: es) X.env)) (backToKw pos (keywordEach [] X.env))):=by rfl) :
  PE X (.Call (.Attribute o m apos) (e :: es) [] pos) (Aj C m sp dvs E ta t):=by
 intro pins s σ H Q I h;refine PySem.W.methodCall_KW (pl:=pl) (thn (he pins s σ H _ I h) fun u s1 ⟨x,H1,I1,rx,a,dx,fs,ex,ea,l,q⟩=>?_) ht
 subst ex;obtain rfl:u=Value.ref a:=rx;refine Kl I1 ea c hm l ?_;refine PySem.W.callWith_K (first:=[.ref a]) (h₀:=X.base) I.ok.mod.kin hm.kp (thn (ha pos pins s1 σ H1 _ I1 q) fun us s2 ⟨vs,H2,I2,r,q2⟩=>⟨I2.kIn,?_⟩) hst hpl
 exact Ba (us:=.ref a :: us) (vs:=.ref a :: vs) F hr hb hd hx I2 (.cons rfl r) q2
theorem zcx{pl:Sem Bool}(he:PE X o ta)(c:Cls X.K C)(hm:zcv X.K C m f)(F:Z3 X.prog X.w X.K X.mg X.base CX k f fd ps sp)(hr:W4 k X.A)(hb:Sh X.K fd ps ds)(hd:Vals dvs ds)(hx:Va CX X E)
  (ht:eval (.Call (.Attribute o m apos) [] [] pos) X.env=(do
   let ov <- eval o X.env
   standAt apos.atName
   let (f,first) <- holding [ov] (getMethod ov m pl)
   callWith pos f first (backTo pos (starEach [] X.env)) (backToKw pos (keywordEach [] X.env))):=by rfl) :
  PE X (.Call (.Attribute o m apos) [] [] pos) (Aj C m sp dvs E ta C7):=by
 intro pins s σ H Q I h;refine PySem.W.methodCall_KW (pl:=pl) (thn (he pins s σ H _ I h) fun u s1 ⟨x,H1,I1,rx,a,dx,fs,ex,ea,l,q⟩=>?_) ht
 subst ex;obtain rfl:u=Value.ref a:=rx;refine Kl I1 ea c hm l ?_;exact PySem.W.callWith_K0 (first:=[.ref a]) I1.kIn hm.kp (Ba (us:=[.ref a]) (vs:=[.ref a]) F hr hb hd hx I1 (.cons rfl .nil) q)
structure Mk(K:PySem.W.Frag)(C f:Addr):Prop where
 makes:PySem.W.makesIn K C=true
 init:PySem.W.findIn K (.ref C) "__init__"=some (some (.ref f))
 fn:PySem.W.isFn K (.ref f)=true
 kp:PySem.W.keepIn K (.ref C)=true
theorem Ep{pins:List (Addr×Obj)}{σ:St}{H:Hp}{s:Shared}{Q:VK}{us:List Value}{vs:List V}(M:Mk X.K C f)(F:Z3 X.prog X.w X.K X.mg X.base CX k f fd ps sp)(hr:W4 (k+1) X.A)(hb:Sh X.K fd ps ds)(hd:Vals dvs ds)
  (hx:Va CX X E) (I:Inv X pins σ H s) (r:Vals vs us)
  (h:∀ x dx,H x=none->H dx=none->dx≠x->sp (.ref x :: (vs++dvs)) (upd (upd H dx (.own x)) x (.ins C dx [])) (fun v H2=>v=.non/\Q (.ref x) H2) E) :
  wpAny (model X.prog X.w) X.A (call (.ref C) us) (EP X pins σ Q) X.xe s:=by
 have hq:=h (s.heap.objs.size+1) s.heap.objs.size (I.hok.fresh (Nat.le_succ _)) (I.hok.fresh (zza _)) (zzr (z05 _));have I2:=Inv.made (C:=C) I;have r2:Vals (V.ref (s.heap.objs.size+1) :: (vs++dvs)) (Value.ref (s.heap.objs.size+1) :: (us++ds)):=.cons rfl (r.append hd);have hl:(Value.ref (s.heap.objs.size+1) :: us++ds).length=ps.length:=by
  have e:=r2.length;rw[F.len _ _ _ _ hq] at e
  exact e.symm
 refine wpAny_call (zcu (f:=f) I.kIn M.makes M.init (beq_iff_eq.mp M.fn) (codeAny_mono (F.run _ X.stack _ _ ⟨Value.ref (s.heap.objs.size+1) :: us,[]⟩ (Value.ref (s.heap.objs.size+1) :: (us++ds)) _ _ E (hr.make C us [])
  (I2.env0.make C us []) (hb _ (Value.ref (s.heap.objs.size+1) :: us) I2.kIn hl) r2 hq) fun r s' hq'=>?_))
 cases r with
 | error e=>exact hx pins σ _ _ e s' I2 hq'
 | ok fl =>
   cases fl with
   | ret u =>
     obtain⟨v,H',I3,rv,ev,q3⟩:=I2.after hq';subst ev;exact⟨rv,⟨V.ref (s.heap.objs.size+1),H',I3,rfl,q3⟩⟩
   | next=>exact False.elim hq'
   | brk=>exact False.elim hq'
   | cont=>exact False.elim hq'
theorem ze8(M:Mk X.K C f)(F:Z3 X.prog X.w X.K X.mg X.base CX k f fd ps sp)(hr:W4 (k+1) X.A)(hg:Gl X x)(hm:X.mg x=some (.ref C))(hb:Sh X.K fd ps ds)(hd:Vals dvs ds)(hx:Va CX X E)
  (ha:PA X (e :: es) t) (hdb:(x == ("__debug__":Str))=false:=by decide) (he:starEach (e :: es) X.env=(false,eval e X.env) :: starEach es X.env:=by rfl) (hpl:(backTo pos (starEach es X.env)).any (·.1)=false:=by rfl) :
  PE X (.Call (.Name x p) (e :: es) [] pos) (Ak C sp dvs E t):=by
 intro pins s σ H Q I h;refine wpAny_Call_Name_kw (Oq I hg hm ?_ hdb);refine PySem.W.callWith_K (h₀:=X.base) I.ok.mod.kin M.kp (thn (ha pos pins s σ H _ I h) fun us s1 ⟨vs,H1,I1,r,q⟩=>⟨I1.kIn,?_⟩) he hpl
 exact Ep M F hr hb hd hx I1 r q
theorem zcy(M:Mk X.K C f)(F:Z3 X.prog X.w X.K X.mg X.base CX k f fd ps sp)(hr:W4 (k+1) X.A)(hg:Gl X x)(hm:X.mg x=some (.ref C))(hb:Sh X.K fd ps ds)(hd:Vals dvs ds)(hx:Va CX X E)
  (hdb:(x == ("__debug__":Str))=false:=by decide):PE X (.Call (.Name x p) [] [] pos) (Ak C sp dvs E C7):=by
 intro pins s σ H Q I h;refine wpAny_Call_Name_kw (Oq I hg hm ?_ hdb);exact PySem.W.callWith_K0 I.kIn M.kp (Ep (us:=[]) M F hr hb hd hx I .nil h)
end
section
variable{X:Cx}{CX:CXT}{k:Nat}{f C:Addr}{fd:FuncData}{ps ks:List Str}{sp:Sp}{E:XK}{x m:Str}{p pos apos kpos:Pos}{e o:Expr}{es:List Expr}{kws:List Keyword}{te ta:TE}{t tk:TA}{nm:Option Str}
structure zj4(K:PySem.W.Frag)(fd:FuncData)(ps ks:List Str)(g:List Value->List Value->List Value)(gV:List V->List V->List V):Prop where
 to:∀ (s:Shared) (us ws:List Value),K.In s.heap->(g us ws).length=ps.length->BindsTo s fd ⟨us,ks.zip ws⟩ (ps.zip (g us ws))
 rel:∀ {vs:List V} {us:List Value} {zs:List V} {ws:List Value},Vals vs us->Vals zs ws->Vals (gV vs zs) (g us ws)
variable{g:List Value->List Value->List Value}{gV:List V->List V->List V}
end
structure Zl(N P:List Str)(sc:Scope):Prop where
 kind:sc.kind=.function
 co:sc.isCoroutine=false
 gen:sc.isGenerator=false
 nd:N.Nodup
 pre:N.take P.length=P
 par:∀ x∈P,sc.names.lookup x=some .local\/sc.names.lookup x=some .cell
 nofree:∀ y∈sc.names,y.2≠.free
theorem Hv{kindOf:Str->Option NameKind}{x:Str}:∀ {binds:List (Str×Value)} {m:Str->Option Value},(∀ v,(x,v)∉binds)->bindL kindOf binds m x=m x
 | [],_,_=>rfl
 | (n,v) :: r,m,h=>by
   unfold bindL;rw[Hv fun w hw=>h w (zzi _ hw)]
   split
   ·have:x≠n:=by rintro rfl;exact h v zzt
    simp[this]
   ·rfl
theorem Hw{kindOf:Str->Option NameKind}{x:Str}:∀ {binds:List (Str×Value)} {m:Str->Option Value},(∀ v,(x,v)∉binds)->bindC kindOf binds m x=m x
 | [],_,_=>rfl
 | (n,v) :: r,m,h=>by
   unfold bindC;rw[Hw fun w hw=>h w (zzi _ hw)]
   split
   ·rfl
   ·have:x≠n:=by rintro rfl;exact h v zzt
    simp[this]
theorem Hy{kindOf:Str->Option NameKind}{x:Str}{v:Value}:∀ {P:List Str} {vs:List Value} {i:Nat} {m:Str->Option Value},P.Nodup->P[i]?=some x->vs[i]?=some v->kindOf x=some .local ->
  bindL kindOf (P.zip vs) m x=some v
 | [],_,_,_,_,h,_,_=>by simp at h
 | _ :: _,[],_,_,_,_,h,_=>by simp at h
 | p :: P,w :: vs,0,m,nd,h1,h2,hk=>by
   simp at h1 h2;subst h1;subst h2
   show bindL kindOf ((p,w) :: P.zip vs) m p=_;unfold bindL;rw[Hv fun v hv=>(zzo.mp nd).1 (List.of_mem_zip hv).1,if_pos hk]
   simp
 | p :: P,w :: vs,i+1,m,nd,h1,h2,hk=>by
   show bindL kindOf ((p,w) :: P.zip vs) m x=_;unfold bindL;exact Hy (i:=i) (zzo.mp nd).2 (by simpa using h1) (by simpa using h2) hk
theorem Hz{kindOf:Str->Option NameKind}{x:Str}{v:Value}:∀ {P:List Str} {vs:List Value} {i:Nat} {m:Str->Option Value},P.Nodup->P[i]?=some x->vs[i]?=some v->kindOf x≠some .local ->
  bindC kindOf (P.zip vs) m x=some v
 | [],_,_,_,_,h,_,_=>by simp at h
 | _ :: _,[],_,_,_,_,h,_=>by simp at h
 | p :: P,w :: vs,0,m,nd,h1,h2,hk=>by
   simp at h1 h2;subst h1;subst h2
   show bindC kindOf ((p,w) :: P.zip vs) m p=_;unfold bindC;rw[Hw fun v hv=>(zzo.mp nd).1 (List.of_mem_zip hv).1,if_neg hk]
   simp
 | p :: P,w :: vs,i+1,m,nd,h1,h2,hk=>by
   show bindC kindOf ((p,w) :: P.zip vs) m x=_;unfold bindC;exact Hz (i:=i) (zzo.mp nd).2 (by simpa using h1) (by simpa using h2) hk
noncomputable def Mr(N:List Str)(vs:List V):St:=vs.map some++List.replicate (N.length-vs.length) none
noncomputable def cxOf(CX:CXT)(P:Program)(w:World)(K:PySem.W.Frag)(mg:Str->Option Value)(base:Heap)(N:List Str)(qual:Str)(scope:Scope)(f:Addr)(cd:Value)(A:Around)(outer:List Env)(s:Shared)(H:Hp)(E:XK):Cx where
 prog:=P
 w:=w
 K:=K
 mg:=mg
 base:=base
 A:=A.deeper (envOfC qual scope s.heap.objs.size f cd)
 N:=N
 s₀:=s
 H₀:=H
 env:=envOfC qual scope s.heap.objs.size f cd
 outer:=outer
 stack:=envOfC qual scope s.heap.objs.size f cd :: outer
 ex:=[]
 calm:=true
 fn:=fun _=>true
 pn:=[]
 xe:=fun e s'=>wpAny (model P w) (A.deeper (envOfC qual scope s.heap.objs.size f cd)) (leaving (envOfC qual scope s.heap.objs.size f cd) e) (fun _ s''=>CX outer H s E e s'') (fun e' s''=>CX outer H s E e' s'') s'
theorem Er{sc:Scope}{n:Nat}{x:Str}(h:sc.names.lookup x=some .cell):∃ c,(cellsFrom n sc.names []).lookup x=some c:=by
 have q:=PySem.W.cellsFrom_some sc.names n [] (.inl h);exact z0d.mp q
theorem za0{CX:CXT}{P:Program}{w:World}{K:PySem.W.Frag}{mg:Str->Option Value}{base:Heap}{N ps:List Str}{qual:Str}{scope:Scope}{f:Addr}{cd:Value}{A:Around}{outer:List Env}{s s1:Shared}{H:Hp}{E:XK}{us:List Value}{vs:List V}
  (S:Zl N ps scope) (hd:A.handled=none) (e0:C9 P w K mg base A outer s H) (hl:vs.length=ps.length) (r:Vals vs us)
  (x:InCallC s s.heap.objs.size (bindL (envOfC qual scope s.heap.objs.size f cd).kindOf (ps.zip us) fun _=>none) (cellsFrom (s.heap.objs.size+1) scope.names []) (bindC (envOfC qual scope s.heap.objs.size f cd).kindOf (ps.zip us) fun _=>none) s1) :
  Inv (cxOf CX P w K mg base N qual scope f cd A outer s H E) [] (Mr N vs) H s1:=by
 have hpl:ps.length<=N.length:=by have:=congrArg List.length S.pre;rw[z0u] at this;omega
 obtain⟨h1,tk,rfl,hk⟩:=x.done;have noA:∀ b:Addr,b∉(cxOf CX P w K mg base N qual scope f cd A outer s H E).ex:=fun b z=>absurd (show b∈([]:List Addr) from z) (by simp)
 refine⟨⟨e0.mod,S.kind,rfl,rfl,zza _,fun y z c h1 h2=>?_,fun y hy=>?_,fun y c _ h=>?_,fun _=>hd,Around.frames_deeper e0.frames,.inr ⟨rfl,rfl⟩,fun b z=>absurd z (noA b),e0.bs,e0.bsz,fun b _ _=>noA b,fun b z=>absurd z (noA b),e0.funs,e0.frf⟩,
  rfl,e0.bare,Un.kept hk,⟨_,x.toInCall.ns,fun i y v h1 h2 h3=>?_⟩,fun y c h=>⟨_,x.cell y c h⟩,e0.hok.fresh (zza _),fun y c h=>?_,fun p hp=>absurd (show p∈([]:List (Addr×Obj)) from hp) (by simp),e0.hok.kept hk,?_⟩
 ·exact name_of_addr x.apart (PySem.mem_of_lookup h1) (PySem.mem_of_lookup h2)
 ·have hy:scope.names.lookup y=some .cell\/scope.names.lookup y=some .free:=hy
  rcases hy with hy|hy
  ·exact Er hy
  ·exact absurd rfl (S.nofree _ (PySem.mem_of_lookup hy))
 ·exact Nat.le_of_lt (x.above y c (PySem.mem_of_lookup h))
 ·have h2:=h2.resolve_right (Wo _)
  have hi:i<vs.length:=by
   unfold Mr at h2
   by_cases hi:i<vs.length
   ·exact hi
   ·rw[zzy (by simpa using hi)] at h2
    rw[List.getElem?_replicate] at h2
    split at h2<;>cases h2
  have ha:vs[i]?=some v:=by
   unfold Mr at h2
   rw[zz0 (by simpa using hi),zy5] at h2
   cases e:vs[i]? with
   | none=>rw[e] at h2;cases h2
   | some a=>rw[e] at h2;cases h2;rfl
  obtain⟨u,hu,rv⟩:=r.get ha;have hp:ps[i]?=some y:=by
   rw[<- S.pre,List.getElem?_take_of_lt (by omega)];exact h1
  have ndP:ps.Nodup:=by rw[<- S.pre];exact S.nd.sublist (List.take_sublist _ _)
  refine⟨u,rv,?_⟩;rcases S.par y (zze hp) with k|k
  ·exact .inl ⟨k,Hy ndP hp hu k⟩
  ·obtain⟨c,e⟩:=Er (n:=s.heap.objs.size+1) k
   refine .inr ⟨.inl k,c,e,?_⟩;have q:=x.cell y c e;rw[Hz ndP hp hu (by show scope.names.lookup y≠_;rw[k];decide)] at q
   exact q
 ·exact e0.hok.fresh (Nat.le_of_lt (x.above y c (PySem.mem_of_lookup h)))
 ·unfold Mr
  show _=N.length;rw[zy2,zyz,List.length_replicate];omega
theorem zi5{CX:CXT}{P:Program}{w:World}{K:PySem.W.Frag}{mg:Str->Option Value}{base:Heap}{k:Nat}{f:Addr}{name qual:Str}{params:Arguments}{body:List Stmt}{scope:Scope}{dV kV doc pm cdv ct oc:Value}{an od:Option Addr}
  {osl:Array (Option Value)} {N ps:List Str} {sp:Sp} (lk:K.lookup f=some ⟨oc,od,.func (PySem.W.fnOf name qual params body scope dV kV doc pm an cdv ct),osl⟩) (hcd:PySem.W.codeIn K cdv qual=true) (S:Zl N ps scope)
  (len:∀ vs H Q E,sp vs H Q E->vs.length=ps.length)
  (hbody:∀ (A:Around) (outer:List Env) (s:Shared) (H:Hp) (vs:List V) (Q:VK) (E:XK),W4 k (A.deeper (envOfC qual scope s.heap.objs.size f cdv))->sp vs H Q E ->
   ∃ t,PSs (cxOf CX P w K mg base N qual scope f cdv A outer s H E) body t/\t { nx:=fun _ H'=>Q .non H',rt:=Q } (Mr N vs) H) :
  Z3 P w K mg base CX (k+1) f (PySem.W.fnOf name qual params body scope dV kV doc pm an cdv ct) ps sp:=by
 refine⟨len,fun A outer s H args us vs Q E hr e0 hb r hsp=>?_⟩
 have hl:=len _ _ _ _ hsp;have KX:K.In s.heap:=e0.mod.kin.keeps fun b o e=>(e0.bs b o e).1
 have lim:s.heap.NoLimit:=e0.mod.nolimit.keeps fun b o e=>(e0.bs b o e).1
 have hkind:∀ y∈ps.zip us,scope.names.lookup y.1=some .local\/(scope.names.lookup y.1=some .cell/\((cellsFrom (s.heap.objs.size+1) scope.names []).lookup y.1).isSome=true):=fun ⟨n,v⟩ hy=>by
  rcases S.par n (List.of_mem_zip hy).1 with q|q
  ·exact .inl q
  ·exact .inr ⟨q,PySem.W.cellsFrom_some _ _ _ (.inl q)⟩
 refine codeAny_call_function hr.depth (KX _ _ lk) rfl S.co S.gen rfl (PySem.W.codeRec_of KX hcd) (hb _ _ _ _ ?_);refine wpAny_newFunctionEnv_cells S.kind hkind fun env he s1 x=>?_
 subst he;refine⟨lim.keeps x.toInCall.keep,codeAny_func ?_⟩;obtain⟨t,ht,hq⟩:=hbody A outer s H vs Q E (hr.deeper _) hsp;have I:Inv (cxOf CX P w K mg base N qual scope f cdv A outer s H E) [] (Mr N vs) H s1:=za0 S hr.hd e0 hl r x;refine wpAny_mono (ht [] s1 (Mr N vs) H _ I hq) (fun fl s' hs=>?_) fun e s' hs=>hs
 have fin:∀ {σ':St} {H':Hp} {v:V} {u:Value},Inv (cxOf CX P w K mg base N qual scope f cdv A outer s H E) [] σ' H' s'->RelV v u->Q v H'->CE outer P w H s Q u s' :=
  fun {σ' H' v u} J rv q=>⟨v,H',J.os,J.bare,J.base,J.hok,rv,q⟩
 cases fl with
 | ret u =>
   obtain⟨v,σ',H',J,rv,q⟩:=hs;exact fin J rv q
 | next =>
   obtain⟨σ',H',J,q⟩:=hs;exact fin (v:=V.non) (u:=Value.none) J rfl q
 | brk =>
   obtain⟨_,_,_,q⟩:=hs;exact False.elim q
 | cont =>
   obtain⟨_,_,_,q⟩:=hs;exact False.elim q
section
variable{X:Cx}{x:Str}{p pos:Pos}{e:Expr}{es:List Expr}{t:TA}{id T:String}{r:List V->Hp->VK->Prop}
noncomputable def tCB(r:List V->Hp->VK->Prop)(t:TA):TE:=fun σ H Q=>t σ H fun vs H1=>r vs H1 Q
theorem Zw(hc:Vg X (.builtin id) r)(hg:Gl X x)(hm:X.mg x=none)(hv:bootBuiltins x=some (.builtin id))(ha:PA X (e :: es) t)(hn:x≠"__name__":=by decide)(hdb:(x == ("__debug__":Str))=false:=by decide)
  (he:starEach (e :: es) X.env=(false,eval e X.env) :: starEach es X.env:=by rfl) (hpl:(backTo pos (starEach es X.env)).any (·.1)=false:=by rfl):PE X (.Call (.Name x p) (e :: es) [] pos) (tCB r t):=by
 intro pins s σ H Q I h;refine wpAny_Call_Name_kw (Pp I hg hm hv ?_ hn hdb);exact PyProof.Rows.callWith_builtin1 (thn (ha pos pins s σ H _ I h) fun us s1 ⟨vs,H1,I1,r1,q1⟩=>hc pins s1 σ H1 vs us Q I1 r1 q1) he hpl
theorem Y9(hc:Vg X (.type T) r)(hg:Gl X x)(hm:X.mg x=none)(hv:bootBuiltins x=some (.type T))(ha:PA X (e :: es) t)(hn:x≠"__name__":=by decide)(hdb:(x == ("__debug__":Str))=false:=by decide)
  (he:starEach (e :: es) X.env=(false,eval e X.env) :: starEach es X.env:=by rfl) (hpl:(backTo pos (starEach es X.env)).any (·.1)=false:=by rfl):PE X (.Call (.Name x p) (e :: es) [] pos) (tCB r t):=by
 intro pins s σ H Q I h;refine wpAny_Call_Name_kw (Pp I hg hm hv ?_ hn hdb);exact PyProof.Rows.callWith_type1 (thn (ha pos pins s σ H _ I h) fun us s1 ⟨vs,H1,I1,r1,q1⟩=>hc pins s1 σ H1 vs us Q I1 r1 q1) he hpl
end
section
variable{κ:Type}[DecidableEq κ]
noncomputable def valV(kvs:List (κ×V))(k:κ):Option V:=(kvs.find? fun kv=>decide (kv.1=k)).map (·.2)
noncomputable def putK(kvs:List (κ×V))(k:κ)(v:V):List (κ×V) :=
 if (kvs.any fun kv=>decide (kv.1=k))=true then kvs.map (fun kv=>if kv.1=k then (kv.1,v) else kv) else kvs++[(k,v)]
noncomputable def X0(kvs:List (κ×V))(k:κ):List (κ×V):=kvs.filter fun kv=>decide (kv.1≠k)
theorem zcz{k:κ}:valV ([]:List (κ×V)) k=none:=rfl
theorem Xc{p:κ×V}{r:List (κ×V)}{k:κ}(e:p.1=k):valV (p :: r) k=some p.2:=by simp[valV,z00,e]
theorem Y6{p:κ×V}{r:List (κ×V)}{k:κ}(e:¬ p.1=k):valV (p :: r) k=valV r k:=by simp[valV,z00,e]
theorem Si(k:κ):∀ kvs:List (κ×V),(kvs.any fun kv=>decide (kv.1=k))=(valV kvs k).isSome
 | []=>rfl
 | p :: r=>by
   rw[z02];by_cases e:p.1=k
   ·simp only[Xc e,zy4 e,Bool.true_or,Option.isSome_some]
   ·rw[Y6 e,zzb e,Bool.false_or];exact Si k r
theorem Es(k j:κ)(y:V):∀ kvs:List (κ×V),valV (kvs.map fun kv=>if kv.1=k then (kv.1,y) else kv) j=(valV kvs j).map fun x=>if j=k then y else x
 | []=>rfl
 | p :: r=>by
   have ih:=Es k j y r;rw[zzc];by_cases h:p.1=k
   ·rw[if_pos h]
    by_cases e:p.1=j
    ·rw[Xc (p:=(p.1,y)) e,Xc e,z0b,if_pos (e.symm.trans h)]
    ·rw[Y6 (p:=(p.1,y)) e,Y6 e,ih]
   ·rw[if_neg h]
    by_cases e:p.1=j
    ·rw[Xc (p:=p) e,Xc e,z0b,if_neg (fun z=>h (e.trans z))]
    ·rw[Y6 (p:=p) e,Y6 e,ih]
theorem Ga(k j:κ)(y:V):∀ kvs:List (κ×V),valV kvs k=none->valV (kvs++[(k,y)]) j=if j=k then some y else valV kvs j
 | [],_=>by
   by_cases e:k=j
   ·rw[if_pos e.symm];exact Xc (p:=(k,y)) e
   ·rw[if_neg (fun z=>e z.symm)];exact Y6 (p:=(k,y)) e
 | p :: r,hn=>by
   rw[List.cons_append];have hk:¬ p.1=k:=fun z=>by rw[Xc z] at hn;cases hn
   rw[Y6 hk] at hn
   have ih:=Ga k j y r hn;by_cases e:p.1=j
   ·rw[Xc e,Xc e,if_neg (fun z=>hk (e.trans z))]
   ·rw[Y6 e,Y6 e,ih]
theorem Vj(kvs:List (κ×V))(k j:κ)(y:V):valV (putK kvs k y) j=if j=k then some y else valV kvs j:=by
 unfold putK;by_cases a:(kvs.any fun kv=>decide (kv.1=k))=true
 ·rw[if_pos a,Es]
  rw[Si] at a
  by_cases e:j=k
  ·obtain⟨x,hx⟩:=z0d.mp a
   rw[if_pos e,e,hx,z0b,if_pos rfl]
  ·rw[if_neg e]
   cases valV kvs j with
   | none=>rfl
   | some x=>rw[z0b,if_neg e]
 ·rw[if_neg a]
  refine Ga k j y kvs ?_;rw[Si] at a
  cases q:valV kvs k with
  | none=>rfl
  | some x=>rw[q] at a;exact(a rfl).elim
theorem Y7(kvs:List (κ×V))(k:κ)(v:V):(putK kvs k v).length<=kvs.length+1:=by
 unfold putK;split
 ·rw[zyz];omega
 ·rw[zy2,zzl,z1b];omega
theorem zc0{kvs:List (κ×V)}{k:κ}(v:V)(h:valV kvs k=none):putK kvs k v=kvs++[(k,v)]:=by
 unfold putK;rw[Si,h];exact if_neg (by decide)
theorem RelO.isSome_eq{o:Option V}{u:Option Value}(r:RelO o u):o.isSome=u.isSome:=by
 cases o with
 | none=>cases u with
   | none=>rfl
   | some _=>exact(show False from r).elim
 | some _=>cases u with
   | none=>exact(show False from r).elim
   | some _=>rfl
theorem RelO.getD{o:Option V}{u:Option Value}{d:V}{d':Value}(r:RelO o u)(rd:RelV d d'):RelV (o.getD d) (u.getD d'):=by
 cases o with
 | none=>cases u with
   | none=>exact rd
   | some _=>exact(show False from r).elim
 | some _=>cases u with
   | none=>exact(show False from r).elim
   | some _=>exact r
theorem KV.val{kvs:List (κ×V)}{vs:List (κ×Value)}(r:KV kvs vs)(k:κ):RelO (valV kvs k) (valueAt vs k):=by
 unfold KV at r
 induction r with
 | nil=>exact True.intro
 | @cons p q ps qs h t ih =>
   obtain⟨h1,h2⟩:=h;by_cases e:p.1=k
   ·have e':q.1=k:=h1.symm.trans e
    have b:valueAt (q :: qs) k=some q.2:=by simp[valueAt,z00,e']
    rw[Xc e,b];exact h2
   ·have e':¬ q.1=k:=fun z=>e (h1.trans z)
    have b:valueAt (q :: qs) k=valueAt qs k:=by simp[valueAt,z00,e']
    rw[Y6 e,b];exact ih
theorem KV.any{kvs:List (κ×V)}{vs:List (κ×Value)}(r:KV kvs vs)(k:κ):(kvs.any fun kv=>decide (kv.1=k))=vs.any fun kv=>decide (kv.1=k):=by
 unfold KV at r
 induction r with
 | nil=>rfl
 | cons h t ih=>rw[z02,z02,ih,h.1]
theorem KV.repl{kvs:List (κ×V)}{vs:List (κ×Value)}(r:KV kvs vs)(k:κ){y:V}{u:Value}(ry:RelV y u) :
  KV (kvs.map fun kv=>if kv.1=k then (kv.1,y) else kv) (vs.map fun kv=>if kv.1=k then (kv.1,u) else kv):=by
 unfold KV at r ⊢
 induction r with
 | nil=>exact .nil
 | @cons p q ps qs h t ih =>
   rw[zzc,zzc];refine .cons ?_ ih;obtain⟨h1,h2⟩:=h;by_cases e:p.1=k
   ·rw[if_pos e,if_pos (h1.symm.trans e)];exact⟨h1,ry⟩
   ·rw[if_neg e,if_neg (fun z=>e (h1.trans z))];exact⟨h1,h2⟩
theorem KV.put{kvs:List (κ×V)}{vs:List (κ×Value)}(r:KV kvs vs)(k:κ){y:V}{u:Value}(ry:RelV y u):KV (putK kvs k y) (stored vs k u):=by
 unfold putK stored;rw[r.any k];by_cases e:(vs.any fun kv=>decide (kv.1=k))=true
 ·rw[if_pos e,if_pos e];exact r.repl k ry
 ·rw[if_neg e,if_neg e];exact Paired.snoc r ⟨rfl,ry⟩
theorem KV.drop{kvs:List (κ×V)}{vs:List (κ×Value)}(r:KV kvs vs)(k:κ):KV (X0 kvs k) (without vs k):=by
 unfold KV at r ⊢
 unfold X0 without
 induction r with
 | nil=>exact .nil
 | @cons p q ps qs h t ih =>
   obtain⟨h1,h2⟩:=h;rw[z0j,z0j];by_cases e:p.1=k
   ·have a:¬ decide (p.1≠k)=true:=by simp[e]
    have b:¬ decide (q.1≠k)=true:=by simp[h1.symm.trans e]
    rw[if_neg a,if_neg b];exact ih
   ·have e':¬ q.1=k:=fun z=>e (h1.trans z)
    have a:decide (p.1≠k)=true:=by simp[e]
    have b:decide (q.1≠k)=true:=by simp[e']
    rw[if_pos a,if_pos b];exact .cons ⟨h1,h2⟩ ih
theorem KV.keys{kvs:List (κ×V)}{vs:List (κ×Value)}(r:KV kvs vs):kvs.map (·.1)=vs.map (·.1):=by
 unfold KV at r
 induction r with
 | nil=>rfl
 | cons h t ih=>rw[zzc,zzc,ih,h.1]
theorem KV.length{kvs:List (κ×V)}{vs:List (κ×Value)}(r:KV kvs vs):kvs.length=vs.length:=Paired.length r
theorem Et(kvs:List (κ×V))(k:κ):(X0 kvs k).length<=kvs.length:=zz2 _ _
end
theorem Mt{P:Program}{w:World}{k:Key}{u:Value}(r:RelV (kV k) u):(Yj P w).is k u=true:=by
 cases k with
 | inl i=>obtain⟨t,e⟩:=(show ∃ t,u=Value.int i t from r);subst e;exact Eh P w i t
 | inr x=>obtain⟨t,e⟩:=(show ∃ t,u=Value.str x t from r);subst e;exact Ei P w x t
theorem Gb{P:Program}{w:World}:∀ {ks:List Key} {us:List Value},Vals (ks.map kV) us->ItemsAre (Yj P w) ks us
 | [],_,r=>by rw[List.map_nil] at r;cases r;exact .nil
 | k :: ks,_,r=>by
   rw[zzc] at r
   cases r with
   | cons h t=>exact .cons (Mt h) (Gb t)
noncomputable abbrev KT(H:Hp):List (List Key×V)->List (List Key×Addr×Value)->Prop:=Paired fun p q=>p.1=q.1/\H q.2.1=some (.tup (p.1.map kV))/\RelV p.2 q.2.2
theorem KT.val{H:Hp}{kvs:List (List Key×V)}{xs:List (List Key×Addr×Value)}(r:KT H kvs xs)(k:List Key):RelO (valV kvs k) ((atKey xs k).map (·.2)):=by
 induction r with
 | nil=>exact True.intro
 | @cons p q ps qs h t ih =>
   obtain⟨h1,_,h2⟩:=h;by_cases e:p.1=k
   ·have e':q.1=k:=h1.symm.trans e
    have b:atKey (q :: qs) k=some q.2:=by simp[atKey,z00,e']
    rw[Xc e,b];exact h2
   ·have e':¬ q.1=k:=fun z=>e (h1.trans z)
    have b:atKey (q :: qs) k=atKey qs k:=by simp[atKey,z00,e']
    rw[Y6 e,b];exact ih
theorem KT.repl{H:Hp}{kvs:List (List Key×V)}{xs:List (List Key×Addr×Value)}(r:KT H kvs xs)(k:List Key){y:V}{u:Value}(ry:RelV y u) :
  KT H (kvs.map fun kv=>if kv.1=k then (kv.1,y) else kv) (xs.map (putAt k u)):=by
 induction r with
 | nil=>exact .nil
 | @cons p q ps qs h t ih =>
   rw[zzc,zzc];refine .cons ?_ ih;obtain⟨h1,h2,h3⟩:=h;unfold putAt;by_cases e:p.1=k
   ·rw[if_pos e,if_pos (h1.symm.trans e)];exact⟨h1,h2,ry⟩
   ·rw[if_neg e,if_neg (fun z=>e (h1.trans z))];exact⟨h1,h2,h3⟩
theorem KT.put{H:Hp}{kvs:List (List Key×V)}{xs:List (List Key×Addr×Value)}(r:KT H kvs xs)(k:List Key){b:Addr}{y:V}{u:Value}(hb:H b=some (.tup (k.map kV)))(ry:RelV y u) :
  KT H (putK kvs k y) (storedH xs k b u):=by
 have e:(kvs.any fun kv=>decide (kv.1=k))=(atKey xs k).isSome:=by
  rw[Si,(r.val k).isSome_eq,Option.isSome_map]
 unfold putK storedH;rw[e];by_cases q:(atKey xs k).isSome=true
 ·rw[if_pos q,if_pos q];exact r.repl k ry
 ·rw[if_neg q,if_neg q];exact Paired.snoc r ⟨rfl,hb,ry⟩
theorem KT.keeps{H H':Hp}{kvs:List (List Key×V)}{xs:List (List Key×Addr×Value)}(r:KT H kvs xs)(ht:∀ b ys,H b=some (.tup ys)->H' b=some (.tup ys)):KT H' kvs xs :=
 Paired.mapP r fun _ _ z=>⟨z.1,ht _ _ z.2.1,z.2.2⟩
section
variable{P:Program}{w:World}{H:Hp}{h:Heap}{a:Addr}
theorem zgn{u:HO}(ok:HOk P w H h)(e:Rd H a u):Y2 P w H h a u:=e.ok ok
theorem Rw{kvs:List (Key×V)}(ok:HOk P w H h)(e:Rd H a (.dK kvs)):kvs.length<=sizeLine/\(a == sysModules)=false/\∃ vs,KV kvs vs/\h.DictOf (Yj P w) a vs :=
 show Y2 P w H h a (.dK kvs) from zgn ok e
theorem zc1{kvs:List (Key×V)}(ok:HOk P w H h)(e:H a=some (.dK kvs)):kvs.length<=sizeLine/\(a == sysModules)=false/\∃ vs,KV kvs vs/\h.DictOf (Yj P w) a vs:=Rw ok (.inl e)
theorem Rx{ks:List Key}(ok:HOk P w H h)(e:H a=some (.tup (ks.map kV))):(tupleKind (Yj P w)).is h ks a:=by
 obtain⟨_,its,r,o,h1,h2,n,h3⟩:=(show Y2 P w H h a (.tup (ks.map kV)) from ok a _ e)
 exact⟨o,its.toArray,n,h1,h2,h3,by simpa using Gb r⟩
theorem Mu{kvs:List (List Key×V)}(ok:HOk P w H h)(e:Rd H a (.dT kvs)):kvs.length<=sizeLine/\(a == sysModules)=false /\
  ∃ xs,KT H kvs xs/\h.DictOfH (tupleKind (Yj P w)) a xs:=by
 obtain⟨z,y,xs,r,o,es,ep,h1,h2,h3,h4,h5⟩:=(show Y2 P w H h a (.dT kvs) from zgn ok e)
 refine⟨z,y,xs,r,o,es,ep,h1,h2,h3,h4,fun x hx=>?_,h5⟩
 have all:∀ {l:List (List Key×V)} {m:List (List Key×Addr×Value)},KT H l m->∀ x∈m,(tupleKind (Yj P w)).is h x.1 x.2.1:=by
  intro l m q
  induction q with
  | nil=>intro x hx;exact nomatch hx
  | @cons p q ps qs hq t ih =>
    intro x hx;rcases zy8.mp hx with e|hx
    ·subst e
     exact Rx ok (by rw[<- hq.1];exact hq.2.1)
    ·exact ih x hx
 exact all r x hx
theorem zc2{kvs:List (List Key×V)}(ok:HOk P w H h)(e:H a=some (.dT kvs)):kvs.length<=sizeLine/\(a == sysModules)=false /\
  ∃ xs,KT H kvs xs/\h.DictOfH (tupleKind (Yj P w)) a xs:=Mu ok (.inl e)
end
noncomputable def DGet(H:Hp)(a:Addr)(y:V)(r:Option V):Prop :=
 (∃ kvs k,Rd H a (.dK kvs)/\y=kV k/\r=valV kvs k)\/∃ kvs k b,Rd H a (.dT kvs)/\y=.ref b/\H b=some (.tup (k.map kV))/\r=valV kvs k
noncomputable def DPut(H:Hp)(a:Addr)(y v:V)(H':Hp):Prop :=
 (∃ kvs k,H a=some (.dK kvs)/\y=kV k/\kvs.length<sizeLine/\H'=upd H a (.dK (putK kvs k v))) \/
 ∃ kvs k b,H a=some (.dT kvs)/\y=.ref b/\H b=some (.tup (k.map kV))/\kvs.length<sizeLine/\H'=upd H a (.dT (putK kvs k v))
theorem DGet.k{H:Hp}{a:Addr}{kvs:List (Key×V)}{k:Key}(e:H a=some (.dK kvs)):DGet H a (kV k) (valV kvs k):=.inl ⟨kvs,k,.inl e,rfl,rfl⟩
theorem DGet.t{H:Hp}{a b:Addr}{kvs:List (List Key×V)}{k:List Key}(e:H a=some (.dT kvs))(eb:H b=some (.tup (k.map kV))):DGet H a (.ref b) (valV kvs k):=.inr ⟨kvs,k,b,.inl e,rfl,eb,rfl⟩
theorem DPut.k{H:Hp}{a:Addr}{kvs:List (Key×V)}{k:Key}{v:V}(e:H a=some (.dK kvs))(hl:kvs.length<sizeLine):DPut H a (kV k) v (upd H a (.dK (putK kvs k v))):=.inl ⟨kvs,k,e,rfl,hl,rfl⟩
theorem DPut.t{H:Hp}{a b:Addr}{kvs:List (List Key×V)}{k:List Key}{v:V}(e:H a=some (.dT kvs))(eb:H b=some (.tup (k.map kV)))(hl:kvs.length<sizeLine) :
  DPut H a (.ref b) v (upd H a (.dT (putK kvs k v))):=.inr ⟨kvs,k,b,e,rfl,eb,hl,rfl⟩
section
variable{X:Cx}{pins:List (Addr×Obj)}{σ:St}{H:Hp}{s:Shared}{a:Addr}{y v:V}{u r:Value}{o:Option V}{A:Around}{E:Value->Shared->Prop}
theorem Inv.big(I:Inv X pins σ H s):sysModules<s.heap.objs.size:=by
 have h:mainGlobals<s.heap.objs.size:=(I.mod.glob.keeps I.bk).lt;exact Nat.lt_trans (by decide) h
theorem za1{Q:Value->Shared->Prop}(hu:A.units+1<cLine)(I:Inv X pins σ H s)(g:DGet H a y (some v))(ry:RelV y u)(h:∀ w' s',Inv X pins σ H s'->RelV v w'->Q w' s') :
  wpAny (model X.prog X.w) A (getItem (.ref a) u) Q E s:=by
 rcases g with ⟨kvs,k,e,ey,l⟩|⟨kvs,k,b,e,ey,eb,l⟩
 ·subst ey
  obtain⟨z,hd,vs,rel,dd⟩:=Rw I.hok e;obtain⟨w',hw,rw'⟩:=RelO.some_of (v:=v) (o:=valueAt vs k) (by rw[l];exact rel.val k)
  exact wpAny_getItem_of (Mt ry) dd.mapOf hw (h w' _ (I.tok _) rw')
 ·subst ey
  cases (show u=Value.ref b from ry)
  obtain⟨z,hd,xs,rel,dd⟩:=Mu I.hok e;obtain⟨w',hw,rw'⟩:=RelO.some_of (v:=v) (o:=(atKey xs k).map (·.2)) (by rw[l];exact rel.val k)
  obtain⟨p,hp,hp2⟩:=z0w.mp hw;refine wpAny_getItem_heap (tupleKind_room_in1 hu) (Rx I.hok eb) dd hp ?_;rw[hp2];exact h w' _ (I.tok _) rw'
theorem zj5{Q:Value->Shared->Prop}(hu:A.units+1<cLine)(I:Inv X pins σ H s)(g:DGet H a y o)(ry:RelV y u)(h:∀ s',Inv X pins σ H s'->Q (.bool o.isSome) s') :
  wpAny (model X.prog X.w) A (compareOp .In u (.ref a)) Q E s:=by
 rcases g with ⟨kvs,k,e,ey,l⟩|⟨kvs,k,b,e,ey,eb,l⟩
 ·subst ey
  obtain⟨z,hd,vs,rel,dd⟩:=Rw I.hok e;refine wpAny_in_of (Mt ry) hd dd.mapOf ?_;rw[<- (rel.val k).isSome_eq,<- l];exact h _ (I.tok _)
 ·subst ey
  cases (show u=Value.ref b from ry)
  obtain⟨z,hd,xs,rel,dd⟩:=Mu I.hok e;refine wpAny_in_heap (tupleKind_room_in1 hu) (Rx I.hok eb) hd dd ?_;have q:=(rel.val k).isSome_eq;rw[Option.isSome_map] at q
  rw[<- q,<- l];exact h _ (I.tok _)
theorem ze9{Q:Value->Shared->Prop}(hu:A.units+1<cLine)(I:Inv X pins σ H s)(g:DGet H a y o)(ry:RelV y u)(h:∀ s',Inv X pins σ H s'->Q (.bool (!o.isSome)) s') :
  wpAny (model X.prog X.w) A (compareOp .NotIn u (.ref a)) Q E s:=by
 rcases g with ⟨kvs,k,e,ey,l⟩|⟨kvs,k,b,e,ey,eb,l⟩
 ·subst ey
  obtain⟨z,hd,vs,rel,dd⟩:=Rw I.hok e;refine wpAny_notIn_of (Mt ry) hd dd.mapOf ?_;rw[<- (rel.val k).isSome_eq,<- l];exact h _ (I.tok _)
 ·subst ey
  cases (show u=Value.ref b from ry)
  obtain⟨z,hd,xs,rel,dd⟩:=Mu I.hok e;refine wpAny_notIn_heap (tupleKind_room_in1 hu) (Rx I.hok eb) hd dd ?_;have q:=(rel.val k).isSome_eq;rw[Option.isSome_map] at q
  rw[<- q,<- l];exact h _ (I.tok _)
theorem Qr{h':Heap}{t':Nat}{ob:HO}(I:Inv X pins σ H s)(mu:Mut (H a))(hs:Heap.SameBut a s.heap h')(he:∃ q,h'.get? a=some q)(new:Y2 X.prog X.w (upd H a ob) h' a ob) :
  Inv X pins σ (upd H a ob) { s with heap:=h',toks:=t' } :=
 I.write (x:=a) (e:=a) mu (.inl rfl) (fun b q hb z=>(hs.2 b hb).trans z) he new
theorem G5{P:Program}{w:World}{H':Hp}{h':Heap}{kvs:List (Key×V)}{vs:List (Key×Value)}(z:kvs.length<=sizeLine)(hd:(a == sysModules)=false)(rel:KV kvs vs)(dd:h'.DictOf (Yj P w) a vs) :
  Y2 P w H' h' a (.dK kvs):=⟨z,hd,vs,rel,dd⟩
theorem za2{H':Hp}{Q:Unit->Shared->Prop}(hu:A.units+1<cLine)(I:Inv X pins σ H s)(g:DPut H a y v H')(ry:RelV y u)(rv:RelV v r)(h:∀ s',Inv X pins σ H' s'->Q () s') :
  wpAny (model X.prog X.w) A (setItem (.ref a) u r) Q E s:=by
 rcases g with ⟨kvs,k,e,ey,l,eH⟩|⟨kvs,k,b,e,ey,eb,l,eH⟩
 ·subst ey eH
  obtain⟨z,hd,vs,rel,dd⟩:=zc1 I.hok e;have hz:vs.length<=sizeLine:=by rw[<- rel.length];exact z
  have hl:(putK kvs k v).length<=sizeLine:=by have:=Y7 kvs k v;omega
  refine wpAny_setItem_pairs (hsz:=hz) (Mt ry) dd fun h' dd' hs=>h _ ?_
  have he:∃ q,h'.get? a=some q:=let ⟨q,_,_,hq,_⟩:=dd';⟨q,hq⟩
  exact Qr I (by rw[e];exact True.intro) hs he (G5 hl hd (rel.put k rv) dd')
 ·subst ey eH
  cases (show u=Value.ref b from ry)
  obtain⟨z,hd,xs,rel,dd⟩:=zc2 I.hok e;have hz:xs.length<=sizeLine:=by rw[<- Paired.length rel];exact z
  have hl:(putK kvs k v).length<=sizeLine:=by have:=Y7 kvs k v;omega
  refine wpAny_setItem_heap (hsz:=hz) (tupleKind_room_in1 hu) (Rx I.hok eb) dd fun h' dd' hs=>h _ ?_
  obtain⟨q,es,ep,hq,h2,h3,h4,_,h5⟩:=dd';refine Qr I (by rw[e];exact True.intro) hs ⟨q,hq⟩ ⟨hl,hd,_,(rel.put k eb rv).keeps fun c ys ec=>?_,q,es,ep,hq,h2,h3,h4,h5⟩
  rw[Zh (Ym ec e (fun z=>nomatch z))]
  exact ec
end
section
variable{X:Cx}{pins:List (Addr×Obj)}{σ:St}{H:Hp}{s:Shared}{a:Addr}{kvs:List (Key×V)}{k:Key}{u:Value}{A:Around}{E:Value->Shared->Prop}
theorem zi6{v:V}{more:List Value}{Q:Value->Shared->Prop}(I:Inv X pins σ H s)(e:H a=some (.dK kvs))(ry:RelV (kV k) u)(l:valV kvs k=some v)(hm:more=[]\/∃ x,more=[x])
  (h:∀ w' s',Inv X pins σ (upd H a (.dK (X0 kvs k))) s'->RelV v w'->Q w' s'):wpAny (model X.prog X.w) A (call (.builtin "dict.pop") (.ref a :: u :: more)) Q E s:=by
 obtain⟨z,hd,vs,rel,dd⟩:=zc1 I.hok e;obtain⟨w',hw,rw'⟩:=RelO.some_of (v:=v) (o:=valueAt vs k) (by rw[<- l];exact rel.val k)
 have hp:(keyPart u).isSome=true:=by
  cases k with
  | inl i=>obtain⟨t,q⟩:=(show ∃ t,u=Value.int i t from ry);subst q;rfl
  | inr x=>obtain⟨t,q⟩:=(show ∃ t,u=Value.str x t from ry);subst q;rfl
 have ha:argsOk "dict.pop" ⟨.ref a :: u :: more,[]⟩:=by
  rcases hm with q|⟨x,q⟩
  ·subst q;exact PySem.F.args_dict_pop_2 _ _
  ·subst q;exact PySem.F.args_dict_pop_3 _ _ _
 refine call_meetsIn PySem.F.slot_dict_pop dd.typeIs PySem.F.entry_dict_pop ha (meets_dict_pop_there (Yj X.prog X.w) a (Mt ry) more hm hp)
  ⟨vs,w',dd,by rw[<- rel.length];exact z,hw,fun h' dd' hs=>h w' _ ?_ rw'⟩
 have he:∃ q,h'.get? a=some q:=let ⟨q,_,_,hq,_⟩:=dd';⟨q,hq⟩
 exact Qr I (by rw[e];exact True.intro) hs he (G5 (zzg (Et kvs k) z) hd (rel.drop k) dd')
theorem zi7{Q:Value->Shared->Prop}(I:Inv X pins σ H s)(e:Rd H a (.dK kvs))(h:∀ t s',Inv X pins σ H s'->Q (.int kvs.length t) s'):wpAny (model X.prog X.w) A (call (.builtin "len") [.ref a]) Q E s:=by
 obtain⟨z,hd,vs,rel,dd⟩:=Rw I.hok e;refine call_len_dict hd dd (by rw[<- rel.length];rw[sizeLine_eq] at z;omega) ?_
 rw[<- rel.length];exact h _ _ (I.tok _)
end
noncomputable def zhd(i:Expr):Prop:=∀ ov iv,subscripted i false ov iv=operate [ov,iv] (getItem ov iv)
theorem zfa{prog:Program}{w:World}{A:Around}{E:Value->Shared->Prop}{s:Shared}{env:Env}{value slice:Expr}{pos:Pos}{T id:String}{Q:Value->Shared->Prop}
  (hl:typeLookup (.type T) "__getitem__"=pure (some (.builtin id))) (hs:zhd slice)
  (h:wpAny (model prog w) A (eval value env) (fun o s₁=>wpAny (model prog w) A (eval slice env) (fun i s₂=>s₂.TypeIs o T/\wpAny (model prog w) A (getItem o i) Q E s₂) E s₁) E s) :
  wpAny (model prog w) A (eval (.Subscript value slice pos) env) Q E s:=by
 refine Subscript_ (wpAny_mono h (fun o s₁ h₁=>wpAny_mono h₁ (fun i s₂ h₂=>?_) fun _ _ x=>x) fun _ _ x=>x)
 obtain⟨hT,h₂⟩:=h₂;unfold subscriptTail;refine wpAny_bind ?_;rw[getitemInPython_of_ne hT.not_modules];refine wpAny_bind (wpAny_specialOf hT hl ?_);have fin:wpAny (model prog w) A (subscripted slice false o i) (fun r s₃=>wpAny (model prog w) A (letTemporaryGo value o r >>= fun _=>pure r) Q E s₃) E s₂:=by
  rw[hs o i];exact wpAny_operating (wpAny_mono h₂ (fun r s₃ h₃=>wpAny_bind (wpAny_letTemporaryGo (wpAny_pure h₃))) fun _ _ x=>x)
 first
  | exact wpAny_pure (wpAny_bind fin)
  | exact wpAny_bind (wpAny_pure (wpAny_bind fin))
  | exact wpAny_bind fin
theorem Eu{X:Cx}{pins:List (Addr×Obj)}{σ:St}{H:Hp}{s:Shared}{a:Addr}{y:V}{o:Option V}(I:Inv X pins σ H s)(g:DGet H a y o):s.TypeIs (.ref a) "dict":=by
 rcases g with ⟨kvs,k,e,_,_⟩|⟨kvs,k,b,e,_,_,_⟩
 ·obtain⟨_,_,vs,_,dd⟩:=Rw I.hok e
  exact dd.typeIs
 ·obtain⟨_,_,xs,_,dd⟩:=Mu I.hok e
  exact dd.typeIs
inductive zhe(Q:VK)(x:V)(y:V)(H2:Hp):Prop where
 | mk(a)(v)(_:x=.ref a)(_:DGet H2 a y (some v))(_:Q v H2)
noncomputable def zgo(td ty:TE):TE:=fun σ H Q=>td σ H fun x H1=>ty σ H1 fun y H2=>zhe Q x y H2
inductive zi8(Q:VK)(y:V)(x:V)(H2:Hp):Prop where
 | mk(a)(o)(_:x=.ref a)(_:DGet H2 a y o)(_:Q (.bl o.isSome) H2)
noncomputable def zj6(ty td:TE):TE:=fun σ H Q=>ty σ H fun y H1=>td σ H1 fun x H2=>zi8 Q y x H2
inductive zc3(Q:VK)(y:V)(x:V)(H2:Hp):Prop where
 | mk(a)(o)(_:x=.ref a)(_:DGet H2 a y o)(_:Q (.bl (!o.isSome)) H2)
noncomputable def zfb(ty td:TE):TE:=fun σ H Q=>ty σ H fun y H1=>td σ H1 fun x H2=>zc3 Q y x H2
inductive zhf(D:T9)(σ:L2.St)(v:V)(x:V)(y:V)(H3:Hp):Prop where
 | mk(a)(H4)(_:x=.ref a)(_:DPut H3 a y v H4)(_:D.nx σ H4)
noncomputable def zi9(td ty tv:TE):TS:=fun D σ H=>tv σ H fun v H1=>td σ H1 fun x H2=>ty σ H2 fun y H3=>zhf D σ v x y H3
section
variable{X:Cx}{o i e value:Expr}{pos pos' tpos:Pos}{td ty tv:TE}
theorem zfc(hu:X.A.units+1<cLine)(ho:PE X o td)(hi:PE X i ty)(hs:zhd i):PE X (.Subscript o i pos) (zgo td ty):=by
 intro pins s σ H Q I h;refine zfa PySem.F.slot_dict_getitem.lookup hs (thn (ho pins s σ H _ I h) fun u s1 ⟨x,H1,I1,rx,q1⟩=>thn (hi pins s1 σ H1 _ I1 q1) fun iv s2 ⟨y,H2,I2,ry,a,v,ex,g,q2⟩=>?_)
 subst ex;obtain rfl:u=Value.ref a:=rx;exact⟨Eu I2 g,za1 hu I2 g ry fun w' s3 I3 rw'=>⟨v,H2,I3,rw',q2⟩⟩
theorem Pt(hu:X.A.units+1<cLine)(hi:PE X i ty)(ho:PE X o td):PC X .In i o (zj6 ty td):=by
 intro pins s σ H Q I h;refine thn (hi pins s σ H _ I h) fun iv s1 ⟨y,H1,I1,ry,q1⟩=>thn (ho pins s1 σ H1 _ I1 q1) fun u s2 ⟨x,H2,I2,rx,a,ov,ex,g,q2⟩=>?_
 subst ex;obtain rfl:u=Value.ref a:=rx;exact zj5 hu I2 g ry fun s3 I3=>⟨.bl ov.isSome,H2,I3,rfl,q2⟩
theorem Nu(hu:X.A.units+1<cLine)(hi:PE X i ty)(ho:PE X o td):PC X .NotIn i o (zfb ty td):=by
 intro pins s σ H Q I h;refine thn (hi pins s σ H _ I h) fun iv s1 ⟨y,H1,I1,ry,q1⟩=>thn (ho pins s1 σ H1 _ I1 q1) fun u s2 ⟨x,H2,I2,rx,a,ov,ex,g,q2⟩=>?_
 subst ex;obtain rfl:u=Value.ref a:=rx;exact ze9 hu I2 g ry fun s3 I3=>⟨.bl (!ov.isSome),H2,I3,rfl,q2⟩
theorem Yl(hu:X.A.units+1<cLine)(ho:PE X o td)(hi:PE X i ty)(hv:PE X value tv)(hs:swapsWith value (some (.Subscript o i pos')) pos.line X.env=pure false) :
  PS X (.Assign [.Subscript o i pos'] value pos) (zi9 td ty tv):=by
 intro pins s σ H D I h;refine wpAny_Assign_Subscript (thn (hv pins s σ H _ I h) fun r s1 ⟨v,H1,I1,rv,q1⟩=>thn (ho pins s1 σ H1 _ I1 q1) fun u s2 ⟨x,H2,I2,rx,q2⟩=>thn (hi pins s2 σ H2 _ I2 q2) fun iv s3 ⟨y,H3,I3,ry,a,H4,ex,g,q3⟩=>?_) hs
 subst ex;obtain rfl:u=Value.ref a:=rx;exact za2 hu I3 g ry rv fun s4 I4=>⟨σ,H4,I4,q3⟩
end
theorem Ew{P:Program}{w:World}{H:Hp}(h:Heap)(hb:sysModules<h.objs.size):Y2 P w H (h.push { cls:=.type "dict",data:=.dict #[] }) h.objs.size (.dK []) :=
 ⟨zzs _,zzn.mpr (Ne.symm (zzr hb)),[],.nil,Heap.DictOf.new h⟩
theorem Ex{P:Program}{w:World}{H:Hp}(h:Heap)(hb:sysModules<h.objs.size):Y2 P w H (h.push { cls:=.type "dict",data:=.dict #[] }) h.objs.size (.dT []) :=
 ⟨zzs _,zzn.mpr (Ne.symm (zzr hb)),[],.nil,_,#[],0,Heap.get?_push_size _ rfl,⟨rfl,rfl,rfl⟩,rfl,rfl,z0p⟩
noncomputable def zhg:TE:=fun _ H Q=>∀ p,H p=none->Q (.ref p) (upd H p (.dK []))
noncomputable def zhh:TE:=fun _ H Q=>∀ p,H p=none->Q (.ref p) (upd H p (.dT []))
section
variable{X:Cx}{pos:Pos}
theorem Km:PE X (.Dict [] [] pos) zhg:=fun pins s σ H Q I h =>
 wpAny_Dict_empty ⟨.ref s.heap.objs.size,_,I.laid (a:=s.heap.objs.size) (o:=.dK []) (t':=s.toks) (fun _ _ q=>Heap.get?_push_of_some _ q) (zza _) (Ew s.heap I.big),rfl,h _ (I.hok.fresh (zza _))⟩
theorem Ot:PE X (.Dict [] [] pos) zhh:=fun pins s σ H Q I h =>
 wpAny_Dict_empty ⟨.ref s.heap.objs.size,_,I.laid (a:=s.heap.objs.size) (o:=.dT []) (t':=s.toks) (fun _ _ q=>Heap.get?_push_of_some _ q) (zza _) (Ex s.heap I.big),rfl,h _ (I.hok.fresh (zza _))⟩
end
noncomputable def Bb:List (TE×TE)->St->Hp->(List (V×V)->Hp->Prop)->Prop
 | [],_,H,Q=>Q [] H
 | (tk,tv) :: r,σ,H,Q=>tk σ H fun x H1=>tv σ H1 fun y H2=>Bb r σ H2 fun ps H3=>Q ((x,y) :: ps) H3
noncomputable abbrev VV:List (V×V)->List (Value×Value)->Prop:=Paired fun p q=>RelV p.1 q.1/\RelV p.2 q.2
noncomputable def PPs(X:Cx)(pos:Pos)(keys:List (Option Expr))(values:List Expr)(trs:List (TE×TE)):Prop :=
 ∀ (pins:List (Addr×Obj)) (s:Shared) (σ:St) (H:Hp) (Q:List (V×V)->Hp->Prop),Inv X pins σ H s->Bb trs σ H Q ->
   wpAny (model X.prog X.w) X.A (evalPairs (pairTrees keys values X.env pos)) (fun vs s'=>∃ ps H',Inv X pins σ H' s'/\VV ps vs/\Q ps H') X.xe s
theorem G6{X:Cx}{pos:Pos}:PPs X pos [] [] []:=fun pins s σ H Q I h=>pairTrees_nil_walk ⟨[],H,I,.nil,h⟩
theorem Uq{X:Cx}{pos:Pos}{k v:Expr}{ks:List (Option Expr)}{vs:List Expr}{tk tv:TE}{trs:List (TE×TE)}(hk:PE X k tk)(hv:PE X v tv)(hr:PPs X pos ks vs trs) :
  PPs X pos (some k :: ks) (v :: vs) ((tk,tv) :: trs):=fun pins s σ H Q I h =>
 pairTrees_cons_walk (thn (hk pins s σ H _ I h) fun u s1 ⟨x,H1,I1,rx,q1⟩=>thn (hv pins s1 σ H1 _ I1 q1) fun w2 s2 ⟨y,H2,I2,ry,q2⟩ =>
  thn (hr pins s2 σ H2 _ I2 q2) fun ws s3 ⟨ps,H3,I3,rel,q3⟩=>⟨(x,y) :: ps,H3,I3,.cons ⟨rx,ry⟩ rel,q3⟩)
noncomputable def Sw(kvs more:List (Key×V)):List (Key×V):=more.foldl (fun acc kv=>putK acc kv.1 kv.2) kvs
theorem KV.merge:∀ {more:List (Key×V)} {rs:List (Key×Value)} {kvs:List (Key×V)} {vs:List (Key×Value)},KV more rs->KV kvs vs->KV (Sw kvs more) (merged vs rs):=by
 intro more rs kvs vs r;unfold KV at r
 induction r generalizing kvs vs with
 | nil=>intro q;exact q
 | @cons p q ps qs h t ih =>
   intro r0;have e:KV (putK kvs p.1 p.2) (stored vs q.1 q.2):=by
    have:=r0.put p.1 h.2;rw[<- h.1];exact this
   exact ih e
theorem Pk:∀ (more kvs:List (Key×V)),(Sw kvs more).length<=kvs.length+more.length
 | [],kvs=>by show kvs.length<=kvs.length+0;omega
 | p :: r,kvs=>by
   have h1:=Pk r (putK kvs p.1 p.2);have h2:=Y7 kvs p.1 p.2;show (Sw (putK kvs p.1 p.2) r).length<=_;rw[zzl];omega
theorem Kn{P:Program}{w:World}:∀ {kvs:List (Key×V)} {ws:List (Value×Value)},VV (kvs.map fun kv=>(kV kv.1,kv.2)) ws->∃ rs,Carries (Yj P w) ws rs/\KV kvs rs
 | [],_,r=>by rw[List.map_nil] at r;cases r;exact⟨[],True.intro,.nil⟩
 | p :: kvs,_,r=>by
   rw[zzc] at r
   cases r with
   | @cons a b as bs h t =>
     obtain⟨rs,c,q⟩:=Kn (P:=P) (w:=w) t;obtain⟨b1,b2⟩:=b;exact⟨(p.1,b2) :: rs,⟨Mt h.1,rfl,c⟩,.cons ⟨rfl,h.2⟩ q⟩
noncomputable def zja(trs:List (TE×TE)):TE:=fun σ H Q=>∀ p,H p=none->Bb trs σ (upd H p (.dK [])) fun ps H2=>H2 p=some (.dK [])/\∃ kvs:List (Key×V),ps=kvs.map (fun kv=>(kV kv.1,kv.2))/\kvs.length<=15/\Q (.ref p) (upd H2 p (.dK (Sw [] kvs)))
theorem Al{X:Cx}{pos:Pos}{keys:List (Option Expr)}{values:List Expr}{trs:List (TE×TE)}(h:PPs X pos keys values trs)(hall:keys.all (·.isSome)=true)(hl:keys.length=values.length)(h0:keys≠[])
  (h15:keys.length<=15):PE X (.Dict keys values pos) (zja trs):=by
 intro pins s σ H Q I q;have hn:=I.hok.fresh (zza s.heap.objs.size);have I1:=I.laid (a:=s.heap.objs.size) (o:=.dK []) (h':=s.heap.push { cls:=.type "dict",data:=.dict #[] }) (t':=s.toks) (fun _ _ q=>Heap.get?_push_of_some _ q) (zza _) (Ew s.heap I.big)
 refine wpAny_Dict_walk (knd:=Yj X.prog X.w) hall hl h0 h15 (thn (h pins _ σ _ _ I1 (q _ hn)) fun ws s2 ⟨ps,H2,I2,rel,e,kvs,ep,lk,q2⟩=>?_)
 subst ep;obtain⟨rs,c,rk⟩:=Kn (P:=X.prog) (w:=X.w) rel;obtain⟨z,hd,vs0,r0,dd⟩:=zc1 I2.hok e;cases r0;refine⟨rs,c,dd,fun h' dd' hs=>⟨.ref s.heap.objs.size,_,?_,rfl,q2⟩⟩
 have hz:(Sw [] kvs).length<=sizeLine:=by
  have h1:=Pk kvs [];rw[z1b] at h1
  rw[sizeLine_eq];omega
 have he:∃ q,h'.get? s.heap.objs.size=some q:=let ⟨q,_,_,hq,_⟩:=dd';⟨q,hq⟩
 exact Qr I2 (by rw[e];exact True.intro) hs he (G5 hz hd (rk.merge .nil) dd')
structure M1(X:Cx)(o:Expr)(m:Str)(apos:Pos)(e:Expr)(cpos:Pos):Prop where
 base:attributeBase o m X.env (eval o X.env)=eval o X.env
 few:((backTo cpos (starEach [e] X.env)).all (fun x=>!x.1)&&(backToKw cpos (keywordEach [] X.env)).all (fun x=>x.1.isSome)
  && decide (([e]:List Expr).length+([]:List Keyword).length+(if ([]:List Keyword).isEmpty then 0 else 1)<30))=true
 line:(apos.endLine == cpos.line)=true
 trees:backTo cpos (starEach [e] X.env)=[(false,eval e X.env)]
structure M2(X:Cx)(o:Expr)(m:Str)(apos:Pos)(e f:Expr)(cpos:Pos):Prop where
 base:attributeBase o m X.env (eval o X.env)=eval o X.env
 few:((backTo cpos (starEach [e,f] X.env)).all (fun x=>!x.1)&&(backToKw cpos (keywordEach [] X.env)).all (fun x=>x.1.isSome)
  && decide (([e,f]:List Expr).length+([]:List Keyword).length+(if ([]:List Keyword).isEmpty then 0 else 1)<30))=true
 line:(apos.endLine == cpos.line)=true
 trees:backTo cpos (starEach [e,f] X.env)=[(false,eval e X.env),(false,eval f X.env)]
noncomputable def IsD(H:Hp)(a:Addr):Prop:=(∃ kvs,Rd H a (.dK kvs))\/∃ kvs,Rd H a (.dT kvs)
theorem Bc{X:Cx}{pins:List (Addr×Obj)}{σ:St}{H:Hp}{s:Shared}{a:Addr}(I:Inv X pins σ H s)(d:IsD H a) :
  s.TypeIs (.ref a) "dict"/\(∀ b,Value.ref a=.ref b->∃ ob,s.heap.get? b=some ob/\ob.dict=none)/\(a == sysModules)=false:=by
 rcases d with ⟨kvs,e⟩|⟨kvs,e⟩
 ·obtain⟨_,hd,vs,_,dd⟩:=Rw I.hok e
  refine⟨dd.typeIs,fun b q=>?_,hd⟩
  cases q;obtain⟨ob,_,_,h1,h2,_⟩:=dd;exact⟨ob,h1,h2.2.1⟩
 ·obtain⟨_,hd,xs,_,dd⟩:=Mu I.hok e
  refine⟨dd.typeIs,fun b q=>?_,hd⟩
  cases q;obtain⟨ob,_,_,h1,h2,_⟩:=dd;exact⟨ob,h1,h2.2.1⟩
section
variable{X:Cx}{pins:List (Addr×Obj)}{σ:St}{H:Hp}{s:Shared}{a:Addr}{y d:V}{u r:Value}{o:Option V}{A:Around}{E:Value->Shared->Prop}
theorem zhi{Q:Value->Shared->Prop}(hu:A.units+1<cLine)(I:Inv X pins σ H s)(g:DGet H a y o)(ry:RelV y u)(rd:RelV d r)(h:∀ w' s',Inv X pins σ H s'->RelV (o.getD d) w'->Q w' s') :
  wpAny (model X.prog X.w) A (call (.builtin "dict.get") [.ref a,u,r]) Q E s:=by
 rcases g with ⟨kvs,k,e,ey,l⟩|⟨kvs,k,b,e,ey,eb,l⟩
 ·subst ey
  obtain⟨z,hd,vs,rel,dd⟩:=Rw I.hok e;refine call_meetsIn PySem.F.slot_dict_get dd.typeIs PySem.F.entry_dict_get (PySem.F.args_dict_get_3 _ _ _) (meets_dict_get_default (Yj X.prog X.w) a (Mt ry) hd r) ⟨_,dd.mapOf,h _ _ (I.tok _) ?_⟩;rw[l];exact(rel.val k).getD rd
 ·subst ey
  cases (show u=Value.ref b from ry)
  obtain⟨z,hd,xs,rel,dd⟩:=Mu I.hok e;refine call_meetsIn PySem.F.slot_dict_get dd.typeIs PySem.F.entry_dict_get (PySem.F.args_dict_get_3 _ _ _) (meetsH_dict_get_default (tupleKind (Yj X.prog X.w)) a b hd r) ⟨tupleKind_room_in1 hu,k,xs,Rx I.hok eb,dd,h _ _ (I.tok _) ?_⟩;rw[l];exact(rel.val k).getD rd
end
inductive zfd(ty:TE)(tx:TE)(σ:L2.St)(Q:VK)(x:V)(H1:Hp):Prop where
 | mk(a)(_:x=.ref a)(_:IsD H1 a)(_:ty σ H1 fun y H2=>tx σ H2 fun z H3=>∃ o,DGet H3 a y o/\Q (o.getD z) H3)
noncomputable def zhj(td ty tx:TE):TE:=fun σ H Q=>td σ H fun x H1=>zfd ty tx σ Q x H1
inductive zfe(ty:TE)(σ:L2.St)(Q:VK)(x:V)(H1:Hp):Prop where
 | mk(a)(_:x=.ref a)(_:IsD H1 a)(_:ty σ H1 fun y H2=>∃ kvs k v,H2 a=some (.dK kvs)/\y=kV k/\valV kvs k=some v/\Q v (upd H2 a (.dK (X0 kvs k))))
noncomputable def zhk(td ty:TE):TE:=fun σ H Q=>td σ H fun x H1=>zfe ty σ Q x H1
section
variable{X:Cx}{o e f:Expr}{apos cpos:Pos}{td ty tx:TE}
theorem zc4(hu:X.A.units+1<cLine)(ho:PE X o td)(he:PE X e ty)(hf:PE X f tx)(m:M2 X o "get" apos e f cpos):PE X (.Call (.Attribute o "get" apos) [e,f] [] cpos) (zhj td ty tx):=by
 intro pins s σ H Q I h;refine wpAny_Call_method m.base m.few m.line PySem.F.plainAttrs_dict PySem.F.slot_dict_get PySem.F.type_dict_get (thn (ho pins s σ H _ I h) fun u s1 ⟨x,H1,I1,rx,a,ex,d,q1⟩=>?_)
 subst ex;obtain rfl:u=Value.ref a:=rx;obtain⟨t1,t2,_⟩:=Bc I1 d;refine⟨t1,t2,?_⟩;rw[m.trees];refine Calls.callWith_builtin rfl (Calls.evalArgs_plain (Calls.spliced_cons (thn (he pins s1 σ H1 _ I1 q1) fun iv s2 ⟨y,H2,I2,ry,q2⟩ =>
  Calls.spliced_cons (thn (hf pins s2 σ H2 _ I2 q2) fun fv s3 ⟨z,H3,I3,rz,ov,g,q3⟩=>Calls.spliced_nil ?_))))
 exact zhi hu I3 g ry rz fun w' s4 I4 rw'=>⟨_,H3,I4,rw',q3⟩
theorem zc5(ho:PE X o td)(he:PE X e ty)(m:M1 X o "pop" apos e cpos):PE X (.Call (.Attribute o "pop" apos) [e] [] cpos) (zhk td ty):=by
 intro pins s σ H Q I h;refine wpAny_Call_method m.base m.few m.line PySem.F.plainAttrs_dict PySem.F.slot_dict_pop PySem.F.type_dict_pop (thn (ho pins s σ H _ I h) fun u s1 ⟨x,H1,I1,rx,a,ex,d,q1⟩=>?_)
 subst ex;obtain rfl:u=Value.ref a:=rx;obtain⟨t1,t2,_⟩:=Bc I1 d;refine⟨t1,t2,?_⟩;rw[m.trees];refine Calls.callWith_builtin rfl (Calls.evalArgs_plain (Calls.spliced_cons (thn (he pins s1 σ H1 _ I1 q1) fun iv s2 ⟨y,H2,I2,ry,kvs,k,v,ea,ey,l,q2⟩=>Calls.spliced_nil ?_)))
 subst ey;exact zi6 I2 ea ry l (.inl rfl) fun w' s3 I3 rw'=>⟨v,_,I3,rw',q2⟩
end
section
variable{X:Cx}{pins:List (Addr×Obj)}{σ:St}{H:Hp}{s:Shared}{a:Addr}{kvs:List (Key×V)}{A:Around}{E:Value->Shared->Prop}
theorem zc6{Q:Value->Shared->Prop}(I:Inv X pins σ H s)(e:Rd H a (.dK kvs))(h:∀ p s',H p=none->Inv X pins σ (upd H p (.dK kvs)) s'->Q (.ref p) s'):wpAny (model X.prog X.w) A (call (.type "dict") [.ref a]) Q E s:=by
 obtain⟨z,hd,vs,rel,dd⟩:=Rw I.hok e;refine kt_call_dict hd dd (by rw[<- rel.length];exact z) fun h' dd' hs=>?_
 refine h _ _ (I.hok.fresh (zza _)) (I.laid (a:=s.heap.objs.size) (o:=.dK kvs) (t':=s.toks) (fun b q hq=>?_) (zza _) (G5 z (zzn.mpr (Ne.symm (zzr I.big))) rel dd'))
 exact(hs.2 b (zzr (Heap.lt_size hq))).trans (Heap.get?_push_of_some _ hq)
end
section
variable{X:Cx}{pins:List (Addr×Obj)}{σ:St}{H:Hp}{s:Shared}{a:Addr}{y:V}{u:Value}{A:Around}{E:Value->Shared->Prop}
end
end L2
namespace HT
open PySem PyProof.Rows
section
open PySem.SeqAt
open PySem.AutoSeq1 (wpAny_loadPart')
open PySem.MeetsSeq PySem.MeetsSeq2 PySem.MeetsSeq3
end
section
variable{prog:Program}{w:World}{A:Around}{E:Value->Shared->Prop}{s:Shared}
theorem cat_tup{t b:Addr}{vs ws:List Value}{Q:Value->Shared->Prop}(ht:IsTup s.heap t vs.toArray)(hb:IsTup s.heap b ws.toArray)(hv:vs≠[])
  (h1:ws=[]->Q (.ref t) s) (h2:ws≠[]->Q (.ref s.heap.objs.size) { s with heap:=s.heap.push { cls:=.type "tuple",data:=.seq (vs++ws).toArray } })
  (hsz:vs.length+ws.length<=sizeLine):wpAny (model prog w) A (binaryOp .Add (.ref t) (.ref b)) Q E s:=by
 obtain⟨⟨cls,dd,data,sl⟩,ho,hc,n,hd⟩:=id ht;obtain⟨⟨cls2,dd2,data2,sl2⟩,ho2,hc2,n2,hd2⟩:=id hb;simp only at hc hd hc2 hd2
 subst hc hd hc2 hd2;have e:vs.toArray++ws.toArray=(vs++ws).toArray:=by simp
 by_cases hw:ws=[]
 ·exact concat_meets ⟨_,ho,rfl⟩ ⟨_,ho2,rfl⟩ noFill_tuple_add seq_tuple_add PySem.F.slot_tuple_add PySem.F.entry_tuple_add (PySem.F.args_tuple_add_2 _ _)
   (tuple_addW1 t b vs.toArray ws.toArray n n2 dd dd2 sl sl2 (by simpa using hv) (by simp[hw])) ⟨ho,ho2,h1 hw⟩
 ·refine concat_meets ⟨_,ho,rfl⟩ ⟨_,ho2,rfl⟩ noFill_tuple_add seq_tuple_add PySem.F.slot_tuple_add PySem.F.entry_tuple_add (PySem.F.args_tuple_add_2 _ _)
   (tuple_addW2 t b vs.toArray ws.toArray n n2 dd dd2 sl sl2 (by simpa using hv) (by simpa using hw) (by rw[zzd,zzd];exact hsz)) ⟨ho,ho2,?_⟩
  rw[e];exact h2 hw
noncomputable def sIx(n d:Nat):Option Int->Nat
 | none=>d
 | some v=>if v<0 then (v+(n:Int)).toNat else min v.toNat n
theorem sIx_none(n d:Nat):sIx n d none=d:=rfl
theorem sIx_nat(n d k:Nat):sIx n d (some (k:Int))=min k n:=by
 show (if (k:Int)<0 then ((k:Int)+(n:Int)).toNat else min (k:Int).toNat n)=min k n
 rw[if_neg (by omega),zzm]
end
end HT
namespace L2
open PySem PySem.Spec PyProof.Rows
noncomputable abbrev TO:=St->Hp->(Option Int->Hp->Prop)->Prop
noncomputable def PO(X:Cx)(e:Option Expr)(t:TO):Prop :=
 ∀ (pins:List (Addr×Obj)) (s:Shared) (σ:St) (H:Hp) (Q:Option Int->Hp->Prop),Inv X pins σ H s->t σ H Q ->
   wpAny (model X.prog X.w) X.A (evalPart e X.env) (fun u s'=>∃ o H',Inv X pins σ H' s'/\IsPart u o/\Q o H') X.xe s
noncomputable def zff:TO:=fun _ H Q=>Q none H
inductive zhl(Q:Option Int->Hp->Prop)(x:V)(H1:Hp):Prop where
 | mk(i)(_:x=.int i)(_:Q (some i) H1)
noncomputable def zjb(t:TE):TO:=fun σ H Q=>t σ H fun x H1=>zhl Q x H1
section
variable{X:Cx}{e:Expr}{te:TE}{lo hi:Option Expr}{tl th:TO}{pos p2:Pos}
theorem Am:PO X none zff:=by
 intro pins s σ H Q I h;rw[evalPart_none];exact wpAny_pure ⟨none,H,I,.none,h⟩
theorem An(h:PE X e te):PO X (some e) (zjb te):=by
 intro pins s σ H Q I hw;rw[evalPart_some];refine thn (h pins s σ H _ I hw) fun u s1 ⟨x,H1,I1,r1,q1⟩=>?_
 obtain⟨i,rfl,q⟩:=q1;obtain⟨t,rfl⟩:=r1;exact⟨some i,H1,I1,.int i t,q⟩
noncomputable def SlR(X:Cx)(r:V->Option Int->Option Int->Hp->VK->Prop):Prop :=
 ∀ (pins:List (Addr×Obj)) (s:Shared) (σ:St) (H:Hp) (x:V) (v vl vu:Value) (lo hi:Option Int) (sl:Addr) (Q:VK),Inv X pins σ H s->RelV x v->s.heap.IsSliceOf sl vl vu .none->IsPart vl lo->IsPart vu hi->r x lo hi H Q ->
   ∃ T id,typeLookup (.type T) "__getitem__"=pure (some (.builtin id))/\s.TypeIs v T/\wpAny (model X.prog X.w) X.A (getItem v (.ref sl)) (EP X pins σ Q) X.xe s
noncomputable def tSl(r:V->Option Int->Option Int->Hp->VK->Prop)(te:TE)(tl th:TO):TE:=fun σ H Q=>te σ H fun x H1=>tl σ H1 fun l H2=>th σ H2 fun u H3=>r x l u H3 Q
theorem Ey{r:V->Option Int->Option Int->Hp->VK->Prop}(hr:SlR X r)(he:PE X e te)(hl:PO X lo tl)(hu:PO X hi th):PE X (.Subscript e (.Slice lo hi none p2) pos) (tSl r te tl th):=by
 intro pins s σ H Q I h;refine Subscript_ (thn (he pins s σ H _ I h) fun v s1 ⟨x,H1,I1,r1,q1⟩=>?_)
 refine wpAny_Slice (thn (hl pins s1 σ H1 _ I1 q1) fun vl s2 ⟨l,H2,I2,pl,q2⟩=>thn (hu pins s2 σ H2 _ I2 q2) fun vu s3 ⟨u,H3,I3,pu,q3⟩=>?_)
 rw[evalPart_none];refine wpAny_pure ?_;have I4:Inv X pins σ H3 { s3 with heap:=s3.heap.push { cls:=.type "slice",data:=.fields #[vl,vu,.none] } }:=I3.kept (t':=s3.toks) fun b ob q=>Heap.get?_push_of_some _ q
 obtain⟨T,id,hT,ht,hg⟩:=hr pins { s3 with heap:=s3.heap.push { cls:=.type "slice",data:=.fields #[vl,vu,.none] } } σ H3 x v vl vu l u s3.heap.objs.size Q I4 r1 (Heap.IsSliceOf.new ..) pl pu q3
 show wpAny (model X.prog X.w) X.A (subscriptTail e (.Slice lo hi none p2) v (.ref s3.heap.objs.size)) (EP X pins σ Q) X.xe { s3 with heap:=s3.heap.push { cls:=.type "slice",data:=.fields #[vl,vu,.none] } }
 exact tail_any (ops:=[.ref s3.heap.objs.size,v]) ht hT hg (by with_unfolding_all rfl)
noncomputable def J7(xs:List V)(lo hi:Option Int):List V:=(xs.drop (HT.sIx xs.length 0 lo)).take (HT.sIx xs.length xs.length hi-HT.sIx xs.length 0 lo)
theorem Ez(xs:List V)(lo hi:Option Int):(J7 xs lo hi).length<=xs.length:=by
 unfold J7;rw[z0u,List.length_drop];omega
inductive zgp(K:PySem.W.Frag)(x:V)(y:V)(H:Hp)(Q:VK):Prop where
 | mk(a)(b)(xs)(ys)(_:x=.ref a)(_:y=.ref b)(_:SqT K H a xs)(_:SqT K H b ys)(_:xs≠[])(_:xs.length+ys.length<=sizeLine)(_:(ys=[]->Q (.ref a) H))(_:(ys≠[]->∀ p,H p=none->Q (.ref p) (upd H p (.tup (xs++ys)))))
theorem Vals.nil_iff{xs:List V}{us:List Value}(r:Vals xs us):us=[]↔xs=[]:=by
 cases r with
 | nil=>simp
 | cons _ _=>simp
theorem zfg:OpR X (binaryOp .Add) (zgp X.K):=by
 intro pins s σ H x y v u Q I rx ry h;obtain⟨a,b,xs,ys,rfl,rfl,ha,hb,hx,hz,q1,q2⟩:=h;cases rx;cases ry;obtain⟨its,r1,p1,_⟩:=I.tuple ha;obtain⟨its2,r2,p2,_⟩:=I.tuple hb;refine HT.cat_tup p1 p2 (fun z=>hx (r1.nil_iff.mp z)) (fun z=>⟨.ref a,H,I,rfl,q1 (r2.nil_iff.mp z)⟩) (fun z=>?_) (by rw[<- r1.length,<- r2.length];exact hz)
 refine⟨.ref s.heap.objs.size,_,I.laid (t':=s.toks) (o:=.tup (xs++ys)) (fun b ob q=>Heap.get?_push_of_some _ q) (zza _) ?_,rfl,q2 (fun w=>z (r2.nil_iff.mpr w)) _ (I.hok.fresh (zza _))⟩
 exact⟨by rw[zy2];exact hz,_,r1.append r2,IsTup.new _ _⟩
end
noncomputable def ixN(n:Nat)(i:Int):Option Nat:=if 0<=i then (if i<n then some i.toNat else none) else if -(n:Int)<=i then some (i+n).toNat else none
noncomputable def atI{α:Type}(xs:List α)(i:Int):Option α:=(ixN xs.length i).bind fun j=>xs[j]?
theorem Ao{n:Nat}{i:Int}{j:Nat}(h:ixN n i=some j):seqIndex? i n=some j/\j<n/\-(n:Int)<=i/\i<n:=by
 unfold ixN at h
 by_cases h0:0<=i
 ·rw[if_pos h0] at h
  by_cases h1:i<n
  ·rw[if_pos h1] at h
   have e:i.toNat=j:=Option.some.inj h;exact⟨by rw[seqIndex_of h0 h1,e],by omega,by omega,h1⟩
  ·rw[if_neg h1] at h;cases h
 ·rw[if_neg h0] at h
  by_cases h1:-(n:Int)<=i
  ·rw[if_pos h1] at h
   have e:(i+n).toNat=j:=Option.some.inj h;exact⟨by rw[seqIndex_neg (by omega) h1,e],by omega,h1,by omega⟩
  ·rw[if_neg h1] at h;cases h
theorem Ap{α:Type}{xs:List α}{i:Int}{v:α}(h:atI xs i=some v):∃ j,seqIndex? i xs.length=some j/\xs[j]?=some v/\j<xs.length/\-(xs.length:Int)<=i/\i<xs.length:=by
 unfold atI at h
 cases e:ixN xs.length i with
 | none=>rw[e] at h;cases h
 | some j =>
   rw[e] at h
   obtain⟨h1,h2,h3,h4⟩:=Ao e;exact⟨j,h1,h,h2,h3,h4⟩
theorem Y4{α:Type}{xs:List α}{j:Nat}{v:α}(h:xs[j]?=some v):atI xs (j:Int)=some v:=by
 have hj:j<xs.length:=(zy0.mp h).1;have e:ixN xs.length (j:Int)=some j:=by
  unfold ixN;rw[if_pos (by omega),if_pos (by omega)];simp
 unfold atI;rw[e];exact h
theorem atI_last{α:Type}(xs:List α)(v:α):atI (xs++[v]) (-1)=some v:=by
 have hl:(xs++[v]).length=xs.length+1:=by simp
 have e:ixN (xs++[v]).length (-1)=some xs.length:=by
  unfold ixN;rw[hl,if_neg (by decide),if_pos (by omega)]
  congr 1
  omega
 unfold atI;rw[e];show (xs++[v])[xs.length]?=some v;simp
noncomputable def Aq(b:Expr):Prop:=∀ o i,subscripted b false o i=operate [o,i] (getItem o i)
noncomputable def IxR(X:Cx)(r:R2):Prop :=
 ∀ (value slice:Expr) (pins:List (Addr×Obj)) (s:Shared) (σ:St) (H:Hp) (x y:V) (v u:Value) (Q:VK),Inv X pins σ H s->RelV x v->RelV y u->r x y H Q ->
   subscripted slice false v u=operate [v,u] (getItem v u)->wpAny (model X.prog X.w) X.A (subscriptTail value slice v u) (EP X pins σ Q) X.xe s
noncomputable def MtR(X:Cx)(id:String)(r:V->List V->Hp->VK->Prop):Prop :=
 ∀ (pins:List (Addr×Obj)) (s:Shared) (σ:St) (H:Hp) (x:V) (xs:List V) (v:Value) (us:List Value) (Q:VK),Inv X pins σ H s->RelV x v->Vals xs us->r x xs H Q ->
   wpAny (model X.prog X.w) X.A (call (.builtin id) (v :: us)) (EP X pins σ Q) X.xe s
section
variable{X:Cx}{a b:Expr}{ta tb:TE}{pos:Pos}
theorem zjc{r:R2}(hr:IxR X r)(ha:PE X a ta)(hb:PE X b tb)(hs:Aq b):PE X (.Subscript a b pos) (tOp r ta tb):=by
 intro pins s σ H Q I h;exact Subscript_ (binT ha hb I h fun v u s2 x y H2 I2 rx ry q=>hr a b pins s2 σ H2 x y v u Q I2 rx ry q (hs _ _))
inductive J8(K:PySem.W.Frag)(x:V)(y:V)(H:Hp)(Q:VK):Prop where
 | mk(p)(xs)(i)(v)(_:x=.ref p)(_:y=.int i)(_:SqL K H p xs)(_:atI xs i=some v)(_:Q v H)
inductive zhm(K:PySem.W.Frag)(x:V)(y:V)(H:Hp)(Q:VK):Prop where
 | mk(p)(xs)(i)(v)(_:x=.ref p)(_:y=.int i)(_:SqT K H p xs)(_:atI xs i=some v)(_:Q v H)
theorem zfh:IxR X (J8 X.K):=by
 intro value slice pins s σ H x y v u Q I rx ry h hs;obtain⟨p,xs,i,z,rfl,rfl,hq,he,q⟩:=h;cases rx;obtain⟨t,rfl⟩:=ry;obtain⟨its,r,pl,hz⟩:=I.list hq;obtain⟨j,h1,h2,h3,h4,h5⟩:=Ap he;obtain⟨w,ew,rw'⟩:=r.get h2;have hl:=r.length;have hn:=Pr;have fin:EP X pins σ Q w s:=⟨z,H,I,rw',q⟩;by_cases h0:0<=i
 ·have hj:i.toNat=j:=by
   rw[seqIndex_of h0 h5] at h1
   exact Option.some.inj h1
  exact item_listR pl.isList h0 (by omega) (by rw[hj];simpa using ew) fin hs
 ·have hj:(i+(its.toArray.size:Int)).toNat=j:=by
   rw[seqIndex_neg (by omega) h4] at h1
   rw[zzd,<- hl];exact Option.some.inj h1
  exact subscriptTail_builtinR (x:=w) pl.isList.typeIs slot_list_getitem.lookup
   (wpAny_getItem_list_neg (Q:=fun r s'=>r=w/\EP X pins σ Q r s') pl.isList (by omega) (by rw[zzd]<;>omega) (by omega) (by rw[hj];simpa using ew) ⟨rfl,fin⟩) hs
theorem zhn:IxR X (zhm X.K):=by
 intro value slice pins s σ H x y v u Q I rx ry h hs;obtain⟨p,xs,i,z,rfl,rfl,hq,he,q⟩:=h;cases rx;obtain⟨t,rfl⟩:=ry;obtain⟨its,r,pl,hz⟩:=I.tuple hq;obtain⟨j,h1,h2,h3,h4,h5⟩:=Ap he;obtain⟨w,ew,rw'⟩:=r.get h2;have hl:=r.length;have hn:=Pr;have fin:EP X pins σ Q w s:=⟨z,H,I,rw',q⟩;exact subscriptTail_builtinR (x:=w) pl.typeIs slot_tuple_getitem.lookup
  (getItem_tuple (j:=j) (Q:=fun r s'=>r=w/\EP X pins σ Q r s') pl (by omega) (by omega) (by rw[zzd,<- hl];exact h1) (by simpa using ew) ⟨rfl,fin⟩) hs
theorem Bd(its:List Value)(n j:Nat)(u:Value):Obj.mapSeq (·.setIfInBounds j u) { cls:=.type "list",data:=.seq its.toArray n }={ cls:=.type "list",data:=.seq (its.set j u).toArray n }:=by
 simp[Obj.mapSeq]
theorem Inv.lst{pins:List (Addr×Obj)}{σ:St}{H:Hp}{s:Shared}{p:Addr}{xs:List V}(I:Inv X pins σ H s)(h:H p=some (.lst xs)) :
  ∃ (its:List Value) (n:Nat),Vals xs its/\s.heap.get? p=some { cls:=.type "list",data:=.seq its.toArray n }/\xs.length<=sizeLine:=by
 obtain⟨z,its,n,r,e⟩:=I.hok p _ h;exact⟨its,n,r,e,z⟩
theorem Inv.lstUpd{pins:List (Addr×Obj)}{σ:St}{H:Hp}{s:Shared}{p:Addr}{xs ys:List V}{its its':List Value}{n n':Nat}{f:Obj->Obj}(I:Inv X pins σ H s)(h:H p=some (.lst xs))
  (ho:s.heap.get? p=some { cls:=.type "list",data:=.seq its.toArray n }) (hf:f { cls:=.type "list",data:=.seq its.toArray n }={ cls:=.type "list",data:=.seq its'.toArray n' }) (r:Vals ys its') (hz:ys.length<=sizeLine) (t:Nat) :
  Inv X pins σ (upd H p (.lst ys)) { s with heap:=s.heap.update p f,toks:=t }:=by
 have e:(s.heap.update p f).get? p=some { cls:=.type "list",data:=.seq its'.toArray n' }:=by
  rw[Heap.get?_update_self f ho (by rw[hf]<;>rfl),hf]
 refine I.write (x:=p) (e:=p) (by rw[h];trivial) (.inl rfl) (fun b u hb q=>(Heap.get?_update_other _ _ (Ne.symm hb)).trans q) ⟨_,e⟩ ?_
 exact⟨hz,its',n',r,e⟩
noncomputable def zjd:V->V->V->Hp->(Hp->Prop)->Prop:=fun o i v H Q=>∃ p xs k j,o=.ref p/\i=.int k/\H p=some (.lst xs)/\ixN xs.length k=some j/\Q (upd H p (.lst (xs.set j v)))
theorem zc7:zis X zjd:=by
 intro pins s σ H o i v ov iv u Q I ro ri rv h;obtain⟨p,xs,k,j,rfl,rfl,hp,hj,q⟩:=h;cases ro;obtain⟨t,rfl⟩:=ri;obtain⟨its,n,r,ho,hz⟩:=I.lst hp;obtain⟨h1,h2,h3,h4⟩:=Ao hj;have hl:=r.length;have hn:=Pr;have I':Inv X pins σ (upd H p (.lst (xs.set j v))) { s with heap:=s.heap.update p (Obj.mapSeq (·.setIfInBounds j u)) } :=
  I.lstUpd hp ho (Bd its n j u) (r.set rv j) (by rw[z0q];exact hz) s.toks
 by_cases h0:0<=k
 ·have hk:k.toNat=j:=by
   rw[seqIndex_of h0 h4] at h1
   exact Option.some.inj h1
  exact PySem.W.ki_setAt ho h0 (by omega) (by rw[zzd,<- hl];exact h4) (by rw[hk];exact⟨_,I',q⟩)
 ·have hk:(k+(its.toArray.size:Int)).toNat=j:=by
   rw[seqIndex_neg (by omega) h3] at h1
   rw[zzd,<- hl];exact Option.some.inj h1
  exact PySem.W.ki_setBack ho (by omega) (by rw[zzd,<- hl];exact h3) (by omega) (by rw[hk];exact⟨_,I',q⟩)
theorem G7(lo hi:Option Int)(n:Nat):(sliceBounds lo hi none n).1=((HT.sIx n 0 lo:Nat):Int)/\(sliceBounds lo hi none n).2.1=((HT.sIx n n hi:Nat):Int)/\(sliceBounds lo hi none n).2.2=1:=by
 refine⟨?_,?_,rfl⟩
 ·cases lo with
  | none=>simp[sliceBounds,HT.sIx]
  | some i =>
    simp only[sliceBounds,HT.sIx,Option.getD_none,show (1:Int)>0 by decide,if_true]
    by_cases h:i<0
    ·simp only[h,if_true]<;>omega
    ·simp only[h,if_false]<;>omega
 ·cases hi with
  | none=>simp[sliceBounds,HT.sIx]
  | some i =>
    simp only[sliceBounds,HT.sIx,Option.getD_none,show (1:Int)>0 by decide,if_true]
    by_cases h:i<0
    ·simp only[h,if_true]<;>omega
    ·simp only[h,if_false]<;>omega
theorem J9(its:List Value)(lo hi:Option Int):slicePick its.toArray lo hi none=((its.drop (HT.sIx its.length 0 lo)).take (HT.sIx its.length its.length hi-HT.sIx its.length 0 lo)).toArray:=by
 obtain⟨h1,h2,h3⟩:=G7 lo hi its.toArray.size;unfold slicePick;rw[h1,h2,h3];simp only[sliceRange_one,pick_run,zzd]<;>rfl
noncomputable def zje(K:PySem.W.Frag):V->Option Int->Option Int->Hp->VK->Prop:=fun x lo hi H Q=>∃ a xs,x=.ref a/\SqL K H a xs/\∀ p,H p=none->Q (.ref p) (upd H p (.lst (J7 xs lo hi)))
theorem zfi:SlR X (zje X.K):=by
 intro pins s σ H x v vl vu lo hi sl Q I rx hs pl pu h;obtain⟨a,xs,rfl,hx,q⟩:=h;cases rx;obtain⟨its,r,ht,hz⟩:=I.list hx;have hlen:=r.length;refine⟨"list",_,slot_list_getitem.lookup,ht.isList.typeIs,?_⟩;refine wpAny_getItem_list_slice ht.isList hs pl pu .none (by simp) ?_ (by rw[zzd]<;>omega)
 rw[J9,<- hlen];refine⟨.ref s.heap.objs.size,_,I.laid (t':=s.toks) (o:=.lst (J7 xs lo hi)) (fun b ob q=>Heap.get?_push_of_some _ q) (zza _) ?_,rfl,q _ (I.hok.fresh (zza _))⟩
 exact⟨zzg (Ez xs lo hi) hz,_,0,(r.drop (HT.sIx xs.length 0 lo)).take (HT.sIx xs.length xs.length hi-HT.sIx xs.length 0 lo),Heap.get?_push_size _ rfl⟩
noncomputable def Sj:V->Bool
 | .non=>true
 | .bl _=>true
 | .int _=>true
 | .str _=>true
 | _=>false
noncomputable def eqV:V->V->Bool
 | .non,.non=>true
 | .bl a,.bl b=>a == b
 | .bl a,.int b=>(if a then 1 else 0) == b
 | .int a,.bl b=>a == (if b then 1 else 0)
 | .int a,.int b=>a == b
 | .str a,.str b=>a == b
 | _,_=>false
theorem zho{A:Around}{s:Shared}{y x:V}{u v:Value}(ry:RelV y u)(rx:RelV x v)(fy:Sj y=true)(fx:Sj x=true):SeqAt.EqAt A s u v (eqV y x):=by
 cases y with
 | non =>
   cases ry;cases x with
   | non=>cases rx;exact SeqAt.EqAt.same _
   | bl b=>cases rx;exact SeqAt.EqAt.none_bool b
   | int b=>obtain⟨t,rfl⟩:=rx;exact SeqAt.EqAt.none_int b t
   | str b=>obtain⟨t,rfl⟩:=rx;exact SeqAt.EqAt.none_str b t
   | _=>exact absurd (show false=true from fx) zzf
 | bl a =>
   cases ry;cases x with
   | non=>cases rx;exact SeqAt.EqAt.bool_none a
   | bl b=>cases rx;exact SeqAt.EqAt.bool_bool a b
   | int b=>obtain⟨t,rfl⟩:=rx;exact SeqAt.EqAt.bool_int a b t
   | str b=>obtain⟨t,rfl⟩:=rx;exact SeqAt.EqAt.bool_str a b t
   | _=>exact absurd (show false=true from fx) zzf
 | int a =>
   obtain⟨t',rfl⟩:=ry;cases x with
   | non=>cases rx;exact SeqAt.EqAt.int_none a t'
   | bl b=>cases rx;exact SeqAt.EqAt.int_bool a t' b
   | int b=>obtain⟨t,rfl⟩:=rx;exact SeqAt.EqAt.int_int a t' b t
   | str b=>obtain⟨t,rfl⟩:=rx;exact SeqAt.EqAt.int_str a t' b t
   | _=>exact absurd (show false=true from fx) zzf
 | str a =>
   obtain⟨t',rfl⟩:=ry;cases x with
   | non=>cases rx;exact SeqAt.EqAt.str_none a t'
   | bl b=>cases rx;exact SeqAt.EqAt.str_bool a t' b
   | int b=>obtain⟨t,rfl⟩:=rx;exact SeqAt.EqAt.str_int a t' b t
   | str b=>obtain⟨t,rfl⟩:=rx;exact SeqAt.EqAt.str_str a t' b t
   | _=>exact absurd (show false=true from fx) zzf
 | _=>exact absurd (show false=true from fy) zzf
noncomputable def eqU(x:V)(u:Value):Bool:=match u with
 | .none=>eqV .non x
 | .bool b=>eqV (.bl b) x
 | .int i _=>eqV (.int i) x
 | .str z _=>eqV (.str z) x
 | _=>false
theorem Be{x y:V}{u:Value}(r:RelV y u)(f:Sj y=true):eqU x u=eqV y x:=by
 cases y with
 | non=>cases r;rfl
 | bl b=>cases r;rfl
 | int i=>obtain⟨t,rfl⟩:=r;rfl
 | str z=>obtain⟨t,rfl⟩:=r;rfl
 | _=>exact absurd (show false=true from f) zzf
theorem Ou{x:V}:∀ {xs:List V} {us:List Value},Vals xs us->xs.all Sj=true->us.any (eqU x)=xs.any fun y=>eqV y x
 | _,_,.nil,_=>rfl
 | y :: xs,u :: us,.cons r t,f=>by
   rw[List.all_cons,z0f] at f
   rw[z02,z02,Be r f.1,Ou t f.2]
theorem Sk{A:Around}{s:Shared}{x:V}{v:Value}(rx:RelV x v)(fx:Sj x=true):∀ {xs:List V} {us:List Value},Vals xs us->xs.all Sj=true->∀ u∈us,SeqAt.EqAt A s u v (eqU x u)
 | _,_,.nil,_=>fun u hu=>by cases hu
 | y :: xs,u :: us,.cons r t,f=>fun u' hu=>by
   rw[List.all_cons,z0f] at f
   rcases zy8.mp hu with rfl|hu
   ·rw[Be r f.1];exact zho r rx f.1 fx
   ·exact Sk rx fx t f.2 u' hu
noncomputable def inV(x:V)(xs:List V):Bool:=xs.any fun y=>eqV y x
inductive rIn(K:PySem.W.Frag)(neg:Bool)(x:V)(y:V)(H:Hp)(Q:VK):Prop where
 | mk(p)(xs)(_:y=.ref p)(_:(SqL K H p xs\/SqT K H p xs))(_:Sj x=true)(_:xs.all Sj=true)(_:Q (.bl (if neg then !inV x xs else inV x xs)) H)
theorem za3:OpR X (compareOp .In) (rIn X.K false):=by
 intro pins s σ H x y v u Q I rx ry h;obtain⟨p,xs,rfl,hq,fx,fs,q⟩:=h;cases ry;rcases hq with hq|hq
 ·obtain⟨its,r,pl,hz⟩:=I.list hq
  refine SeqAt.in_listAt (eqU x) pl.isList (fun w hw=>Sk rx fx r fs w (by simpa using hw)) ⟨.bl _,H,I,rfl,?_⟩
  rw[show its.toArray.any (eqU x)=its.any (eqU x) by simp,Ou r fs]
  exact q
 ·obtain⟨its,r,pl,hz⟩:=I.tuple hq
  refine SeqAt.in_tupleAt (eqU x) pl (fun w hw=>Sk rx fx r fs w (by simpa using hw)) ⟨.bl _,H,I,rfl,?_⟩
  rw[show its.toArray.any (eqU x)=its.any (eqU x) by simp,Ou r fs]
  exact q
theorem G8:OpR X (compareOp .NotIn) (rIn X.K true):=by
 intro pins s σ H x y v u Q I rx ry h;obtain⟨p,xs,rfl,hq,fx,fs,q⟩:=h;cases ry;rcases hq with hq|hq
 ·obtain⟨its,r,pl,hz⟩:=I.list hq
  refine SeqAt.notIn_listAt (eqU x) pl.isList (fun w hw=>Sk rx fx r fs w (by simpa using hw)) ⟨.bl _,H,I,rfl,?_⟩
  rw[show its.toArray.any (eqU x)=its.any (eqU x) by simp,Ou r fs]
  exact q
 ·obtain⟨its,r,pl,hz⟩:=I.tuple hq
  refine SeqAt.notIn_tupleAt (eqU x) pl (fun w hw=>Sk rx fx r fs w (by simpa using hw)) ⟨.bl _,H,I,rfl,?_⟩
  rw[show its.toArray.any (eqU x)=its.any (eqU x) by simp,Ou r fs]
  exact q
theorem G9:Vg X (.builtin "len") (fun xs H Q=>∃ p ys,xs=[.ref p]/\(SqL X.K H p ys\/SqT X.K H p ys)/\Q (.int ys.length) H):=by
 intro pins s σ H xs us Q I r h;obtain⟨p,ys,rfl,hq,q⟩:=h;obtain⟨u,rfl,rx⟩:=Sg r;cases rx;have hn:=Pr;rcases hq with hq|hq
 ·obtain⟨its,r',pl,hz⟩:=I.list hq
  have hlen:=r'.length;exact Calls.call_len_list pl.isList (by simp only[zzd]<;>omega) ⟨.int ys.length,H,I.tok _,⟨s.toks+1,by rw[zzd,hlen]⟩,q⟩
 ·obtain⟨its,r',pl,hz⟩:=I.tuple hq
  have hlen:=r'.length;exact len_tuple pl (by simp only[zzd]<;>omega) ⟨.int ys.length,H,I.tok _,⟨s.toks+1,by rw[zzd,hlen]⟩,q⟩
theorem Fb:Vg X (.type "list") (fun xs H Q=>∃ p ys,xs=[.ref p]/\(SqL X.K H p ys\/SqT X.K H p ys)/\∀ l,H l=none->Q (.ref l) (upd H l (.lst ys))):=by
 intro pins s σ H xs us Q I r h;obtain⟨p,ys,rfl,hq,q⟩:=h;obtain⟨u,rfl,rx⟩:=Sg r;cases rx;have fin:∀ (its:List Value),Vals ys its->ys.length<=sizeLine->∀ (h':Heap) (c':Nat),(∀ b o',s.heap.get? b=some o'->h'.get? b=some o') ->
   h'.get? s.heap.objs.size=some { cls:=.type "list",dict:=none,data:=.seq its.toArray c',slots:=#[] }->EP X pins σ Q (.ref s.heap.objs.size) { s with heap:=h' }:=fun its r' hz h' c' kp e =>
  ⟨.ref s.heap.objs.size,_,I.laid (t':=s.toks) kp (zza _) (show Y2 X.prog X.w _ h' _ (.lst ys) from⟨hz,its,c',r',e⟩),rfl,q _ (I.hok.fresh (zza _))⟩
 rcases hq with hq|hq
 ·obtain⟨its,r',pl,hz⟩:=I.list hq
  have hlen:=r'.length;obtain⟨o,ho,hc,n,hd⟩:=pl.isList;exact call_list_seq p (.inl rfl) ho hc hd (fun h' c' kp e=>fin its r' hz h' c' kp e) (by simp only[zzd]<;>omega)
 ·obtain⟨its,r',pl,hz⟩:=I.tuple hq
  have hlen:=r'.length;obtain⟨o,ho,hc,n,hd⟩:=pl;exact call_list_seq p (.inr rfl) ho hc hd (fun h' c' kp e=>fin its r' hz h' c' kp e) (by simp only[zzd]<;>omega)
theorem Ia:Vg X (.type "tuple") (fun xs H Q=>∃ p ys,xs=[.ref p]/\((SqL X.K H p ys/\∀ l,H l=none->Q (.ref l) (upd H l (.tup ys)))\/(SqT X.K H p ys/\Q (.ref p) H))):=by
 intro pins s σ H xs us Q I r h;obtain⟨p,ys,rfl,h⟩:=h;obtain⟨u,rfl,rx⟩:=Sg r;cases rx;rcases h with ⟨hq,q⟩|⟨hq,q⟩
 ·obtain⟨its,r',pl,hz⟩:=I.list hq
  have hlen:=r'.length;refine call_tuple_list pl.isList (fun h' kp=>?_) (by simp only[zzd]<;>omega)
  have I1:Inv X pins σ H { s with heap:=h' }:=I.kept (t':=s.toks) kp
  have I2:Inv X pins σ (upd H h'.objs.size (.tup ys)) { s with heap:=h'.push { cls:=.type "tuple",data:=.seq its.toArray } } :=
   I1.laid (t':=s.toks) (fun b o e=>Heap.get?_push_of_some _ e) (zza _) (show Y2 X.prog X.w _ _ _ (.tup ys) from⟨hz,its,r',IsTup.new _ _⟩)
  exact⟨.ref h'.objs.size,_,I2,rfl,q _ (I1.hok.fresh (zza _))⟩
 ·obtain⟨its,r',pl,hz⟩:=I.tuple hq
  exact call_tuple_same pl ⟨.ref p,H,I,rfl,q⟩
noncomputable def tyV(K:PySem.W.Frag)(T:String)(x:V)(H:Hp):Prop:=match x with
 | .str _=>T="str"
 | .int _=>T="int"
 | .ref p=>(T="list"/\∃ xs,SqL K H p xs)\/(T="tuple"/\∃ o,K.lookup p=some o/\o.cls=.type "tuple"/\o.dict=none) \/
   (T="dict"/\((∃ kvs,H p=some (.dK kvs))\/∃ kvs,H p=some (.dT kvs)))\/(T="set"/\∃ S n,H p=some (.set S n))
 | _=>False
theorem Bf{pins:List (Addr×Obj)}{σ:St}{H:Hp}{s:Shared}{T:String}{x:V}{v:Value}(I:Inv X pins σ H s)(r:RelV x v)(ty:tyV X.K T x H) :
  s.TypeIs v T/\∀ a,v=.ref a->∃ ob,s.heap.get? a=some ob/\ob.dict=none:=by
 cases x with
 | str z =>
   obtain⟨t,rfl⟩:=r;cases (show T="str" from ty)
   exact⟨typeIs_str s z t,fun _ e=>nomatch e⟩
 | int i =>
   obtain⟨t,rfl⟩:=r;cases (show T="int" from ty)
   exact⟨typeIs_int s i t,fun _ e=>nomatch e⟩
 | ref p =>
   cases r;rcases ty with ⟨rfl,xs,hq⟩|⟨rfl,o,hk,hc,hd⟩|⟨rfl,hk⟩|⟨rfl,S,n,hk⟩
   ·obtain⟨its,_,pl,_⟩:=I.list hq
    refine⟨pl.isList.typeIs,fun a e=>?_⟩
    cases e;obtain⟨o,n,e,c,hd,_⟩:=pl;exact⟨o,e,hd⟩
   ·refine⟨⟨o,I.kIn p o hk,hc⟩,fun a e=>?_⟩
    cases e;exact⟨o,I.kIn _ o hk,hd⟩
   ·have z:∃ o,s.heap.get? p=some o/\o.ExactDict:=by
     rcases hk with ⟨kvs,hk⟩|⟨kvs,hk⟩
     ·obtain⟨_,_,_,_,o,_,_,e,ex,_⟩:=I.hok p _ hk
      exact⟨o,e,ex⟩
     ·obtain⟨_,_,_,_,o,_,_,e,ex,_⟩:=I.hok p _ hk
      exact⟨o,e,ex⟩
    obtain⟨o,e,ex⟩:=z;refine⟨⟨o,e,ex.1⟩,fun a e2=>?_⟩
    cases e2;exact⟨o,e,ex.2.1⟩
   ·obtain⟨o,_,_,_,e,ex,_⟩:=I.hok p _ hk
    refine⟨⟨o,e,ex.1⟩,fun a e2=>?_⟩
    cases e2;exact⟨o,e,ex.2.1⟩
 | _=>exact False.elim ty
inductive zjf(K:PySem.W.Frag)(T:String)(r:V->List V->Hp->VK->Prop)(Q:VK)(x:V)(H1:Hp):Prop where
 | mk(_:tyV K T x H1)(_:r x [] H1 Q)
noncomputable def zj7(K:PySem.W.Frag)(T:String)(r:V->List V->Hp->VK->Prop)(to:TE):TE:=fun σ H Q=>to σ H fun x H1=>zjf K T r Q x H1
inductive zj8(K:PySem.W.Frag)(T:String)(r:V->List V->Hp->VK->Prop)(t:TA)(σ:L2.St)(Q:VK)(x:V)(H1:Hp):Prop where
 | mk(_:tyV K T x H1)(_:t σ H1 fun xs H2=>r x xs H2 Q)
noncomputable def tBM(K:PySem.W.Frag)(T:String)(r:V->List V->Hp->VK->Prop)(to:TE)(t:TA):TE:=fun σ H Q=>to σ H fun x H1=>zj8 K T r t σ Q x H1
variable{o e:Expr}{es:List Expr}{to:TE}{t:TA}{name:Str}{apos cpos:Pos}{T id:String}{r:V->List V->Hp->VK->Prop}
theorem zc8(pa:PlainAttrs T)(slot:Slot T name id)(hty:typeOf (.builtin id)=pure (.type "method_descriptor"))(hm:MtR X id r)(ho:PE X o to)
  (hbase:attributeBase o name X.env (eval o X.env)=eval o X.env:=by rfl) (hline:(apos.endLine == cpos.line)=true:=by rfl):PE X (.Call (.Attribute o name apos) [] [] cpos) (zj7 X.K T r to):=by
 intro pins s σ H Q I h;refine wpAny_Call_method0_late hbase hline (thn (ho pins s σ H _ I h) fun v s1 ⟨x,H1,I1,r1,ty,q1⟩=>?_)
 obtain⟨h1,h2⟩:=Bf I1 r1 ty;exact⟨T,id,pa,slot,hty,h1,h2,Calls.callWith_builtin rfl (PySem.evalArgs_none (hm pins s1 σ H1 x [] v [] Q I1 r1 .nil q1))⟩
theorem zjg(pa:PlainAttrs T)(slot:Slot T name id)(hty:typeOf (.builtin id)=pure (.type "method_descriptor"))(hm:MtR X id r)(ho:PE X o to)(ha:PA X (e :: es) t)
  (hbase:attributeBase o name X.env (eval o X.env)=eval o X.env:=by rfl)
  (hfew:((backTo cpos (starEach (e :: es) X.env)).all (fun x=>!x.1)&&(backToKw cpos (keywordEach [] X.env)).all (fun x=>x.1.isSome)
   && decide ((e :: es).length+([]:List Keyword).length+(if ([]:List Keyword).isEmpty then 0 else 1)<30))=true:=by rfl)
  (hline:(apos.endLine == cpos.line)=true:=by rfl) (hs:starEach (e :: es) X.env=(false,eval e X.env) :: starEach es X.env:=by rfl) (hplain:(backTo cpos (starEach es X.env)).any (·.1)=false:=by rfl) :
  PE X (.Call (.Attribute o name apos) (e :: es) [] cpos) (tBM X.K T r to t):=by
 intro pins s σ H Q I h;refine wpAny_Call_method_late hbase hfew hline rfl (thn (ho pins s σ H _ I h) fun v s1 ⟨x,H1,I1,r1,ty,q1⟩=>?_)
 obtain⟨h1,h2⟩:=Bf I1 r1 ty;refine⟨T,id,pa,slot,hty,h1,h2,?_⟩;have hA:=ha cpos pins s1 σ H1 _ I1 q1;rw[hs] at hA ⊢
 refine Calls.callWith_builtin (by show (false||(backTo cpos (starEach es X.env)).any (·.1))=false;rw[hplain]<;>rfl) (Calls.evalArgs_plain ?_)
 exact thn hA fun us s2 ⟨vs,H2,I2,r2,q2⟩=>hm pins s2 σ H2 x vs v us Q I2 r1 r2 q2
end
noncomputable def MtM(X:Cx)(id:String)(r:V->List V->Hp->VK->Prop):Prop :=
 ∀ (pins:List (Addr×Obj)) (s:Shared) (σ:St) (H:Hp) (x:V) (xs:List V) (v:Value) (us:List Value) (Q:VK),Inv X pins σ H s->RelV x v->Vals xs us->r x xs H Q ->
   wpAny (model X.prog X.w) X.A (call (.builtin id) (v :: us)) (EP X pins σ Q) X.xe s
theorem Vals.one:∀ {x:V} {us:List Value},Vals [x] us->∃ u,us=[u]/\RelV x u
 | _,_,.cons r .nil=>⟨_,rfl,r⟩
theorem Vals.zero:∀ {us:List Value},Vals [] us->us=[]
 | _,.nil=>rfl
theorem Vals.dropLast{xs:List V}{us:List Value}(h:Vals xs us):Vals xs.dropLast us.dropLast:=by
 induction h with
 | nil=>exact .nil
 | cons r t ih =>
   cases t with
   | nil=>exact .nil
   | cons q t'=>exact .cons r ih
theorem Vals.reverse{xs:List V}{us:List Value}(h:Vals xs us):Vals xs.reverse us.reverse:=by
 induction h with
 | nil=>exact .nil
 | cons r t ih=>rw[z03,z03];exact Vals.append ih (.cons r .nil)
theorem Bg{α:Type}(l:List α):l.eraseIdx (l.length-1)=l.dropLast:=by
 induction l with
 | nil=>rfl
 | cons a r ih =>
   cases r with
   | nil=>rfl
   | cons b r =>
     have e:(a :: b :: r).length-1=((b :: r).length-1)+1:=by
      have h1:(a :: b :: r).length=r.length+2:=rfl;have h2:(b :: r).length=r.length+1:=rfl;omega
     rw[e,List.eraseIdx_cons_succ,ih]
     all_goals rfl
section
variable{X:Cx}{pins:List (Addr×Obj)}{σ:St}{H:Hp}{s:Shared}{l b:Addr}{xs ys zs:List V}
theorem Inv.lset{its its':List Value}{n:Nat}{f:Array Value->Array Value}{t':Nat}(I:Inv X pins σ H s)(hH:H l=some (.lst xs))
  (e:s.heap.get? l=some { cls:=.type "list",data:=.seq its.toArray n }) (hf:f its.toArray=its'.toArray) (hv:Vals ys its') (hz:ys.length<=sizeLine) :
  Inv X pins σ (upd H l (.lst ys)) { s with heap:=s.heap.update l (Obj.mapSeq f),toks:=t' }:=by
 have q:=PySem.IsL.update e f;rw[hf] at q
 refine I.write (x:=l) (e:=l) (by rw[hH];exact trivial) (.inl rfl) (fun b' u hb hu=>(Heap.get?_update_other s.heap (Obj.mapSeq f) (Ne.symm hb)).trans hu) ⟨_,q⟩ ?_
 exact⟨hz,its',_,hv,q⟩
theorem Inv.lnew{its:List Value}{t':Nat}(I:Inv X pins σ H s)(hv:Vals ys its)(hz:ys.length<=sizeLine) :
  Inv X pins σ (upd H s.heap.objs.size (.lst ys)) { s with heap:=s.heap.push { cls:=.type "list",data:=.seq its.toArray },toks:=t' } :=
 I.laid (fun _ _ q=>Heap.get?_push_of_some _ q) (zza _) ⟨hz,its,0,hv,Heap.get?_push_size _ rfl⟩
theorem Inv.fresh(I:Inv X pins σ H s):H s.heap.objs.size=none:=I.hok.fresh (zza _)
theorem Inv.lstM(I:Inv X pins σ H s)(hH:H l=some (.lst xs)):xs.length<=sizeLine/\∃ (its:List Value) (n:Nat),Vals xs its/\xs.length=its.length/\s.heap.get? l=some { cls:=.type "list",data:=.seq its.toArray n }:=by
 obtain⟨z,its,n,r,e⟩:=I.hok l _ hH;exact⟨z,its,n,r,r.length,e⟩
end
section
variable{X:Cx}
inductive zfj(x:V)(vs:List V)(H:Hp)(Q:VK):Prop where
 | mk(l)(xs)(y)(_:x=.ref l)(_:vs=[y])(_:H l=some (.lst xs))(_:xs.length<sizeLine)(_:Q .non (upd H l (.lst (xs++[y]))))
theorem za4:MtM X "list.append" zfj:=by
 intro pins s σ H x vs v us Q I rx rv h;obtain⟨l,xs,y,rfl,rfl,hH,hz,q⟩:=h;cases rx;obtain⟨u,rfl,ru⟩:=rv.one;obtain⟨z,its,n,r,hl,e⟩:=I.lstM hH;refine call_meets F.slot_list_append ⟨_,e,rfl⟩ F.entry_list_append (F.args_list_append_2 _ _) (PySem.list_append l its.toArray n u (by rw[zzd];omega)) ⟨e,?_⟩
 refine⟨.non,_,I.lset (its':=its++[u]) hH e (by simp) (r.append (.cons ru .nil)) ?_,rfl,q⟩
 rw[zy2,List.length_singleton];omega
inductive zj9(x:V)(vs:List V)(H:Hp)(Q:VK):Prop where
 | mk(l)(xs)(y)(_:x=.ref l)(_:vs=[])(_:H l=some (.lst xs))(_:xs[xs.length-1]?=some y)(_:Q y (upd H l (.lst xs.dropLast)))
theorem zhp:MtM X "list.pop" zj9:=by
 intro pins s σ H x vs v us Q I rx rv h;obtain⟨l,xs,y,rfl,rfl,hH,hy,q⟩:=h;cases rx;have hus:=rv.zero;subst hus;obtain⟨z,its,n,r,hl,e⟩:=I.lstM hH;obtain⟨u,hu,ru⟩:=r.get hy;have hy':its.toArray[its.toArray.size-1]?=some u:=by
  show its.toArray[its.length-1]?=some u;rw[<- Array.getElem?_toList,<- hl];exact hu
 refine call_meets F.slot_list_pop ⟨_,e,rfl⟩ F.entry_list_pop (F.args_list_pop_1 _) (MeetsSeq.list_pop_last l its.toArray n u hy' (by rw[zzd];omega)) ⟨e,?_⟩
 refine⟨y,_,I.lset (its':=its.dropLast) hH e ?_ r.dropLast ?_,ru,q⟩
 ·show its.toArray.eraseIdxIfInBounds (its.toArray.size-1)=its.dropLast.toArray
  rw[zzd,List.eraseIdxIfInBounds_toArray,Bg]
 ·rw[List.length_dropLast]
  omega
inductive zc9(x:V)(vs:List V)(H:Hp)(Q:VK):Prop where
 | mk(l)(xs)(_:x=.ref l)(_:vs=[])(_:H l=some (.lst xs))(_:Q .non (upd H l (.lst xs.reverse)))
theorem Bh:MtM X "list.reverse" zc9:=by
 intro pins s σ H x vs v us Q I rx rv h;obtain⟨l,xs,rfl,rfl,hH,q⟩:=h;cases rx;have hus:=rv.zero;subst hus;obtain⟨z,its,n,r,hl,e⟩:=I.lstM hH;refine call_meets F.slot_list_reverse ⟨_,e,rfl⟩ F.entry_list_reverse (F.args_list_reverse_1 _) (AutoSeq1.list_reverse_list_0 l its.toArray n (by rw[zzd];omega)) ⟨e,?_⟩
 refine⟨.non,_,I.lset (its':=its.reverse) hH e (by simp) r.reverse ?_,rfl,q⟩
 rw[List.length_reverse];omega
inductive zka(x:V)(y:V)(H:Hp)(Q:VK):Prop where
 | mk(l)(b)(xs)(zs)(_:x=.ref l)(_:y=.ref b)(_:H l=some (.lst xs))(_:H b=some (.lst zs))(_:xs.length+zs.length<=sizeLine)(_:∀ p,H p=none->Q (.ref p) (upd H p (.lst (xs++zs))))
theorem Ko:OpR X (binaryOp .Add) zka:=by
 intro pins s σ H x y v u Q I rx ry h;obtain⟨l,b,xs,zs,rfl,rfl,hH,hB,hz,q⟩:=h;cases rx;cases ry;obtain⟨z,its,n,r,hl,e⟩:=I.lstM hH;obtain⟨z2,its2,n2,r2,hl2,e2⟩:=I.lstM hB;refine PySem.P.add_list e e2 ?_ (by rw[zzd,zzd];omega)
 have ea:its.toArray++its2.toArray=(its++its2).toArray:=by simp
 rw[ea];exact⟨.ref _,_,I.lnew (t':=s.toks) (r.append r2) (by rw[zy2];omega),rfl,q _ I.fresh⟩
end
section
variable{prog:Program}{w:World}{A:Around}{E:Value->Shared->Prop}{s:Shared}
end
section
variable{X:Cx}
end
end L2
namespace Att
open PySem PySem.W PySem.Calls PyProof.Rows
theorem Li{P:Params}{h:Heap}:∀ (ns:List Int) (vs:List Value),WellAll P h vs (ns.map WData.int)->IntsAre vs ns:=by
 intro ns
 induction ns with
 | nil =>
   intro vs w;rw[List.map_nil] at w
   cases w;exact .nil
 | cons n ns ih =>
   intro vs w;rw[zzc] at w
   cases w with
   | cons a b =>
     cases a;exact .cons _ _ (ih _ b)
theorem za5{l:OpenLaw}{n:Nat}(hn:l.most=some n){P:Params}{h:Heap}{args:List WData}{vals:List Value}
  (hpre:l.row.toRowW.claim.pre args=true) (hwl:WellAll P h vals args) :
  ∃ a vs ns,vals=[Value.ref a]/\args=[WData.list (ns.map WData.int)]/\h.get? a=some { cls:=.type "list",data:=.seq vs.toArray }/\IntsAre vs ns/\ns.length<=n:=by
 have hsh:WShape.hasAll [] args [.list .int]=true:=(pre_splitW hpre).1;have hc:l.pre.holds [] { args:=args }=true:=(pre_splitW hpre).2;obtain⟨d,r,rfl,h1,h2⟩:=hasAllW_cons hsh;obtain rfl:=hasAllW_nil h2;obtain⟨xs,rfl,h3⟩:=hasW_list h1;obtain⟨ns,rfl⟩:=items_int h3;have hlen:ns.length<=n:=by
  unfold OpenLaw.pre at hc
  have h4:(WTm.not (.lt (.lit (.int (n:Int))) (.len (.arg 0)))).holds [] { args:=[.list (ns.map .int)] }=true:=by
   have h4:=(holds_andW hc).1;rw[hn] at h4
   exact h4
  have h5:=condW_of h4 (w_not (w_lt w_lit (w_len_list (w_arg rfl))));rw[zyz] at h5
  refine Nat.le_of_not_lt fun q=>?_
  have q':(n:Int)<((ns.length:Nat):Int):=by omega
  first
   | (rw[zy4 q'] at h5;exact absurd h5 (by decide))
   | (simp at h5;omega)
 cases hwl with
 | cons w1 w2 =>
   cases w2;cases w1 with
   | list ho hall=>exact⟨_,_,ns,rfl,rfl,ho,Li ns _ hall,hlen⟩
theorem za6(l:OpenLaw)(args:List WData):l.row.toRowW.claim.post args (.bool true) args=true :=
 postW_of (r:=l.row.toRowW) (X:=(true == true))
  (show WShape.has [] (.bool true) .bool=true by first|rfl|decide|simp[WShape.has,WShape.arms,WShape.armsAll])
  (show (WTm.eq .res (.lit (.bool true))).value [] { args:=args,res:=some (.bool true),after:=args }=some (.bool (true == true)) from w_eq_bool (w_res rfl) w_lit) rfl
theorem attach_call{l:OpenLaw}{n:Nat}{q:Program}{loose:List Str}{XP:(Str->Option Value)->Heap->Prop}{YP:World->Heap->Prop}{d:DefRec}
  (hn:l.most=some n) (hdf:d.params.defaults=[])
  (call:∀ (w:World) (s₀ s₁:Shared) (mg mb:Str->Option Value) (fa:Addr) (o:Obj) (pm cd doc:Value) (a:Addr) (vs:List Value) (ns:List Int),
   Ground q loose [] XP w s₀ mg mb s₁.heap->YP w s₁.heap ->
   s₁.heap.get? fa=some o->o.data=.func (docDef d.name d.params d.body d.scope pm cd doc)->s₁.heap.CodeRec cd d.name->mg d.name=some (.ref fa) ->
   s₁.heap.get? a=some { cls:=.type "list",data:=.seq vs.toArray }->IntsAre vs ns->ns.length<=n->s₁.gens=#[] ->
   codeAny (model l.prog w) callerA (.call (.ref fa) ⟨[.ref a],[]⟩) (fun r s'=>r=.ok (.ret (.bool true))/\OldK s₁.heap s'.heap/\s'.os=s₁.os/\AllBare s'.gens) s₁) :
  WalkO q loose XP YP l.row.toRowW d [] (fun f vs=>PySem.call f vs):=by
 intro w s₀ s₁ mg mb G Y fa o pm cd doc dV kV ho hd hcd hD hmg hg args vals as hpre hlay hrd hwl hlo;obtain rfl:dV=.none:=Dflts.none hD hdf;obtain rfl:kV=.none:=Dflts.noKw hD;obtain⟨a,vs,ns,rfl,rfl,hobj,hints,hlen⟩:=za5 hn hpre hwl;refine enter_call (codeAny_mono (call w s₀ s₁ mg mb fa o pm cd doc a vs ns G Y ho (fd_plain hd) hcd hmg hobj hints hlen hg) fun r s' hq=>?_)
 obtain⟨rfl,h2,h3,h4⟩:=hq;exact⟨.inl ⟨.bool true,.bool true,[],rfl,fun _=>rfl,.bool true,za6 l _,fun _=>⟨List.Pairwise.nil,fun _ hm=>(nomatch hm)⟩⟩,h2,h3,h4⟩
section
variable{prog:Program}{w:World}{A:Around}{E:Value->Shared->Prop}{s:Shared}{K:Frag}
end
end Att
namespace L2
open PySem PySem.Spec PyProof.Rows
theorem Gd:∀ {vs:List Value} {ns:List Int},IntsAre vs ns->Vals (ns.map V.int) vs
 | _,_,.nil=>.nil
 | _,_,.cons n t h=>.cons ⟨t,rfl⟩ (Gd h)
noncomputable def zhq(H:Hp):Prop:=∀ b,H b=none\/∃ o xs,H b=some (.frz o (.lst xs))
theorem zda{P:Program}{w:World}{K:PySem.W.Frag}{mg mb:Str->Option Value}{CX:CXT}{k:Nat}{fa a:Addr}{fd:FuncData}{x:Str}{sp:Sp}{s₁:Shared}{vs:List Value}{ns:List Int}
  (KX:K.In s₁.heap) (hns:s₁.heap.Ns mainGlobals mg) (hb:s₁.heap.Ns builtinsNs mb) (hbb:∀ x:Str,x≠"__name__"->mb x=bootBuiltins x) (hlim:s₁.heap.NoLimit) (hg:s₁.gens=#[])
  (ha:s₁.heap.get? a=some { cls:=.type "list",data:=.seq vs.toArray }) (hi:IntsAre vs ns) (hl:ns.length<=sizeLine) (hr:W4 k callerA)
  (F:∀ base:Heap,K.In base->base.Ns mainGlobals mg->Z3 P w K mg base CX k fa fd [x] sp) (hbind:∀ (s:Shared) (u:Value),BindsTo s fd ⟨[u],[]⟩ [(x,u)])
  (hsp:∀ H:Hp,zhq H->SqL K H a (ns.map V.int)->sp [.ref a] H (fun v _=>v=.bl true) fun _ _ _=>False)
  (hCX:∀ H e s',CX [] H s₁ (fun _ _ _=>False) e s'->False) :
  codeAny (model P w) callerA (.call (.ref fa) ⟨[.ref a],[]⟩) (fun r s'=>r=.ok (.ret (.bool true))/\OldK s₁.heap s'.heap/\s'.os=s₁.os/\AllBare s'.gens) s₁:=by
 have rv:=Gd hi;have lenV:=hi.length;have core:∀ H:Hp,zhq H->SqL K H a (ns.map V.int)->HOk P w H s₁.heap->(∀ b,H b≠none->b=a)->(H a≠none->K.lookup a=none) ->
   codeAny (model P w) callerA (.call (.ref fa) ⟨[.ref a],[]⟩) (fun r s'=>r=.ok (.ret (.bool true))/\OldK s₁.heap s'.heap/\s'.os=s₁.os/\AllBare s'.gens) s₁:=by
  intro H hO hS hok hA hK;have base_of:∀ {b:Addr} {o:Obj},s₁.heap.get? b=some o->H b=none->(G3 s₁.heap H).get? b=some o:=fun e n=>zci e n
  have noA:∀ {b:Addr} {o:Obj} {es:Array DictEntry} {ep:Nat},s₁.heap.get? b=some o->o.data=.dict es ep->H b=none:=fun {b o es ep} e d=>by
   cases q:H b with
   | none=>rfl
   | some u =>
     have e':b=a:=hA b (by rw[q];simp)
     subst e';rw[ha] at e;cases e
     have d':Data.seq vs.toArray _=Data.dict es ep:=d;cases d'
  have nsK:∀ {b:Addr} {m:Str->Option Value},s₁.heap.Ns b m->(G3 s₁.heap H).Ns b m:=fun {b m} ⟨o,es,ep,e,d,r⟩=>⟨o,es,ep,base_of e (noA e d),d,r⟩
  have hKb:K.In (G3 s₁.heap H):=fun b o e=>base_of (KX b o e) (by
   cases q:H b with
   | none=>rfl
   | some u =>
     have e':b=a:=hA b (by rw[q];simp)
     subst e';rw[hK (by rw[q];simp)] at e;cases e)
  have hM:Mod K mg (G3 s₁.heap H):=⟨hKb,nsK hns,⟨mb,nsK hb,hbb⟩,let ⟨mc,h1,h2⟩:=hlim;⟨mc,nsK h1,h2⟩⟩;have e0:C9 P w K mg (G3 s₁.heap H) callerA [] s₁ H:=⟨rfl,hM,fun b o e=>zey e,Nat.le_of_eq (zas _ _),trivial,fun b hb=>absurd (show b∈([]:List Addr) from hb) (by simp),hok,.of_eq hg⟩
  refine codeAny_mono ((F _ hKb (nsK hns)).run callerA [] s₁ H ⟨[.ref a],[]⟩ [.ref a] [.ref a] _ _ hr e0 (hbind s₁ (.ref a)) (.cons rfl .nil) (hsp H hO hS)) fun r s' h=>?_
  cases r with
  | error e=>exact(hCX H e s' h).elim
  | ok fl =>
    cases fl with
    | next=>exact False.elim h
    | brk=>exact False.elim h
    | cont=>exact False.elim h
    | ret u =>
      obtain⟨v,H',os,bare,un,hok',r',q⟩:=h;have q':v=.bl true:=q;subst q';obtain rfl:u=Value.bool true:=r';refine⟨rfl,OldK.of_keep fun b o e=>?_,os,bare⟩
      cases q:H b with
      | none=>exact un.keep b o e q (by intro z;exact absurd (show b∈([]:List Addr) from z) (by simp)) (by simp)
      | some u =>
        rcases hO b with z|⟨ob,xs,z⟩
        ·rw[q] at z;cases z
        ·have z2:=un.frzs b ob _ z
         obtain⟨e1,_⟩:=hok b _ z;obtain⟨e2,_⟩:=hok' b _ z2;rw[e] at e1;cases e1
         exact e2
 cases hk:K.lookup a with
 | some o =>
   have e:=KX a o hk;rw[ha] at e
   cases e;refine core (fun _=>none) (fun _=>.inl rfl) (.inr ⟨_,vs.toArray,_,hk,rfl,rfl,rfl,by rw[zzd,lenV];exact hl,by simpa using rv⟩) (fun b u z=>by have z':(none:Option HO)=some u:=z;cases z') (fun b z=>absurd rfl z) fun z=>absurd rfl z
 | none =>
   refine core (fun b=>if b=a then some (.frz { cls:=.type "list",data:=.seq vs.toArray } (.lst (ns.map V.int))) else none) (fun b=>?_) (.inl (.inr ⟨{ cls:=.type "list",data:=.seq vs.toArray },if_pos rfl⟩)) (fun b u z=>?_) (fun b z=>?_) fun _=>hk
   ·by_cases hb:b=a
    ·exact .inr ⟨_,_,if_pos hb⟩
    ·exact .inl (if_neg hb)
   ·by_cases hb:b=a
    ·have z':=(if_pos hb).symm.trans z
     cases z';subst hb;exact⟨ha,by rw[zyz];exact hl,vs,_,rv,ha⟩
    ·have z':=(if_neg hb).symm.trans z
     cases z'
   ·by_cases hb:b=a
    ·exact hb
    ·exact absurd (if_neg hb) z
theorem zfk{l:PySem.W.OpenLaw}{n k:Nat}{q:Program}{loose:List Str}{XP:(Str->Option Value)->Heap->Prop}{YP:World->Heap->Prop}{d:DefRec}{K:Params->PySem.W.Frag}{CX:World->CXT}{sp:World->Sp}{x:Str}
  (hn:l.most=some n) (hn2:n<=sizeLine) (hdf:d.params.defaults=[]) (hr:W4 k callerA)
  (hY:∀ (w:World) (h:Heap),YP w h->(K w.params).In h)
  (F:∀ (w:World) (mg:Str->Option Value) (fa:Addr) (h:Heap),(K w.params).In h->h.Ns mainGlobals mg->mg d.name=some (.ref fa) ->
   ∃ fd:FuncData,(∀ (s:Shared) (u:Value),BindsTo s fd ⟨[u],[]⟩ [(x,u)]) /\
     ∀ base:Heap,(K w.params).In base->base.Ns mainGlobals mg->Z3 l.prog w (K w.params) mg base (CX w) k fa fd [x] (sp w))
  (hsp:∀ (w:World) (H:Hp) (a:Addr) (ns:List Int),ns.length<=n->zhq H->SqL (K w.params) H a (ns.map V.int)->sp w [.ref a] H (fun v _=>v=.bl true) fun _ _ _=>False)
  (hCX:∀ (w:World) (H:Hp) (s:Shared) (e:Value) (s':Shared),CX w [] H s (fun _ _ _=>False) e s'->False) :
  PySem.W.WalkO q loose XP YP l.row.toRowW d [] (fun f vs=>PySem.call f vs):=by
 refine Att.attach_call hn hdf fun w s₀ s₁ mg mb fa o pm cd doc a vs ns G Y ho hd hcd hmg hobj hints hlen hg=>?_
 have KX:=hY w _ Y;obtain⟨fd,hb,hF⟩:=F w mg fa _ KX G.T.g hmg;exact zda KX G.T.g G.T.b G.T.builtins G.T.nolimit hg hobj hints (zzg hlen hn2) hr hF hb (fun H hO hS=>hsp w H a ns hlen hO hS) fun H e s'=>hCX w H s₁ e s'
noncomputable def Z4(s:Stmt)(j:Nat):Stmt:=match s with
 | .ClassDef _ _ _ body _ _ _ _ _ _ _=>body.getD j (.Pass ⟨0,0,0,0⟩)
 | _=>.Pass ⟨0,0,0,0⟩
noncomputable def Tu(s:Stmt):Arguments:=match s with
 | .FunctionDef _ a _ _ _ _ _ _ _ _=>a
 | _=>{ posonlyargs:=[],args:=[],vararg:=none,kwonlyargs:=[],kw_defaults:=[],kwarg:=none,defaults:=[] }
noncomputable def Zs(s:Stmt):List Stmt:=match s with
 | .FunctionDef _ _ b _ _ _ _ _ _ _=>b
 | _=>[]
noncomputable def Zj(s:Stmt):Scope:=match s with
 | .FunctionDef _ _ _ _ _ _ sc _ _ _=>sc
 | _=>{ kind:=.function,names:=[],isGenerator:=false,isCoroutine:=false }
noncomputable abbrev E0:XK:=fun _ _ _=>False
structure Fun(K:PySem.W.Frag)(x qual:Str)(st:Stmt)(f:Addr)(fd:FuncData):Prop where
 ex:∃ (oc:Value) (od:Option Addr) (kV doc pm:Value) (an:Option Addr) (cdv ct:Value) (osl:Array (Option Value)),
  fd=PySem.W.fnOf x qual (Tu st) (Zs st) (Zj st) .none kV doc pm an cdv ct/\K.lookup f=some ⟨oc,od,.func fd,osl⟩/\PySem.W.codeIn K cdv qual=true
 kp:PySem.W.keepIn K (.ref f)=true
section
variable{P:Program}{w:World}{K:PySem.W.Frag}{mg:Str->Option Value}{base:Heap}
theorem Fun.binds{x qual:Str}{st:Stmt}{f:Addr}{fd:FuncData}{ps:List Str}(F:Fun K x qual st f fd)
  (h:∀ (kV doc pm:Value) (an:Option Addr) (cdv ct:Value) (us:List Value),us.length=ps.length->bindArgs (PySem.W.fnOf x qual (Tu st) (Zs st) (Zj st) .none kV doc pm an cdv ct) ⟨us,[]⟩=pure (ps.zip us)):Sh K fd ps []:=by
 obtain⟨oc,od,kV,doc,pm,an,cdv,ct,osl,rfl,lk,hcd⟩:=F.ex;exact .all (h kV doc pm an cdv ct)
theorem Zq{x qual:Str}{st:Stmt}{f:Addr}{oc:Value}{od an:Option Addr}{osl:Array (Option Value)}{kV doc pm cdv ct:Value}(l:K.lookup f=some ⟨oc,od,.func (PySem.W.fnOf x qual (Tu st) (Zs st) (Zj st) .none kV doc pm an cdv ct),osl⟩)
  (c:PySem.W.codeIn K cdv qual=true) (k:PySem.W.keepIn K (.ref f)=true):Fun K x qual st f (PySem.W.fnOf x qual (Tu st) (Zs st) (Zj st) .none kV doc pm an cdv ct):=⟨⟨oc,od,kV,doc,pm,an,cdv,ct,osl,rfl,l,c⟩,k⟩
end
theorem W2{A:Around}{k:Nat}(hr:W4 k A):A.units+1<cLine:=z0i (Nat.add_le_add_left (by decide:1<=64) _) hr.units
theorem Sl{n:Nat}(h:n<=1000):n<sizeLine:=z0i h (by decide)
section
variable{X:Cx}
theorem pv(i:Nat){x:Str}{pos:Pos}(hN:X.N[i]?=some x:=by rfl)(hv:Vis X.env.scope x:=by first|exact Or.inl rfl|exact Or.inr (Or.inl rfl)|exact Or.inr (Or.inr rfl))(hd:(x == ("__debug__":Str))=false:=by decide)
  (hcd:(x == ("__classdict__":Str))=false:=by decide):PE X (.Name x pos) (zez i):=zgy hN hv hd hcd
theorem za7:Vg X (.builtin "len") (fun xs H Q=>∃ a kvs,xs=[V.ref a]/\H a=some (.dK kvs)/\Q (.int kvs.length) H):=by
 intro pins s σ H xs us Q I r h;obtain⟨a,kvs,rfl,ha,q⟩:=h;obtain⟨u,rfl,ru⟩:=Sg r;cases ru;exact zi7 I (.inl ha) fun t s' I'=>⟨.int kvs.length,H,I',⟨t,rfl⟩,q⟩
end
theorem iteF{A B:Prop}(h:B):if false=true then A else B:=by
 rw[if_neg zzf];exact h
theorem iteT{A B:Prop}(h:A):if true=true then A else B:=by
 rw[if_pos rfl];exact h
theorem E1{c A B:Prop}[Decidable c](h1:c->A)(h2:¬ c->B):if c then A else B:=by
 by_cases h:c
 ·rw[if_pos h]
  exact h1 h
 ·rw[if_neg h]
  exact h2 h
noncomputable def Same(H H':Hp):Prop:=∀ b o,H b=some o->H' b=some o
theorem Same.refl(H:Hp):Same H H:=fun _ _ h=>h
theorem Same.trans{H H1 H2:Hp}(a:Same H H1)(b:Same H1 H2):Same H H2:=fun c o h=>b c o (a c o h)
theorem Same.free{H H':Hp}(e:Same H H'){l:Addr}(h:H' l=Option.none):H l=Option.none:=by
 cases q:H l with
 | none=>rfl
 | some o =>
   rw[e l o q] at h
   cases h
theorem Same.seq{K:PySem.W.Frag}{H H':Hp}{a:Addr}{xs:List V}(e:Same H H')(h:SqL K H a xs):SqL K H' a xs:=by
 rcases h with (h|⟨o,h⟩)|h
 ·exact .inl (.inl (e _ _ h))
 ·exact .inl (.inr ⟨o,e _ _ h⟩)
 ·exact .inr h
section
variable{κ:Type}[DecidableEq κ]
theorem Fc:∀ {l:List κ} {k:κ},l.Nodup->¬ k∈l->(l++[k]).Nodup
 | [],k,_,_=>by simp
 | a :: r,k,h,hk=>by
   obtain⟨h1,h2⟩:=zzo.mp h;show (a :: (r++[k])).Nodup;refine zzo.mpr ⟨fun m=>?_,Fc h2 fun m=>hk (zy8.mpr (Or.inr m))⟩
   rcases zy6.mp m with q|q
   ·exact h1 q
   ·exact hk (zy8.mpr (Or.inl (zy3.mp q).symm))
theorem za8{p:κ×V}{r:List (κ×V)}{k:κ}(e:p.1=k):X0 (p :: r) k=X0 r k:=by
 unfold X0;rw[z0j,if_neg (by simp[e])]
theorem za9{p:κ×V}{r:List (κ×V)}{k:κ}(e:¬ p.1=k):X0 (p :: r) k=p :: X0 r k:=by
 unfold X0;rw[z0j,if_pos (by simp[e])]
end
section
variable{X:Cx}{pins:List (Addr×Obj)}{σ:List (Option V)}{H H':Hp}{s:Shared}{h':Heap}
end
section
variable{P:Program}{w:World}{H H':Hp}{h h' g:Heap}{a:Addr}{o:HO}
theorem Y2.there(x:Y2 P w H h a o):∃ ob,h.get? a=some ob:=by
 cases o with
 | lst xs=>obtain⟨_,_,_,_,e⟩:=x;exact⟨_,e⟩
 | tup xs=>obtain⟨_,_,_,ob,e,_⟩:=x;exact⟨_,e⟩
 | dK kvs=>obtain⟨_,_,_,_,o,_,_,e,_⟩:=x;exact⟨_,e⟩
 | dT kvs=>obtain⟨_,_,_,_,o,_,_,e,_⟩:=x;exact⟨_,e⟩
 | set S n=>obtain⟨o,_,_,_,e,_⟩:=x;exact⟨_,e⟩
 | ins C dx fs=>obtain⟨_,_,_,e,_⟩:=x;exact⟨_,e⟩
 | own y=>obtain⟨_,e⟩:=x;exact⟨_,e⟩
 | xd fs=>obtain⟨_,⟨_,_,_,e,_⟩,_⟩:=x;exact⟨_,e⟩
 | rng lo hi=>obtain⟨_,_,_,e⟩:=x;exact⟨_,e⟩
 | frz ob u=>obtain⟨e,_⟩:=x;exact⟨_,e⟩
 | tbl ps=>exact⟨_,(show h.get? a=some _ from x)⟩
 | met f y=>exact⟨_,(show h.get? a=some _ from x)⟩
 | ext φ=>obtain⟨_,⟨_,e⟩,_⟩:=x;exact⟨_,e⟩
theorem HOk.none_of(x:HOk P w H h)(e:h.get? a=none):H a=none:=by
 cases q:H a with
 | none=>rfl
 | some u =>
   obtain⟨_,z⟩:=(x a u q).there;rw[e] at z;cases z
theorem E2{as:List Addr}(e:(PySem.W.hideAll h as).get? a=none):h.get? a=none\/a∈as:=by
 by_cases m:a∈as
 ·exact .inr m
 ·cases q:h.get? a with
  | none=>exact .inl rfl
  | some o=>rw[PySem.W.hideAll_get as q m] at e;cases e
end
structure Fly(g:Heap)(H:Hp)(h:Heap)(e T:Addr)(cls:Value):Prop where
 ex:∃ oe vs oT ts,h.get? e=some oe/\oe.cls=cls/\oe.data=.fields vs/\vs[1]?=some (.ref T)/\T≠e/\h.get? T=some oT/\oT.data=.fields ts/\ts[3]?=some .none
 newE:g.get? e=none
 newT:g.get? T=none
 freeE:H e=none
 freeT:H T=none
noncomputable def CX1(P:Program)(w:World):CXT:=fun outer H s E e s'=>∃ a T cls H',e=.ref a/\s'.os=s.os/\AllBare s'.gens/\Un (frs outer) [] H H' s.heap s'.heap/\HOk P w H' s'.heap/\Fly s.heap H' s'.heap a T cls/\E cls none H'
section
variable{X:Cx}{pins:List (Addr×Obj)}{σ:St}{H H':Hp}{s s':Shared}{h':Heap}{e T:Addr}{cls:Value}
structure Pu(X:Cx)(ch:List Addr)(h h':Heap):Prop where
 keep:∀ b o,h.get? b=some o->b∉ch->b∉frs X.stack->h'.get? b=some o
 slot:∀ b o,h.get? b=some o->b∉ch->b∈frs X.stack->∃ sl,h'.get? b=some { o with slots:=sl }
theorem Pu.of{as:List Addr}(I:Inv X pins σ H s)(st:(PySem.W.hideAll s.heap (as++frs X.stack)).StaysIn h')(up:s.heap.UpToSlots h'):Pu X as s.heap h' where
 keep:=fun b o q n1 n2=>st b o (PySem.W.hideAll_get _ q (by simp[n1,n2]))
 slot:=fun b o q _ m=>by
  obtain⟨_,o',ho,nf⟩:=I.stack.mem m;rw[q] at ho;cases ho
  exact up b o q nf
theorem Pu.hok{ch:List Addr}(I:Inv X pins σ H s)(t:Pu X ch s.heap h')(hch:∀ b∈ch,H b=none):HOk X.prog X.w H h':=fun b u q=>by
 have tr:∀ c v,H c=some v->c∉ch/\c∉frs X.stack:=fun c v z=>⟨(fun m=>by rw[hch c m] at z;cases z),(fun m=>by rw[I.stkFree c m] at z;cases z)⟩
 refine(I.hok b u q).stay (fun c v hc r=>?_) (fun _ z=>z) fun _ _ z=>z
 rcases hc with z|z
 ·subst z;exact t.keep c v r (tr c u q).1 (tr c u q).2
 ·exact t.keep c v r (tr c _ z).1 (tr c _ z).2
theorem Inv.raised(I:Inv X pins σ H s)(ho:s'.os=s.os)(hg:AllBare s'.gens)(u:Un (frs X.stack) [] H H' s.heap s'.heap)(hok:HOk X.prog X.w H' s'.heap):Inv X pins σ H' s' :=
 I.call' ho u hok hg (fun _ z=>nomatch z)
theorem Fly.flying{g:Heap}{l:List Env}(J:Inv X pins σ H s)(hl:s.heap.FunFrames X.base l)(hsub:∀ b∈frs l,b∈frs X.stack)(F:Fly g H s.heap e T cls) :
  ∃ a0,Heap.FlyingW (PySem.W.hideAll s.heap ([e,T]++frs X.stack)) l e cls a0 s.heap:=by
 obtain⟨oe,vs,oT,ts,e1,e2,e3,e4,e5,e6,e7,e8⟩:=F.ex;have sz:0<vs.size:=z0i (zzs _) (Array.getElem?_eq_some_iff.mp e4).1;refine⟨vs[0],fun b o q=>PySem.W.of_hideAll _ q,PySem.W.hideAll_none _ (by simp),PySem.W.funFrames_hide hl fun env he a ha=>?_,oe,vs,T,oT,ts,e1,⟨e2,?_⟩,e3,e4,PySem.W.hideAll_none _ (by simp),e5,e6,e7,e8⟩
 ·have:a∈frs l:=z09.mpr ⟨env,he,ha⟩
  simp[hsub a this]
 ·exact Array.getElem?_eq_getElem sz
theorem Fly.again{g:Heap}{a0:Value}(J:Inv X pins σ H s)(F:Fly g H s.heap e T cls)(hg:∀ b,s.heap.get? b=none->g.get? b=none)
  (up:s.heap.UpToSlots h') (st:(PySem.W.hideAll s.heap ([e,T]++frs X.stack)).StaysIn h') (tr:h'.TracedW (PySem.W.hideAll s.heap ([e,T]++frs X.stack)) e cls a0):∃ T',Fly g H h' e T' cls:=by
 obtain⟨oe,vs,T',oT,ts,f1,⟨f2,_⟩,f3,f4,f5,f6,f7,f8,f9⟩:=tr;refine⟨T',⟨oe,vs,oT,ts,f1,f2,f3,f4,f6,f7,f8,f9⟩,F.newE,?_,F.freeE,?_⟩
 all_goals
  rcases E2 f5 with z|z
  ·first
    | exact hg _ z
    | exact J.hok.none_of z
  ·simp only[zy6,zy8,zzz,or_false] at z
   rcases z with (z|z)|z
   ·exact absurd z f6
   ·subst z
    first
     | exact F.newT
     | exact F.freeT
   ·obtain⟨_,o,ho,nf⟩:=J.stack.mem z
    obtain⟨sl,q⟩:=up T' o ho nf;rw[f7] at q
    cases q;exact absurd f8 (nf _)
end
section
variable{P:Program}{w:World}{K:PySem.W.Frag}{mg:Str->Option Value}{base:Heap}{N:List Str}{qual:Str}{scope:Scope}{f:Addr}{cd:Value}{A:Around}{outer:List Env}{s0:Shared}{H0:Hp}{E:XK}
 {pins:List (Addr×Obj)} {σ:St} {H H':Hp} {s s':Shared} {h':Heap} {e T:Addr} {cls:Value}
theorem E3{X:Cx}{ch:List Addr}(hx:X.ex=[])(J:Inv X pins σ H s)(hst:X.stack=X.env :: X.outer)(hf:X.env.frame=some X.env.locals)(t:Pu X ch s.heap h')(hch:∀ b∈ch,X.s₀.heap.get? b=none) :
  Un X.fs [] X.H₀ H X.s₀.heap h':=by
 have nb:∀ b o,X.s₀.heap.get? b=some o->b∉ch:=fun b o q m=>by rw[hch b m] at q;cases q
 have mem:∀ b,b∈frs X.stack↔b=X.env.locals\/b∈X.fs:=fun b=>by
  unfold Cx.fs frs;rw[hst,z07,hf];exact zy8
 have neL:∀ b o,X.s₀.heap.get? b=some o->b≠X.env.locals:=fun b o q=>zzr (zzk (Heap.lt_size q) J.ok.above)
 have nx:∀ b:Addr,b∉X.ex:=fun b=>by rw[hx];simp
 refine⟨fun b o q n hb _=>?_,fun b o q n hb _=>?_,fun b o q n _=>J.base.free b o q n (nx b),fun b o q _=>?_,J.base.tups,J.base.frzs,J.base.tbls⟩
 ·refine t.keep b o (J.base.keep b o q n hb (nx b)) (nb b o q) fun m=>?_
  exact((mem b).mp m).elim (neL b o q) hb
 ·obtain⟨sl,z⟩:=J.base.slot b o q n hb (nx b)
  obtain⟨sl',z'⟩:=t.slot b _ z (nb b o q) ((mem b).mpr (.inr hb));exact⟨sl',z'⟩
 ·obtain⟨o',z⟩:=J.base.there b o q (nx b)
  by_cases m:b∈frs X.stack
  ·obtain⟨_,z'⟩:=t.slot b o' z (nb b o q) m;exact⟨_,z'⟩
  ·exact⟨o',t.keep b o' z (nb b o q) m⟩
theorem Zk:Va (CX1 P w) (cxOf (CX1 P w) P w K mg base N qual scope f cd A outer s0 H0 E) E:=by
 intro pins σ H s ev s' I h;obtain⟨a,T,cls,H',q0,ho,hg,u,hok,F,hE⟩:=h;subst q0;have J:=I.raised ho hg u hok;obtain⟨a0,hfl⟩:=F.flying J J.stack (fun _ z=>z)
 refine wpAny_leaves_onW (base:=PySem.W.hideAll s'.heap ([a,T]++frs _)) J.ok.frames rfl hfl fun h2 hfl2 up=>?_
 have old:∀ b,s.heap.get? b=none->s0.heap.get? b=none:=fun b n=>by
  cases q:s0.heap.get? b with
  | none=>rfl
  | some o =>
    obtain⟨_,z⟩:=I.base.there b o q (by show b∉([]:List Addr);simp)
    rw[n] at z;cases z
 have old2:∀ b,s'.heap.get? b=none->s0.heap.get? b=none:=fun b n=>by
  cases q:s0.heap.get? b with
  | none=>rfl
  | some o =>
    obtain⟨_,z⟩:=J.base.there b o q (by show b∉([]:List Addr);simp)
    rw[n] at z;cases z
 have t:=Pu.of (as:=[a,T]) J hfl2.1 up;have F0:Fly s0.heap H' s'.heap a T cls:=⟨F.ex,old _ F.newE,old _ F.newT,F.freeE,F.freeT⟩;obtain⟨T',F'⟩:=F0.again J old2 up hfl2.1 hfl2.2.2.2;refine⟨a,T',cls,H',rfl,J.os,J.bare,E3 rfl J rfl rfl t ?_,t.hok J ?_,F',hE⟩
 ·intro b hb
  rcases zy8.mp hb with rfl|hb
  ·exact F0.newE
  ·rcases zy8.mp hb with rfl|hb
   ·exact F0.newT
   ·cases hb
 ·intro b hb
  rcases zy8.mp hb with rfl|hb
  ·exact F.freeE
  ·rcases zy8.mp hb with rfl|hb
   ·exact F.freeT
   ·cases hb
noncomputable def zgq(X:Cx)(E:XK):Prop:=∀ (pins:List (Addr×Obj)) (σ:St) (H:Hp) (s:Shared) (h':Heap) (e C:Addr) (args:List Value),Inv X pins σ H s->Heap.MadeExcOf s.heap h' e (.ref C) args->E (.ref C) none H->X.xe (.ref e) { s with heap:=h' }
theorem Xg:zgq (cxOf (CX1 P w) P w K mg base N qual scope f cd A outer s0 H0 E) E:=by
 intro pins σ H s h1 e C args I hm hE;refine wpAny_leaves_madeW (base:=PySem.W.hideAll s.heap ([]++frs _)) (h:=s.heap) I.ok.frames rfl (fun b o q=>PySem.W.of_hideAll _ q)
  (PySem.W.funFrames_hide I.stack fun env he a ha=>by
   have:a∈frs _:=z09.mpr ⟨env,he,ha⟩
   simpa using this) hm fun h2 t hfl _ _ up=>?_
 have up2:s.heap.UpToSlots h2:=(Heap.UpToSlots.of_keeps hm.keeps).trans up;have tt:=Pu.of (as:=[]) I hfl.1 up2;have old2:∀ b,s.heap.get? b=none->s0.heap.get? b=none:=fun b n=>by
  cases q:s0.heap.get? b with
  | none=>rfl
  | some o =>
    obtain⟨_,z⟩:=I.base.there b o q (by show b∉([]:List Addr);simp)
    rw[n] at z;cases z
 obtain⟨oe,vs,T',oT,ts,f1,⟨f2,_⟩,f3,f4,f5,f6,f7,f8,f9⟩:=hfl.2.2.2;have nT:s.heap.get? T'=none:=by
  rcases E2 f5 with z|z
  ·exact z
  ·have z':T'∈frs (cxOf (CX1 P w) P w K mg base N qual scope f cd A outer s0 H0 E).stack:=(zy6.mp z).resolve_left (by simp)
   obtain⟨_,o,ho,nf⟩:=I.stack.mem z';obtain⟨sl,q⟩:=up2 T' o ho nf;rw[f7] at q
   cases q;exact absurd f8 (nf _)
 refine⟨e,T',.ref C,H,rfl,I.os,I.bare,E3 rfl I rfl rfl tt (fun _ z=>nomatch z),tt.hok I (fun _ z=>nomatch z),⟨⟨oe,vs,oT,ts,f1,f2,f3,f4,f6,f7,f8,f9⟩,old2 _ hm.new,old2 _ nT,I.hok.none_of hm.new,I.hok.none_of nT⟩,hE⟩
end
structure Ry(K:PySem.W.Frag)(mg:Str->Option Value)(x:Str)(C:Addr):Prop where
 nm:mg x=some (.ref C)
 ex:PySem.W.excIn K C [.type "ValueError",.type "Exception",.type "BaseException",.type "object"] "ValueError.__new__"=true
theorem Ry.own{K:PySem.W.Frag}{mg:Str->Option Value}{x:Str}{C:Addr}{h:Heap}(c:Ry K mg x C)(X:K.In h):OwnCls x C [.type "ValueError",.type "Exception",.type "BaseException",.type "object"] "ValueError.__new__" mg h:=by
 refine⟨c.nm,?_⟩;have q:=c.ex;unfold PySem.W.excIn at q
 split at q
 ·rename_i dd cd sl ho
  split at q
  ·rename_i C' bm k0 k1 k2 k3 n k5 hm hs
   simp only[z0f,beq_iff_eq,Bool.not_eq_true'] at q
   obtain⟨⟨⟨⟨⟨rfl,rfl⟩,hdel⟩,ht⟩,hok⟩,hni⟩:=q;obtain⟨nm,bs,mro,ns,qn,hd,sn,sub,ab,col,del⟩:=cd;dsimp only at hm hdel hok hni
   subst hm hdel;have hsl:sl=#[k0,k1,k2,k3,some (.builtin "ValueError.__new__"),k5]:=by
    obtain⟨l⟩:=sl;simp only at hs
    rw[hs]
   subst hsl;exact⟨bm,ns,nm,qn,bs,hd,sn,sub,ab,col,dd,k0,k1,k2,k3,k5,_,X _ _ ho,.of_isNs (PySem.W.isNs_of_in X hok),PySem.W.nsMap_none_of_in X hok hni,PySem.W.tail_of_in X ht⟩
  ·cases q
 ·cases q
inductive zfl(C:Addr)(E:XK)(vs:List V)(H1:Hp):Prop where
 | mk(_:vs.length<=sizeLine)(_:E (.ref C) none H1)
noncomputable def zhr(C:Addr)(E:XK)(t:TA):TS:=fun _ σ H=>t σ H fun vs H1=>zfl C E vs H1
theorem Xh{X:Cx}{x:Str}{C:Addr}{E:XK}{e₀:Expr}{rest:List Expr}{t:TA}{np cpos pos:Pos}(hl:zgq X E)(hc:X.calm=true)(c:Ry X.K X.mg x C)(hg:Gl X x)(ha:PA X (e₀ :: rest) t)
  (he:starEach (e₀ :: rest) X.env=(false,eval e₀ X.env) :: starEach rest X.env:=by rfl) (hplain:(backTo cpos (starEach rest X.env)).any (·.1)=false:=by rfl) (hd:(x == ("__debug__":Str))=false:=by decide) :
  PS X (.Raise (some (.Call (.Name x np) (e₀ :: rest) [] cpos)) none pos) (zhr C E t):=by
 intro pins s σ H D I h;have O:=c.own I.mod.kin;obtain⟨tl,N,nm,q,bs,hdct,sn,sub,ab,col,dd,k0,k1,k2,k3,k5,mN,hC,hN,hni,T⟩:=O.obj;refine wpAny_Raise_call_subT (C:=C) (nm:=nm) (q:=q) (N:=N) (bs:=bs) (bm:=tl) (hdct:=hdct) (sn:=sn) (sub:=sub) (ab:=ab) (col:=col) (dd:=dd) (k0:=k0) (k1:=k1) (k2:=k2) (k3:=k3) (k5:=k5)
  PySem.F.excBase_ValueError (mN:=mN) (T.hasType (by rfl)) (I.ok.hd hc) (by rw[he];show (false||(backTo cpos (starEach rest X.env)).any (·.1))=false;rw[hplain];rfl) hni (Oq I hg c.nm ⟨rfl,?_⟩ hd)
 have hp:=ha cpos pins s σ H _ I h;rw[he] at hp ⊢
 refine Calls.evalArgs_plain (wpAny_mono hp (fun us s2 h2=>?_) fun _ _ y=>y)
 obtain⟨vs,H1,I1,r,hlen,hE⟩:=h2;exact⟨rfl,by rw[<- r.length];exact hlen,I1.bk _ _ hC,hN.keeps I1.bk,T.keeps I1.bk,fun h' e hm=>hl _ _ _ _ _ _ _ _ I1 hm hE⟩
structure zkk(K:PySem.W.Frag)(CB:Addr):Prop where
 ty:PySem.W.typeIn K (.ref CB)=some (.type "type")
 cl:(PySem.W.clsIn K CB).isSome=true
 bx:PySem.W.mroIn K CB (.type "BaseException")=some true
end L2
namespace L2
open PySem PySem.Spec PyProof.Rows PySem.W PySem.Calls PySem.Builtin PySem.Builtin.ObjectAttr PySem.Builtin.Getset_descriptor
noncomputable def zjh(a:Addr)(cls:Value):HO:=.ext fun h=>∃ o vs,h.get? a=some o/\o.cls=cls/\o.data=.fields vs
structure zba(K:Frag)(D:Addr):Prop where
 ga:findIn K (.ref D) "__getattribute__"=some (some (.builtin "BaseException.__getattribute__"))
 gk:findIn K (.ref D) "__getattr__"=some none
 cl:(clsIn K D).isSome=true
 at_:findIn K (.ref D) "__class__"=some (some (.builtin "object.__class__"))
 gt:specialIn K (.builtin "object.__class__") "__get__"=some (some (.builtin "getset_descriptor.__get__"))
 tk:takesIn K (.builtin "object.__class__")=some true
 mo:mroIn K D (.type "object")=some true
 mx:mroIn K D (.type "BaseException")=some true
section
variable{prog:Program}{w:World}{A:Around}{E:Value->Shared->Prop}{s:Shared}{K:Frag}{x D:Addr}
theorem zdb{M:Model}{h:Heap}(X:K.In h)(c:zba K D):Looks M h (find (.ref x) (.ref D) "__class__") (.bind (.builtin "getset_descriptor.__get__") (.builtin "object.__class__")):=by
 have L1:=looks_findIn (M:=M) X c.at_;have L2:Looks M h (getOf (some (.builtin "object.__class__"))) (some (.builtin "getset_descriptor.__get__")):=looks_specialIn X c.gt;have L3:=looks_takesIn (M:=M) X c.tk;exact L1.andThen (L2.andThen ((show Looks M h (dataDescriptor? (some (.builtin "object.__class__")) (some (.builtin "getset_descriptor.__get__"))) (some (.builtin "getset_descriptor.__get__",.builtin "object.__class__")) from L3.andThen .now).andThen (Looks.tag .now)))
theorem Bi{o:Obj}{R:Result->Shared->Prop}(X:K.In s.heap)(hx:s.heap.get? x=some o)(hc:o.cls=.ref D)(c:zba K D)(q:R (.ok (.ret (.ref D))) s) :
  codeAny (model prog w) A (.call (.builtin "getset_descriptor.__get__") ⟨[.builtin "object.__class__",.ref x,.ref D],[]⟩) R s:=by
 obtain⟨hh,g,d,t,os⟩:=s;have L0:Looks (model prog w) hh (typeOf (.ref x)) (.ref D):=hc▸(Looks.ld hx).andThen .now;have Lm:=looks_mroIn (M:=model prog w) X c.mo;refine codeAny_call_builtin KF.slot_gs.plain KF.entry_gs (KF.slot_gs.check _ _ _ _ _ _ _ _ KF.type_class (KF.args_gs _ _ _) ?_);unfold Builtin.«getset_descriptor.__get__» descrGet;rw[dga_obj];refine wpAny_bind (wpAny_pure ?_);unfold descrGetter descrCheckInstance descrNameAndClass isInstance;simp only[KF.owner_class]
 repeat lk
 refine⟨Code.quiet_builtin _ (by decide +kernel),codeAny_builtin KF.entry_class ?_⟩
 unfold Builtin.«object.__class__» shownTypeOf
 repeat lk
 exact q
theorem zhs{o:Obj}{tk:Tok}{Q:Fin->Shared->Prop}(X:K.In s.heap)(hx:s.heap.get? x=some o)(hc:o.cls=.ref D)(c:zba K D)(q:Q (.done (.ret (.ref D))) s) :
  wpAny (model prog w) A (Builtin.«object.__getattribute__» ⟨[.ref x,.str "__class__" tk],[]⟩) Q E s:=by
 have L0:Looks (model prog w) s.heap (typeOf (.ref x)) (.ref D):=hc▸(Looks.ld hx).andThen .now;have Lf:=zdb (x:=x) (M:=model prog w) X c;have e1:slotArgs "__getattribute__" 1 ⟨[.ref x,.str "__class__" tk],[]⟩=pure (.ref x,[.str "__class__" tk]):=rfl;unfold Builtin.«object.__getattribute__»;rw[e1];refine wpAny_bind (wpAny_pure ?_);refine wpAny_bind (show wpAny _ _ (attrName (.str "__class__" tk)) _ _ _ from wpAny_pure ?_)
 obtain⟨hh,g,d,t,os⟩:=s;refine wpAny_bind (L0.at (wpAny_bind (Lf.at ?_)))
 show wpAny _ _ (bindTo _ _ _ _) _ _ _;unfold bindTo;dsimp only;refine wpAny_bind (wpAny_holding (wpAny_call (Bi X hx hc c ?_)));exact wpAny_pure q
theorem Ib{o:Obj}{Q:Option Value->Shared->Prop}(X:K.In s.heap)(hx:s.heap.get? x=some o)(hc:o.cls=.ref D)(c:zba K D)(q:Q (some (.ref D)) { s with toks:=s.toks+1 }) :
  wpAny (model prog w) A (getAttr? (.ref x) "__class__") Q E s:=by
 obtain⟨hh,g,d,t,os⟩:=s;have L0:Looks (model prog w) hh (typeOf (.ref x)) (.ref D):=hc▸(Looks.ld hx).andThen .now;have La:=looks_findIn (M:=model prog w) X c.ga;have Lk:=looks_findIn (M:=model prog w) X c.gk;have Lx:=looks_mroIn (M:=model prog w) X c.mx;have hb:=PySem.F.attr_ValueError.ga.bind (.ref x);have hne0:(Value.builtin "BaseException.__getattribute__" == Value.builtin "object.__getattribute__")=false:=by decide +kernel
 have hne:(onTheHeap (Value.ref D)&&Value.builtin "BaseException.__getattribute__" == Value.builtin "object.__getattribute__")=false:=by rw[hne0];rfl
 unfold getAttr? getAttrBy? getAttrBy;refine wpAny_bind (wpAny_mkText (wpAny_bind (wpAny_attempt (wpAny_holding (wpAny_bind (L0.at (wpAny_bind (La.at ?_))))))))
 dsimp only;rw[if_neg (by rw[hne];decide)]
 unfold getAttrByItsOwn;refine wpAny_bind (show wpAny _ _ (typeLookup (.ref D) "__getattr__") _ _ _ from Lk.at ?_)
 refine wpAny_bind (wpAny_attempt (wpAny_holding ?_));show wpAny _ _ (boundAndCalled _ _ _) _ _ _;unfold boundAndCalled;rw[hb];refine wpAny_bind (wpAny_pure (wpAny_call ?_));refine codeAny_call_builtin PySem.F.attr_ValueError.ga.plain PySem.F.entry_bexc_ga ?_;have hk:builtinKind "BaseException.__getattribute__"=some .slot:=by decide +kernel
 have hsplit:splitId "BaseException.__getattribute__"=some ("BaseException","__getattribute__"):=by decide +kernel
 have ha:=PySem.F.args_bexc_ga (.ref x) (.str "__class__" t);simp only[checkBuiltinCall,hk,hsplit,List.cons_append,List.nil_append];unfold isInstance
 repeat (first|with_reducible refine zhs X hx hc c ?_|lk)
 exact q
theorem zdc(c:zba K D):KitX K (.ref x) (.ref D) (fun h=>∃ o,h.get? x=some o/\o.cls=.ref D) where
 ty:=fun M h _ p=>by obtain⟨o,hx,hc⟩:=p;exact hc▸(Looks.ld hx).andThen .now
 it:=fun _ _ X _=>by
  have z:=c.cl;unfold clsIn at z
  split at z
  ·rename_i ho
   intro A' Q' E' s' k q;unfold isType loadHead;exact wpAny_bind (wpAny_loadPart (k _ _ (X _ _ ho)) (wpAny_pure q))
  ·cases z
 ne:=fun h tp dd its n sl X htp=>by
  refine Bool.eq_false_iff.mpr fun q=>?_
  have e:D=tp:=Value.ref.inj (beq_iff_eq.mp q);subst e;have z:=c.cl;unfold clsIn at z
  split at z
  ·rename_i ho
   have z:=(X _ _ ho).symm.trans htp;cases z
  ·cases z
 ca:=fun X p q=>by obtain⟨o,hx,hc⟩:=p;exact Ib X hx hc c q
end
inductive TyX(K:Frag)(H:Hp)(x:V)(t:Value):Prop where
 | of (h:Nt K H x t):TyX K H x t
 | exc {a D:Addr} (ex:x=.ref a) (et:t=.ref D) (h:H a=some (zjh a (.ref D))) (c:zba K D):TyX K H x t
noncomputable def zji:V->Value
 | .ty n=>.type n
 | .ref a=>.ref a
 | _=>.none
inductive zjj(K:Frag)(xs:List V)(H:Hp)(Q:VK):Prop where
 | mk(x)(c)(t)(b)(_:xs=[x,c])(_:TyX K H x t)(_:((∃ n,c=.ty n)\/∃ a,c=.ref a))(_:kitOne K t (zji c)=some b)(_:Q (.bl b) H)
theorem zdd{X:Cx}:Vg X (.builtin "isinstance") (zjj X.K):=by
 intro pins s σ H xs us Q I r h;obtain⟨x,c,t,b,rfl,ty,hc,hk,q⟩:=h;obtain⟨u,w',rfl,r1,r2⟩:=zcs r;have e:w'=zji c:=by
  rcases hc with ⟨n,rfl⟩|⟨a,rfl⟩
  ·exact r2
  ·exact r2
 subst e;cases ty with
 | of ty=>exact zaz I r1 ty hk fun tk=>⟨.bl b,H,I.tok tk,rfl,q⟩
 | @exc a D ex et ha cl =>
   subst ex et;cases (show u=Value.ref a from r1)
   obtain⟨⟨o,vs,ho,hcl,_⟩,_⟩:=(show Y2 X.prog X.w H s.heap a (zjh a (.ref D)) from I.hok a _ ha)
   exact kia_one (zdc cl) I.kIn ⟨o,ho,hcl⟩ hk (fun z=>nomatch z) fun tk=>⟨.bl b,H,I.tok tk,rfl,q⟩
section
variable{X:Cx}{pins:List (Addr×Obj)}{σ:St}{H:Hp}{s:Shared}
end
section
variable{X:Cx}{pins pins':List (Addr×Obj)}{σ σ' lk:St}{H:Hp}{s:Shared}{E:Value->Shared->Prop}{e:Addr}
end
structure zkm(X:Cx):Prop where
 ex:X.ex=[]
 lk:X.lk=[]
 st:X.stack=X.env :: X.outer
 fr:X.env.frame=some X.env.locals
section
variable{X:Cx}{pins:List (Addr×Obj)}{σ:St}{H:Hp}{s:Shared}{E:Value->Shared->Prop}
end
section
variable{X:Cx}{as:List Nat}{i:Nat}{CB:Addr}{tb:XK->TS}{th:TS}{body suite:List Stmt}{b₀:Stmt}{n cx:Str}{p hpos pos:Pos}
end
section
variable{P:Program}{w:World}{K:PySem.W.Frag}{mg:Str->Option Value}{base:Heap}
theorem Fun.okX{x qual:Str}{st:Stmt}{f:Addr}{fd:FuncData}{N ps:List Str}{k:Nat}{sp:Sp}(F:Fun K x qual st f fd)(S:Zl N ps (Zj st))(len:∀ vs H Q E,sp vs H Q E->vs.length=ps.length)
  (hbody:∀ (cdv:Value) (A:Around) (outer:List Env) (s:Shared) (H:Hp) (vs:List V) (Q:VK) (E:XK),W4 k (A.deeper (envOfC qual (Zj st) s.heap.objs.size f cdv))->sp vs H Q E ->
   ∃ t,PSs (cxOf (CX1 P w) P w K mg base N qual (Zj st) f cdv A outer s H E) (Zs st) t/\t { nx:=fun _ H'=>Q .non H',rt:=Q } (Mr N vs) H):Z3 P w K mg base (CX1 P w) (k+1) f fd ps sp:=by
 obtain⟨oc,od,kV,doc,pm,an,cdv,ct,osl,rfl,lk,hcd⟩:=F.ex;exact zi5 lk hcd S len fun A outer s H vs Q E hr hsp=>hbody cdv A outer s H vs Q E hr hsp
end
noncomputable def Ie{α:Type}(p:α->Prop):List α->Prop
 | []=>True
 | a :: r=>p a/\Ie p r
theorem Ie.get{α:Type}{p:α->Prop}:∀ {l:List α} {a:α},Ie p l->a∈l->p a
 | _ :: _,_,h,.head _=>h.1
 | _ :: _,_,h,.tail _ m=>Ie.get h.2 m
noncomputable def Yt(X:Cx)(pn:List (Addr×Obj))(Nc:List Str)(scope:Scope)(cl:List (Str×Addr))(s₀:Shared)(H₀:Hp)(fp:List Addr)(C:Addr):Cx :=
 { X with N:=Nc,s₀:=s₀,H₀:=H₀,env:=compEnvC scope cl C X.env,outer:=X.stack,stack:=X.stack,ex:=fp,fn:=fun _=>false,pn:=pn,xe:=fun _ _=>False,lk:=[] }
noncomputable def cs(js:List Nat)(σ:St)(x:V):St:=some x :: js.map fun j=>(σ[j]?).getD none
noncomputable def PTs(X:Cx)(ifs:List Expr)(t:TT):Prop :=
 ∀ (pins:List (Addr×Obj)) (s:Shared) (σ:St) (H:Hp) (Q:Bool->Hp->Prop),Inv X pins σ H s->t σ H Q ->
   wpAny (model X.prog X.w) X.A (forIn ifs true fun c r=>if r=true then do let ok <- isTrue c X.env (eval c X.env);pure (ForInStep.yield ok) else pure (ForInStep.yield r)) (TP X pins σ Q) X.xe s
noncomputable def tYes:TT:=fun _ H Q=>Q true H
theorem Uc{X:Cx}:PTs X [] tYes:=fun _ _ _ H _ I h=>wpAny_tests_nil ⟨H,I,h⟩
theorem Ov{X:Cx}{c:Expr}{t:TT}(h:PT X c t):PTs X [c] t:=fun pins s σ H Q I q=>wpAny_tests_one (h pins s σ H Q I q)
noncomputable def Ar(J:It)(js:List Nat)(tt:TT)(te:TE)(σ:St)(H:Hp)(Q:VK):Prop:=∃ W:Nat->Nat->List V->Hp->Prop,(∃ m,W 0 m [] H)/\∀ i m ys H,W i m ys H ->
 (J.stop i H/\ys.length<=sizeLine/\∀ p,H p=none->Q (.ref p) (upd H p (.lst ys))) \/
 (J.go i H/\ys.length<sizeLine/\∃ N:List V->Hp->Prop,(∀ ys' H',N ys' H'->∃ m',m' < m/\W (i+1) m' ys' H')/\∀ x H',J.yld i H x H'->tt (cs js σ x) H' fun b H2=>if b=true then te (cs js σ x) H2 fun y H3=>N (ys++[y]) H3 else N ys H2)
noncomputable def zgr(wi:TI)(js:List Nat)(tt:TT)(te:TE):TE:=fun σ H Q=>wi σ H fun J H1=>Ar J js tt te σ H1 Q
section
variable{X:Cx}{elt iter:Expr}{x:Str}{px pos:Pos}{ifs:List Expr}{scope:Scope}{cl:List (Str×Addr)}{ys:List Str}{js:List Nat}
structure As(X:Cx)(x:Str)(scope:Scope)(cl:List (Str×Addr))(ys:List Str)(js:List Nat):Prop where
 clos:closureFor scope X.env=pure cl
 kind:scope.kind=.function
 names:∀ y∈scope.names,y.2=.local->scope.names.lookup y.1=some .local
 nocell:∀ y∈scope.names,y.2≠.cell
 own:scope.names.lookup x=some .local
 nd:(x :: ys).Nodup
 at_:js.map (X.N[·]?)=ys.map some
 free:Ie (fun y=>X.env.kindOf y=some .cell/\(relabel scope X.env).names.lookup y=some .cell/\cl.lookup y=X.env.cells.lookup y) ys
 only:Ie (fun p=>X.env.cells.lookup p.1=some p.2) cl
 vis:∀ y∈scope.names,y.2=.free->y.1∈ys
theorem Ow{env:Env}:∀ {names:List (Str×NameKind)} {y:Str},(names.map fun (n,k)=>if (k == NameKind.free&&env.scope.kind == .function&&env.kindOf n == some .cell) then (n,NameKind.cell) else (n,k)).lookup y=some .cell \/
  (names.map fun (n,k)=>if (k == NameKind.free&&env.scope.kind == .function&&env.kindOf n == some .cell) then (n,NameKind.cell) else (n,k)).lookup y=some .free->∃ k,(y,k)∈names/\(k=.cell\/k=.free)
 | [],_,h=>by rcases h with h|h<;>simp at h
 | (n,k) :: r,y,h=>by
   by_cases hx:y=n
   ·subst hx
    refine⟨k,zzt,?_⟩;rw[zzc] at h
    dsimp only at h
    by_cases hc:(k == NameKind.free&&env.scope.kind == .function&&env.kindOf y == some .cell)=true
    ·simp only[z0f,beq_iff_eq] at hc
     exact .inr hc.1.1
    ·rw[if_neg hc] at h
     simp only[zz1,beq_self_eq_true] at h
     rcases h with h|h
     ·exact .inl (Option.some.inj h)
     ·exact .inr (Option.some.inj h)
   ·have hb:(y == n)=false:=zzn.mpr hx
    have ih:=@Ow env r y;rw[zzc] at h
    have key:∀ z:Str×NameKind,z.1=n->List.lookup y (z :: (r.map fun (n,k)=>if (k == NameKind.free&&env.scope.kind == .function&&env.kindOf n == some .cell) then (n,NameKind.cell) else (n,k))) =
      List.lookup y (r.map fun (n,k)=>if (k == NameKind.free&&env.scope.kind == .function&&env.kindOf n == some .cell) then (n,NameKind.cell) else (n,k)):=fun z hz=>by
     obtain⟨z1,z2⟩:=z;cases hz;simp only[zz1,hb]
    rw[key _ (by dsimp only;split<;>rfl)] at h
    obtain⟨k',m,q⟩:=ih h;exact⟨k',zzi _ m,q⟩
variable{wi:TI}{tt:TT}{te:TE}
end
theorem We{K:PySem.W.Frag}{js:List Nat}{tt:TT}{te:TE}{a:Addr}{xs:List V}{σ:St}{H:Hp}{Q:VK}(Pv:Nat->List V->Hp->Prop)(h0:Pv 0 [] H)(hl:∀ i ys H,i<=xs.length->Pv i ys H->SqL K H a xs)(hz:xs.length<=sizeLine)
  (hy:∀ i ys H,Pv i ys H->ys.length<=i)
  (hs:∀ i x ys H,xs[i]?=some x->Pv i ys H->tt (cs js σ x) H fun b H2=>if b=true then te (cs js σ x) H2 fun y H3=>Pv (i+1) (ys++[y]) H3 else Pv (i+1) ys H2)
  (hd:∀ ys H,Pv xs.length ys H->∀ p,H p=none->Q (.ref p) (upd H p (.lst ys))):Ar (Itl K a) js tt te σ H Q:=by
 refine⟨fun i m ys H=>m=xs.length-i/\i<=xs.length/\Pv i ys H,⟨xs.length,by simp,zzs _,h0⟩,?_⟩
 rintro i m ys H ⟨rfl,hi,p⟩;have q:=hl i ys H hi p;have ly:=hy i ys H p;by_cases hlt:i<xs.length
 ·refine .inr ⟨⟨xs,xs[i],q,by simp[hlt]⟩,by omega,Pv (i+1),fun ys' H' p'=>⟨xs.length-(i+1),by omega,rfl,hlt,p'⟩,fun x H' y=>?_⟩
  obtain⟨e,y⟩:=y;subst e;exact hs i x ys _ (y xs q) p
 ·have e:i=xs.length:=by omega
  subst e;exact .inl ⟨⟨xs,q,zza _⟩,by omega,hd ys H p⟩
theorem Bj{js:List Nat}{tt:TT}{te:TE}{lo:Int}{n:Nat}{σ:St}{H:Hp}{Q:VK}(Pv:Nat->List V->Hp->Prop)(h0:Pv 0 [] H)(hz:n<=sizeLine)(hy:∀ i ys H,Pv i ys H->ys.length<=i)
  (hs:∀ i ys H,i<n->Pv i ys H->tt (cs js σ (.int (lo+i))) H fun b H2=>if b=true then te (cs js σ (.int (lo+i))) H2 fun y H3=>Pv (i+1) (ys++[y]) H3 else Pv (i+1) ys H2)
  (hd:∀ ys H,Pv n ys H->∀ p,H p=none->Q (.ref p) (upd H p (.lst ys))):Ar (Itr lo n) js tt te σ H Q:=by
 refine⟨fun i m ys H=>m=n-i/\i<=n/\Pv i ys H,⟨n,by simp,zzs _,h0⟩,?_⟩
 rintro i m ys H ⟨rfl,hi,p⟩;have ly:=hy i ys H p;by_cases hlt:i<n
 ·refine .inr ⟨hlt,by omega,Pv (i+1),fun ys' H' p'=>⟨n-(i+1),by omega,rfl,hlt,p'⟩,fun x H' y=>?_⟩
  obtain⟨e,y⟩:=y;subst e y;exact hs i ys _ hlt p
 ·have e:i=n:=by omega
  subst e;exact .inl ⟨zza _,by omega,hd ys H p⟩
theorem Ge{js:List Nat}{te:TE}{lo:Int}{n:Nat}{σ:St}{H:Hp}{Q:VK}(f:Nat->V)(hz:n<=sizeLine)
  (hs:∀ i (R:VK),i<n->R (f i) H->te (cs js σ (.int (lo+i))) H R) (hd:∀ p,H p=none->Q (.ref p) (upd H p (.lst ((List.range n).map f)))):Ar (Itr lo n) js tYes te σ H Q:=by
 refine Bj (fun i ys H'=>H'=H/\ys=(List.range i).map f) ⟨rfl,rfl⟩ hz (fun i ys H' ⟨_,e⟩=>by rw[e,zyz,z0g];exact zza _) (fun i ys H' hi ⟨e1,e2⟩=>?_) fun ys H' ⟨e1,e2⟩ p hp=>?_
 ·subst e1
  unfold tYes;dsimp only;rw[if_pos rfl];refine hs i _ hi ⟨rfl,?_⟩;rw[e2,List.range_succ,zy7];rfl
 ·subst e1
  rw[e2];exact hd p hp
theorem Rz:∀ {xs:List V} {us:List Value},xs.length=us.length->(∀ (j:Nat) x u,xs[j]?=some x->us[j]?=some u->RelV x u)->Vals xs us
 | [],[],_,_=>.nil
 | x :: xs,u :: us,hl,h=>.cons (h 0 x u rfl rfl) (Rz (by simpa using hl) fun j x' u' h1 h2=>h (j+1) x' u' (by simpa using h1) (by simpa using h2))
noncomputable abbrev TF:=St->Hp->(Hp->Prop)->Prop
noncomputable def PF(X:Cx)(e:Expr)(t:TF):Prop :=
 ∀ (pins:List (Addr×Obj)) (s:Shared) (σ:St) (H:Hp) (k:Hp->Prop),Inv X pins σ H s->t σ H k ->
   wpAny (model X.prog X.w) X.A (eval e X.env) (fun u s'=>∃ y tk H',u=.str y tk/\y.length<=10000/\Inv X pins σ H' s'/\k H') X.xe s
noncomputable def PFs(X:Cx)(es:List Expr)(t:TF):Prop :=
 ∀ (pins:List (Addr×Obj)) (s:Shared) (σ:St) (H:Hp) (k:Hp->Prop) (acc:Str),Inv X pins σ H s->acc.length+10000*es.length<=sizeLine->t σ H k ->
   Joins (model X.prog X.w) X.A X.xe (evalEach es X.env) acc (fun out s'=>out.length<=sizeLine/\∃ H',Inv X pins σ H' s'/\k H') s
noncomputable def zjk:TF:=fun _ H k=>k H
noncomputable def zjl(t u:TF):TF:=fun σ H k=>t σ H fun H1=>u σ H1 k
noncomputable def okF(v:V):Prop:=(∃ i,v=.int i/\i.natAbs.log2<1920)\/∃ y,v=.str y/\y.length<=10000
noncomputable def zkb(te:TE):TF:=fun σ H k=>te σ H fun v H1=>okF v/\k H1
noncomputable def zjm(t:TF):TE:=fun σ H Q=>t σ H fun H1=>∀ z,Q (.str z) H1
section
variable{X:Cx}{e:Expr}{es:List Expr}{te:TE}{t u:TF}{pos:Pos}
theorem X1{x:Str}{j}(h:x.length<=10000):PF X (.Constant (.str x) j pos) zjk:=fun _ _ _ H _ I hk=>Calls.Constant_str ⟨x,_,H,rfl,h,I.tok _,hk⟩
theorem Vb(he:PE X e te):PF X (.FormattedValue e (-1) none pos) (zkb te):=by
 intro pins s σ H k I h;refine FormattedValue_plain (thn (he pins s σ H _ I h) fun v s1 ⟨x,H1,I1,r1,ok,hk⟩=>?_)
 rcases ok with ⟨i,rfl,hi⟩|⟨y,rfl,hy⟩
 ·obtain⟨t,rfl⟩:=r1
  refine formatField_int_small hi ⟨_,_,H1,rfl,?_,I1.tok _,hk⟩;have:=int_text_length_le (k:=1920) (by decide) hi
  show (Str.ofString (toString i)).length<=10000;rw[PySem.ofString_length];omega
 ·obtain⟨t,rfl⟩:=r1
  exact formatField_str (fun t' tk=>⟨y,t',H1,rfl,hy,I1.tok tk,hk⟩) (by rw[sizeLine_eq];omega)
theorem Vk:PFs X [] zjk:=fun _ _ _ H _ _ I hz hk=>⟨by simpa using hz,H,I,hk⟩
theorem Z2(h1:PF X e t)(h2:PFs X es u)(hs:evalEach (e :: es) X.env=eval e X.env :: evalEach es X.env:=by rfl):PFs X (e :: es) (zjl t u):=by
 intro pins s σ H k acc I hz h;rw[hs];refine thn (h1 pins s σ H _ I h) fun v s1 ⟨y,tk,H1,e1,hy,I1,hk⟩=>⟨y,tk,e1,?_,?_⟩
 ·rw[strLen_append];rw[zzl] at hz;omega
 ·exact h2 pins s1 σ H1 k _ I1 (by rw[strLen_append];rw[zzl] at hz;omega) hk
theorem Vl{e':Expr}(h:PFs X (e :: e' :: es) t)(hl:es.length<=100):PE X (.JoinedStr (e :: e' :: es) pos) (zjm t):=by
 intro pins s σ H Q I h';refine wpAny_JoinedStr ?_;have q:=h pins s σ H _ Str.empty I (by rw[sizeLine_eq];simp only[zzl];have:Str.empty.length=0:=rfl;omega) h'
 have mono:∀ (ps:List (Sem Value)) (acc:Str) (Q1 Q2:Str->Shared->Prop) (s:Shared),(∀ o s,Q1 o s->Q2 o s)->Joins (model X.prog X.w) X.A X.xe ps acc Q1 s->Joins (model X.prog X.w) X.A X.xe ps acc Q2 s:=by
  intro ps
  induction ps with
  | nil=>intro acc Q1 Q2 s m z;exact m _ _ z
  | cons p r ih=>intro acc Q1 Q2 s m z;exact thn z fun v s1 ⟨y,tk,e1,hz,z1⟩=>⟨y,tk,e1,hz,ih _ _ _ _ m z1⟩
 refine mono _ _ _ _ _ (fun out s1 ⟨hz,H1,I1,hk⟩=>⟨hz,.str out,H1,I1.tok _,⟨_,rfl⟩,hk out⟩) q
end
section
variable{X:Cx}
theorem Bl(hc:X.calm=true):Vg X (.type "list") (fun xs H Q=>∃ a kvs,xs=[.ref a]/\Rd H a (.dK kvs)/\∀ l,H l=none->Q (.ref l) (upd H l (.lst (kvs.map fun kv=>kV kv.1)))):=by
 intro pins s σ H xs us Q I r h;obtain⟨a,kvs,rfl,ha,q⟩:=h;obtain⟨u,rfl,ru⟩:=Sg r;cases (show u=Value.ref a from ru)
 obtain⟨hz,lo,vs,kv,o,es,ep,e1,e2⟩:=Rw I.hok ha;have hl:kvs.length=vs.length:=KV.length kv;refine PySem.W.kdl_call (PySem.W.kdl_dict (knd:=Yj X.prog X.w) (kvs:=vs) (ep:=ep) lo) (I.ok.hd hc) ⟨o,es,e1,e2⟩ (by rw[<- hl];exact hz) fun h' tk acc c hk hS hacc=>?_
 have hf:H s.heap.objs.size=none:=I.hok.fresh (zza _);refine⟨.ref s.heap.objs.size,upd H s.heap.objs.size (.lst (kvs.map fun kv=>kV kv.1)),I.laid (t':=tk) hk (zza _) ?_,rfl,q _ hf⟩
 obtain⟨accl⟩:=acc;refine⟨by rw[zyz];exact hz,accl,c,?_,hS⟩
 have hlen:accl.length=vs.length:=by have:=hacc.1;simpa using this
 refine Rz (by rw[zyz,hl,hlen]) fun j x u hx hu=>?_
 obtain⟨k,y,hk1,hk2⟩:=hacc.2 j u (by simpa using hu)
 have ek:=congrArg (·[j]?) (KV.keys kv)
 simp only[zy5,hk1,z0b] at ek
 rw[zy5] at hx
 cases hkv:kvs[j]? with
 | none=>rw[hkv] at hx;cases hx
 | some p =>
   rw[hkv] at hx ek
   have e1:kV p.1=x:=Option.some.inj hx;have e2:p.1=k:=Option.some.inj ek;rw[<- e1,e2];rcases Yw hk2 with ⟨i,t,rfl,rfl⟩|⟨z,t,rfl,rfl⟩
   ·exact⟨t,rfl⟩
   ·exact⟨t,rfl⟩
end
inductive Dt where
 | non|bl (b:Bool)|int (i:Int)|str (x:Str)|lst (xs:List Dt)|tup (xs:List Dt)
mutual
inductive Is(K:PySem.W.Frag)(H:Hp):V->Dt->Prop where
 | non:Is K H .non .non
 | bl (b:Bool):Is K H (.bl b) (.bl b)
 | int (i:Int):Is K H (.int i) (.int i)
 | str (x:Str):Is K H (.str x) (.str x)
 | lst {a:Addr} {xs:List V} {ds:List Dt} (h:SqL K H a xs) (hs:Wc K H xs ds):Is K H (.ref a) (.lst ds)
 | tup {a:Addr} {xs:List V} {ds:List Dt} (h:SqT K H a xs) (hs:Wc K H xs ds):Is K H (.ref a) (.tup ds)
inductive Wc(K:PySem.W.Frag)(H:Hp):List V->List Dt->Prop where
 | nil:Wc K H [] []
 | cons {x:V} {xs:List V} {d:Dt} {ds:List Dt} (h:Is K H x d) (t:Wc K H xs ds):Wc K H (x :: xs) (d :: ds)
end
mutual
noncomputable def eqD:Dt->Dt->Bool
 | .non,.non=>true
 | .bl a,.bl b=>a == b
 | .bl a,.int b=>(if a then 1 else 0) == b
 | .int a,.bl b=>a == (if b then 1 else 0)
 | .int a,.int b=>a == b
 | .str a,.str b=>a == b
 | .lst xs,.lst ys=>Q7 xs ys
 | .tup xs,.tup ys=>Q7 xs ys
 | _,_=>false
noncomputable def Q7:List Dt->List Dt->Bool
 | [],[]=>true
 | x :: xs,y :: ys=>eqD x y&&Q7 xs ys
 | _,_=>false
end
mutual
theorem zde:∀ d:Dt,eqD d d=true
 | .non=>by simp[eqD]
 | .bl _=>by simp[eqD]
 | .int _=>by simp[eqD]
 | .str _=>by simp[eqD]
 | .lst xs=>by rw[eqD];exact Nv xs
 | .tup xs=>by rw[eqD];exact Nv xs
theorem Nv:∀ ds:List Dt,Q7 ds ds=true
 | []=>by simp[Q7]
 | d :: ds=>by rw[Q7,zde d,Nv ds];rfl
end
mutual
noncomputable def zkc:Dt->Nat
 | .lst xs=>zdf xs+1
 | .tup xs=>zdf xs+1
 | _=>0
noncomputable def zdf:List Dt->Nat
 | []=>0
 | d :: ds=>max (zkc d) (zdf ds)
end
section
variable{X:Cx}{pins:List (Addr×Obj)}{σ:St}{H:Hp}{s:Shared}
theorem R0(I:Inv X pins σ H s){a:Addr}{xs ys:List V}(h1:SqL X.K H a xs)(h2:SqT X.K H a ys):False:=by
 obtain⟨_,_,⟨o,n,e1,e2,_⟩,_⟩:=I.list h1;obtain⟨_,_,⟨o',e1',e2',_⟩,_⟩:=I.tuple h2;rw[e1] at e1';cases e1'
 exact absurd (Value.type.inj (e2.symm.trans e2')) (by decide)
mutual
theorem Is.inj(I:Inv X pins σ H s):∀ {x:V} {d d':Dt},Is X.K H x d->Is X.K H x d'->d=d'
 | _,_,_,.non,.non=>rfl
 | _,_,_,.bl _,.bl _=>rfl
 | _,_,_,.int _,.int _=>rfl
 | _,_,_,.str _,.str _=>rfl
 | _,_,_,.lst h hs,.lst h' hs'=>by
   have e:=I.list_inj h h';subst e;rw[Wc.inj I hs hs']
 | _,_,_,.tup h hs,.tup h' hs'=>by
   have e:=I.tuple_inj h h';subst e;rw[Wc.inj I hs hs']
 | _,_,_,.lst h _,.tup h' _=>(R0 I h h').elim
 | _,_,_,.tup h _,.lst h' _=>(R0 I h' h).elim
theorem Wc.inj(I:Inv X pins σ H s):∀ {xs:List V} {ds ds':List Dt},Wc X.K H xs ds->Wc X.K H xs ds'->ds=ds'
 | _,_,_,.nil,.nil=>rfl
 | _,_,_,.cons h t,.cons h' t'=>by rw[Is.inj I h h',Wc.inj I t t']
end
mutual
noncomputable def toPy:Dt->PyData
 | .non=>.none
 | .bl b=>.bool b
 | .int i=>.int i
 | .str x=>.str x
 | .lst xs=>.list (X3 xs)
 | .tup xs=>.tuple (X3 xs)
noncomputable def X3:List Dt->List PyData
 | []=>[]
 | d :: ds=>toPy d :: X3 ds
end
mutual
theorem Ox:∀ d e:Dt,PyData.eqv (toPy d) (toPy e)=eqD d e
 | .non,e=>by cases e<;>simp[toPy,eqD,PyData.eqv]
 | .bl _,e=>by cases e<;>simp[toPy,eqD,PyData.eqv]
 | .int _,e=>by cases e<;>simp[toPy,eqD,PyData.eqv]
 | .str _,e=>by cases e<;>simp[toPy,eqD,PyData.eqv]
 | .lst xs,.lst ys=>by rw[toPy,toPy,PyData.eqv,eqD];exact Nw xs ys
 | .tup xs,.tup ys=>by rw[toPy,toPy,PyData.eqv,eqD];exact Nw xs ys
 | .lst _,.non=>by simp[toPy,eqD,PyData.eqv]
 | .lst _,.bl _=>by simp[toPy,eqD,PyData.eqv]
 | .lst _,.int _=>by simp[toPy,eqD,PyData.eqv]
 | .lst _,.str _=>by simp[toPy,eqD,PyData.eqv]
 | .lst _,.tup _=>by simp[toPy,eqD,PyData.eqv]
 | .tup _,.non=>by simp[toPy,eqD,PyData.eqv]
 | .tup _,.bl _=>by simp[toPy,eqD,PyData.eqv]
 | .tup _,.int _=>by simp[toPy,eqD,PyData.eqv]
 | .tup _,.str _=>by simp[toPy,eqD,PyData.eqv]
 | .tup _,.lst _=>by simp[toPy,eqD,PyData.eqv]
theorem Nw:∀ ds es:List Dt,PyData.eqvAll (X3 ds) (X3 es)=Q7 ds es
 | [],[]=>by simp[X3,Q7,PyData.eqvAll]
 | [],_ :: _=>by simp[X3,Q7,PyData.eqvAll]
 | _ :: _,[]=>by simp[X3,Q7,PyData.eqvAll]
 | d :: ds,e :: es=>by rw[X3,X3,PyData.eqvAll,Q7,Ox d e,Nw ds es]
end
mutual
theorem Is.reads(I:Inv X pins σ H s):∀ {d:Dt} {x:V} {u:Value},Is X.K H x d->RelV x u->∃ as,Reads s.heap u (toPy d) as
 | _,_,_,.non,r=>by cases r;exact⟨_,.none⟩
 | _,_,_,.bl b,r=>by cases r;exact⟨_,.bool b⟩
 | _,_,_,.int i,r=>by obtain⟨t,rfl⟩:=r;exact⟨_,.int i t⟩
 | _,_,_,.str i,r=>by obtain⟨t,rfl⟩:=r;exact⟨_,.str i t⟩
 | _,_,_,.lst h hs,r=>by
   cases r;obtain⟨its,r1,⟨o,n',e1,e2,e3,e4⟩,_⟩:=I.list h;obtain⟨as,q⟩:=Wc.reads I hs r1;rw[toPy];exact⟨_,.list e1 e2 e4 (by simpa using q)⟩
 | _,_,_,.tup h hs,r=>by
   cases r;obtain⟨its,r1,⟨o,e1,e2,n',e4⟩,_⟩:=I.tuple h;obtain⟨as,q⟩:=Wc.reads I hs r1;rw[toPy];exact⟨_,.tuple e1 e2 e4 (by simpa using q)⟩
theorem Wc.reads(I:Inv X pins σ H s):∀ {ds:List Dt} {xs:List V} {us:List Value},Wc X.K H xs ds->Vals xs us->∃ as,ReadsAll s.heap us (X3 ds) as
 | _,_,_,.nil,r=>by cases r;exact⟨_,.nil⟩
 | _,_,_,.cons h t,r=>by
   cases r with
   | cons r1 r2 =>
     obtain⟨as,q1⟩:=Is.reads I h r1;obtain⟨bs,q2⟩:=Wc.reads I t r2;exact⟨_,.cons q1 q2⟩
end
noncomputable def shD(d:Dt):Prop:=SeqAt.shaped (toPy d)=true
inductive zdg(K:PySem.W.Frag)(neg:Bool)(x:V)(y:V)(H:Hp)(Q:VK):Prop where
 | mk(d)(e)(_:Is K H x d)(_:Is K H y e)(_:shD d)(_:shD e)(_:Q (.bl (if neg then !eqD d e else eqD d e)) H)
theorem zht(hu:X.A.units+64<cLine):OpR X (compareOp .Eq) (zdg X.K false):=by
 intro pins s σ H x y v u Q I rx ry h;obtain⟨d,e,h1,h2,s1,s2,q⟩:=h;obtain⟨as,r1⟩:=h1.reads I rx;obtain⟨bs,r2⟩:=h2.reads I ry;exact eq_dataH r1 r2 s1 s2 hu (by rw[Ox];exact⟨.bl _,H,I,rfl,q⟩)
theorem zhu(hu:X.A.units+64<cLine):OpR X (compareOp .NotEq) (zdg X.K true):=by
 intro pins s σ H x y v u Q I rx ry h;obtain⟨d,e,h1,h2,s1,s2,q⟩:=h;obtain⟨as,r1⟩:=h1.reads I rx;obtain⟨bs,r2⟩:=h2.reads I ry;exact ne_dataH r1 r2 s1 s2 hu (by rw[Ox];exact⟨.bl _,H,I,rfl,q⟩)
end
mutual
theorem Is.same{K:PySem.W.Frag}{H H':Hp}(e:Same H H'):∀ {d:Dt} {x:V},Is K H x d->Is K H' x d
 | _,_,.non=>.non
 | _,_,.bl b=>.bl b
 | _,_,.int i=>.int i
 | _,_,.str i=>.str i
 | _,_,.lst h hs=>.lst (e.seq h) (Wc.same e hs)
 | _,_,.tup h hs=>.tup (by
   rcases h with (h|⟨o,h⟩)|h
   ·exact .inl (.inl (e _ _ h))
   ·exact .inl (.inr ⟨o,e _ _ h⟩)
   ·exact .inr h) (Wc.same e hs)
theorem Wc.same{K:PySem.W.Frag}{H H':Hp}(e:Same H H'):∀ {ds:List Dt} {xs:List V},Wc K H xs ds->Wc K H' xs ds
 | _,_,.nil=>.nil
 | _,_,.cons h t=>.cons (Is.same e h) (Wc.same e t)
end
section
variable{P:Program}{w:World}{K:PySem.W.Frag}{mg:Str->Option Value}{base:Heap}{x m:Str}{k j:Nat}{ps:List Str}{sp:Sp}{C:Addr}
noncomputable def Z7(P:Program)(w:World)(K:PySem.W.Frag)(mg:Str->Option Value)(base:Heap)(x:Str)(k:Nat)(ps:List Str)(sp:Sp):Prop :=
 ∃ (f:Addr) (fd:FuncData),Z3 P w K mg base (CX1 P w) k f fd ps sp/\mg x=some (.ref f)/\PySem.W.keepIn K (.ref f)=true/\Sh K fd ps []
noncomputable def Zx(P:Program)(w:World)(K:PySem.W.Frag)(mg:Str->Option Value)(base:Heap)(C:Addr)(m:Str)(k:Nat)(ps:List Str)(sp:Sp):Prop :=
 ∃ (f:Addr) (fd:FuncData),Z3 P w K mg base (CX1 P w) k f fd ps sp/\zcv K C m f/\Sh K fd ps []
noncomputable def Sx(P:Program)(w:World)(K:PySem.W.Frag)(mg:Str->Option Value)(base:Heap)(x:Str)(C:Addr)(k:Nat)(ps:List Str)(sp:Sp):Prop :=
 ∃ (f:Addr) (fd:FuncData),Z3 P w K mg base (CX1 P w) k f fd ps sp/\Mk K C f/\mg x=some (.ref C)/\Sh K fd ps []
theorem Au{X:Cx}:Va (CX1 P w) X E0:=fun _ _ _ _ _ _ _ h=>by obtain⟨_,_,_,_,_,_,_,_,_,_,z⟩:=h;exact z.elim
structure zkl(K:PySem.W.Frag)(mg:Str->Option Value)(x:Str)(st:Stmt)(f:Addr)(fd:FuncData):Prop where
 fn:Fun K x x st f fd
 nm:mg x=some (.ref f)
end
section
variable{X:Cx}{k:Nat}{C:Addr}{ps:List Str}{sp:Sp}{E:XK}{x m:Str}{p pos apos:Pos}{e o:Expr}{es:List Expr}{ta:TE}{t:TA}
theorem Av(D:Z7 X.prog X.w X.K X.mg X.base x k ps sp)(hr:W4 k X.A)(hx:Va (CX1 X.prog X.w) X E)(hg:Gl X x)(ha:PA X (e :: es) t)(hdb:(x == ("__debug__":Str))=false:=by decide)
  (he:starEach (e :: es) X.env=(false,eval e X.env) :: starEach es X.env:=by rfl) (hpl:(backTo pos (starEach es X.env)).any (·.1)=false:=by rfl):PE X (.Call (.Name x p) (e :: es) [] pos) (zcw sp [] E t):=by
 obtain⟨f,fd,F,hm,kp,b⟩:=D;exact ze6 F hr hg hm kp b .nil hx ha hdb he hpl
theorem X2{pl:Sem Bool}(he:PE X o ta)(c:Cls X.K C)(M:Zx X.prog X.w X.K X.mg X.base C m k ps sp)(hr:W4 k X.A)(hx:Va (CX1 X.prog X.w) X E)(ha:PA X (e :: es) t)
  (hst:starEach (e :: es) X.env=(false,eval e X.env) :: starEach es X.env:=by rfl) (hpl:(backTo pos (starEach es X.env)).any (·.1)=false:=by rfl)
  (ht:eval (.Call (.Attribute o m apos) (e :: es) [] pos) X.env=(do
   let ov <- eval o X.env
   standAt apos.atName
   let (f,first) <- holding [ov] (getMethod ov m pl)
   callWith pos f first (backTo pos (starEach (e :: es) X.env)) (backToKw pos (keywordEach [] X.env))):=by rfl):PE X (.Call (.Attribute o m apos) (e :: es) [] pos) (Aj C m sp [] E ta t):=by
 obtain⟨f,fd,F,hm,b⟩:=M;exact ze7 he c hm F hr b .nil hx ha hst hpl ht
theorem Yp{pl:Sem Bool}(he:PE X o ta)(c:Cls X.K C)(M:Zx X.prog X.w X.K X.mg X.base C m k ps sp)(hr:W4 k X.A)(hx:Va (CX1 X.prog X.w) X E)
  (ht:eval (.Call (.Attribute o m apos) [] [] pos) X.env=(do
   let ov <- eval o X.env
   standAt apos.atName
   let (f,first) <- holding [ov] (getMethod ov m pl)
   callWith pos f first (backTo pos (starEach [] X.env)) (backToKw pos (keywordEach [] X.env))):=by rfl):PE X (.Call (.Attribute o m apos) [] [] pos) (Aj C m sp [] E ta C7):=by
 obtain⟨f,fd,F,hm,b⟩:=M;exact zcx he c hm F hr b .nil hx ht
theorem Fd(M:Sx X.prog X.w X.K X.mg X.base x C k ps sp)(hr:W4 (k+1) X.A)(hx:Va (CX1 X.prog X.w) X E)(hg:Gl X x)(ha:PA X (e :: es) t)(hdb:(x == ("__debug__":Str))=false:=by decide)
  (he:starEach (e :: es) X.env=(false,eval e X.env) :: starEach es X.env:=by rfl) (hpl:(backTo pos (starEach es X.env)).any (·.1)=false:=by rfl):PE X (.Call (.Name x p) (e :: es) [] pos) (Ak C sp [] E t):=by
 obtain⟨f,fd,F,mk,hm,b⟩:=M;exact ze8 mk F hr hg hm b .nil hx ha hdb he hpl
theorem Aw(M:Sx X.prog X.w X.K X.mg X.base x C k ps sp)(hr:W4 (k+1) X.A)(hx:Va (CX1 X.prog X.w) X E)(hg:Gl X x)(hdb:(x == ("__debug__":Str))=false:=by decide):PE X (.Call (.Name x p) [] [] pos) (Ak C sp [] E C7):=by
 obtain⟨f,fd,F,mk,hm,b⟩:=M;exact zcy mk F hr hg hm b .nil hx hdb
theorem Wh{i:Int}(hg:Gl X x)(hm:∃ t,X.mg x=some (.int i t))(hd:(x == ("__debug__":Str))=false:=by decide):PE X (.Name x pos) (tC (.int i)):=by
 obtain⟨t,hm⟩:=hm;exact ze0 hg hm ⟨t,rfl⟩ hd
end
inductive zjn(te:TE)(D:T9)(σ:L2.St)(x:V)(H1:Hp):Prop where
 | mk(l)(xs)(_:x=.ref l)(_:H1 l=some (.lst xs))(_:te σ H1 fun y H2=>∃ ys,H2 l=some (.lst ys)/\ys.length<sizeLine/\D.nx σ (upd H2 l (.lst (ys++[y]))))
noncomputable def zjo(to te:TE):TS:=fun D σ H=>to σ H fun x H1=>zjn te D σ x H1
theorem Yv{X:Cx}{o e:Expr}{to te:TE}{apos cpos pos:Pos}(ho:PE X o to)(he:PE X e te)(hbase:attributeBase o "append" X.env (eval o X.env)=eval o X.env:=by rfl)
  (hst:starEach [e] X.env=[(false,eval e X.env)]:=by rfl)
  (hline:(apos.endLine == cpos.line)=true:=by rfl) (hs:swapsWith (.Call (.Attribute o "append" apos) [e] [] cpos) none pos.line X.env=pure false:=by rfl):PS X (.Expr (.Call (.Attribute o "append" apos) [e] [] cpos) pos) (zjo to te):=by
 intro pins s σ H D I h;refine wpAny_Expr ?_ I.quiet;refine wpAny_Call_method_late hbase (by rw[hst];rfl) hline rfl (thn (ho pins s σ H _ I h) fun v s1 ⟨x,H1,I1,r1,l,xs,e1,hl,q1⟩=>?_)
 subst e1;obtain⟨h1,h2⟩:=Bf (T:="list") I1 r1 (.inl ⟨rfl,_,SqL.of hl⟩);refine⟨"list","list.append",PySem.F.plainAttrs_list,PySem.F.slot_list_append,PySem.F.type_list_append,h1,h2,?_⟩;rw[hst];refine Calls.callWith_builtin rfl (Calls.evalArgs_plain ?_);refine Calls.spliced_cons (thn (he pins s1 σ H1 _ I1 q1) fun u s2 ⟨y,H2,I2,r2,ys,hl2,hz,q2⟩=>Calls.spliced_nil ?_)
 refine thn (za4 pins s2 σ H2 (.ref l) [y] v [u] (fun v H3=>v=.non/\D.nx σ H3) I2 r1 (.cons r2 .nil) ⟨l,ys,y,rfl,rfl,hl2,hz,rfl,q2⟩) fun z s3 ⟨zv,H3,I3,rz,ez,q3⟩=>?_
 subst ez;cases rz;exact⟨σ,H3,I3,q3⟩
section
variable{X:Cx}{K:PySem.W.Frag}
theorem zdh(hK:X.K=K):IxR X (J8 K):=hK▸zfh
theorem zfm(hK:X.K=K):IxR X (zhm K):=hK▸zhn
theorem Ig(hK:X.K=K):Vg X (.builtin "len") (fun xs H Q=>∃ p ys,xs=[.ref p]/\(SqL K H p ys\/SqT K H p ys)/\Q (.int ys.length) H):=hK▸G9
theorem Xs(hK:X.K=K):Vg X (.type "list") (fun xs H Q=>∃ p ys,xs=[.ref p]/\(SqL K H p ys\/SqT K H p ys)/\∀ l,H l=none->Q (.ref l) (upd H l (.lst ys))):=hK▸Fb
theorem Ny(hK:X.K=K):Vg X (.builtin "isinstance") (zjj K):=hK▸zdd
theorem Pw(hK:X.K=K):OpR X (compareOp .In) (rIn K false):=hK▸za3
theorem Pl(hK:X.K=K):OpR X (compareOp .NotIn) (rIn K true):=hK▸G8
theorem zfn(hK:X.K=K)(hu:X.A.units+64<cLine):OpR X (compareOp .Eq) (zdg K false):=hK▸zht hu
theorem Ax(hK:X.K=K)(hu:X.A.units+64<cLine):OpR X (compareOp .NotEq) (zdg K true):=hK▸zhu hu
theorem E4(hK:X.K=K):SlR X (zje K):=hK▸zfi
variable{o e l tg value a:Expr}{f:Str}{pos pos':Pos}{ta tv tl:TE}{es:List Expr}{k n:Nat}{t:TGs}
theorem Zr(hK:X.K=K)(he:PE X e ta)(hb:attributeBase e f X.env (eval e X.env)=eval e X.env):PE X (.Attribute e f pos) (zi0 K ta f):=hK▸zha he hb
theorem Y5(hK:X.K=K)(ha:PE X o ta)(hv:PE X value tv)(hs:swapsWith value (some (.Attribute o f pos')) pos.line X.env=pure false):PS X (.Assign [.Attribute o f pos'] value pos) (zi2 K ta tv f):=hK▸zhb ha hv hs
theorem Yf(hK:X.K=K)(hl:PE X l tl):PI X tg l (zgh K tl):=hK▸ze1 hl
theorem Wi(hK:X.K=K)(hc:X.calm=true)(h:PGs X es t)(hn:(assignEach es X.env).length=n:=by rfl)(hst:(assignEach es X.env).findIdx? (·.1)=none:=by rfl):PG X (.Tuple es k pos) (ziu K n t):=hK▸zg5 hc h hn hst
theorem Gf(hK:X.K=K)(ha:PE X a ta)(he:∀ whole,isTrue a X.env whole=(do let v <- whole;standAt a.pos;holding [v] (truthy v))):PT X a (fun σ H Q=>ta σ H fun x H'=>∃ k,TruV K x H' k/\Q k H'):=hK▸zcr ha he
end
section
variable{X:Cx}{K:PySem.W.Frag}
theorem Kp(hK:X.K=K):Vg X (.type "tuple") (fun xs H Q=>∃ p ys,xs=[.ref p]/\((SqL K H p ys/\∀ l,H l=none->Q (.ref l) (upd H l (.tup ys)))\/(SqT K H p ys/\Q (.ref p) H))):=hK▸Ia
end
end L2
namespace G
open PySem PySem.Spec PyProof.Rows L2
theorem sz1:1<=sizeLine:=by decide
theorem sz2:2<=sizeLine:=by decide
theorem sz3:3<=sizeLine:=by decide
theorem sz4:4<=sizeLine:=by decide
theorem szN{n:Nat}(h:n<=1000):n<=sizeLine:=Nat.le_of_lt (Sl h)
theorem itD{p:Prop}[Decidable p]{A B:Prop}(h1:p->A)(h2:¬ p->B):if decide p=true then A else B:=by
 by_cases h:p
 ·rw[zy4 h,if_pos rfl];exact h1 h
 ·rw[zzb h,if_neg (by decide)];exact h2 h
theorem itB{b:Bool}{A B:Prop}(h1:b=true->A)(h2:b=false->B):if b=true then A else B:=by
 cases b
 ·exact iteF (h2 rfl)
 ·exact iteT (h1 rfl)
theorem R1{i j:Int}:decide (V.int i=V.int j)=decide (i=j):=by
 by_cases h:i=j
 ·subst h;simp
 ·rw[zzb h,zzb (fun z=>h (V.int.inj z))]
theorem itV{i j:Int}{A B:Prop}(h1:i=j->A)(h2:¬ i=j->B):if decide (V.int i=V.int j)=true then A else B:=by
 rw[R1];exact itD h1 h2
theorem Ze{H:Hp}{p:Addr}{o:HO}(h:H p=none):Same H (upd H p o):=fun b u e=>by rw[Zh (Zg e h)];exact e
noncomputable def Y1(i:Int):Prop:=i.natAbs.log2<1920
theorem Yg{i:Int}(h:i.natAbs<=10 ^ 60):Y1 i:=by
 unfold Y1;by_cases h0:i.natAbs=0
 ·rw[h0];decide
 ·exact(Nat.log2_lt h0).mpr (z0i h (by decide +kernel))
theorem Yx{i:Int}(h:-1000<=i)(h':i<=1000):Y1 i:=Yg (zzg (show i.natAbs<=1000 by omega) (by decide))
theorem Wd{xs:List Int}{i:Int}(h0:0<=i)(h1:i<xs.length):atI (xs.map V.int) i=some (.int (xs.getD i.toNat 0)):=by
 obtain⟨k,rfl⟩:∃ k:Nat,i=k:=⟨i.toNat,by omega⟩
 refine Y4 ?_;have hk:k<xs.length:=by omega
 rw[zy5,zy1 hk,z0b,zzm,zzp,zy1 hk];rfl
theorem R4{t u:TT}{σ:L2.St}{H:Hp}{b c:Bool}(h1:∀ Q:Bool->Hp->Prop,Q b H->t σ H Q)(h2:∀ Q:Bool->Hp->Prop,Q c H->u σ H Q)(Q:Bool->Hp->Prop)(h:Q (b||c) H):tOr t u σ H Q:=by
 refine h1 _ ?_;cases b with
 | true=>exact h
 | false=>exact h2 _ h
theorem Vm{t:TT}{A B:TS}{D:T9}{σ:L2.St}{H:Hp}{b:Bool}(h1:∀ Q:Bool->Hp->Prop,Q b H->t σ H Q)(h:if b=true then A D σ H else B D σ H):Cz t A B D σ H:=h1 _ h
theorem Sy{A B:TS}{D:T9}{σ:L2.St}{H:Hp}(h:A { D with nx:=B D } σ H):Zz A B D σ H:=h
theorem Mv{c:TT}{t e u:TS}{D:T9}{σ:L2.St}{H:Hp}{b:Bool}(J:L2.St->Hp->Prop)(hc:∀ Q:Bool->Hp->Prop,Q b H->c σ H Q)(h1:b=true->∀ N:L2.St->Hp->Prop,(∀ σ' H',J σ' H'->N σ' H')->t { D with nx:=N } σ H)
  (h2:b=false->∀ N:L2.St->Hp->Prop,(∀ σ' H',J σ' H'->N σ' H')->e { D with nx:=N } σ H) (h3:∀ σ' H',J σ' H'->u D σ' H'):Zz (Cz c t e) u D σ H:=by
 refine hc _ ?_;cases b with
 | true=>rw[if_pos rfl];exact h1 rfl _ h3
 | false=>rw[if_neg (by decide)];exact h2 rfl _ h3
theorem Z1{D:T9}{σ:L2.St}{H:Hp}(h:D.nx σ H):zcl D σ H:=h
theorem zhv(K:PySem.W.Frag):PySem.W.kitOne K (.type "int") (.type "int")=some true:=rfl
theorem zhw(K:PySem.W.Frag):PySem.W.kitOne K (.type "int") (.type "bool")=some false:=by with_unfolding_all rfl
theorem zhx(K:PySem.W.Frag):PySem.W.kitOne K (.type "list") (.type "list")=some true:=rfl
inductive TupL(H:Hp):List V->List (List V)->Prop where
 | nil:TupL H [] []
 | cons {t:Addr} {r:List V} {ts:List V} {R:List (List V)} (h:H t=some (.tup r)) (q:TupL H ts R):TupL H (.ref t :: ts) (r :: R)
theorem TupL.mono{H H':Hp}(k:∀ t xs,H t=some (.tup xs)->H' t=some (.tup xs)):∀ {ts:List V} {R:List (List V)},TupL H ts R->TupL H' ts R
 | _,_,.nil=>.nil
 | _,_,.cons h r=>.cons (k _ _ h) (TupL.mono k r)
theorem TupL.same{H H':Hp}(e:Same H H'){ts:List V}{R:List (List V)}(h:TupL H ts R):TupL H' ts R:=h.mono fun t xs q=>e _ _ q
theorem TupL.length{H:Hp}:∀ {ts:List V} {R:List (List V)},TupL H ts R->ts.length=R.length
 | _,_,.nil=>rfl
 | _,_,.cons _ r=>by simp[TupL.length r]
theorem TupL.snoc{H:Hp}{t:Addr}{x:List V}(h:H t=some (.tup x)):∀ {ts:List V} {R:List (List V)},TupL H ts R->TupL H (ts++[.ref t]) (R++[x])
 | _,_,.nil=>.cons h .nil
 | _,_,.cons h' r=>.cons h' (TupL.snoc h r)
theorem TupL.get{H:Hp}:∀ {ts:List V} {R:List (List V)} {i:Nat} {x:V},TupL H ts R->ts[i]?=some x->∃ t r,x=.ref t/\R[i]?=some r/\H t=some (.tup r)
 | _,_,_,_,.nil,e=>by simp at e
 | _,_,0,_,.cons h _,e=>by simp at e;subst e;exact⟨_,_,rfl,rfl,h⟩
 | _,_,i+1,x,.cons _ r,e=>by
   obtain⟨t,n,h1,h2,h3⟩:=TupL.get (i:=i) (x:=x) r (by simpa using e)
   exact⟨t,n,h1,by simpa using h2,h3⟩
theorem TupL.getR{H:Hp}:∀ {ts:List V} {R:List (List V)} {i:Nat} {r:List V},TupL H ts R->R[i]?=some r->∃ t,ts[i]?=some (.ref t)/\H t=some (.tup r)
 | _,_,_,_,.nil,e=>by simp at e
 | _,_,0,_,.cons h _,e=>by simp at e;subst e;exact⟨_,rfl,h⟩
 | _,_,i+1,x,.cons _ r,e=>by
   obtain⟨t,h1,h2⟩:=TupL.getR (i:=i) (r:=x) r (by simpa using e)
   exact⟨t,by simpa using h1,h2⟩
inductive Fe(vs:List V)(H:Hp)(Q:VK)(_:XK):Prop where
 | mk(i)(_:vs=[.int i])(_:Q (.bl true) H)
noncomputable def Y8(ns:List Int)(k:Nat):Int:=(ns[k]?).getD 0
inductive Bm(K:PySem.W.Frag)(vs:List V)(H:Hp)(Q:VK)(_:XK):Prop where
 | mk(b:Addr)(ns:List Int)(k:Nat)(_:vs=[.ref b,.int k])(_:SqL K H b (ns.map V.int))(_:Q (.int (Y8 ns k)) H)
noncomputable def zhy(c k:Int):Int:=(c*48271+k)%2147483647
noncomputable def zjp(c k:Int):Int:=(zhy c k*69621+7*k)%2147483629
noncomputable def zkd(c k:Int):Int:=(zjp c k*39373+zhy c k)%2147483587
noncomputable def Bn(c k:Int):Int:=(zhy c k*2147483647+zjp c k)*2147483647+zkd c k
inductive Ay(vs:List V)(H:Hp)(Q:VK)(_:XK):Prop where
 | mk(c)(k)(_:vs=[.int c,.int k])(_:Q (.int (Bn c k)) H)
noncomputable def stp(c:Int):Int:=([1,2,5,10,100,500,998]:List Int).getD (c%7).toNat 0
noncomputable def zbb(c:Int)(j:Nat):Int:=1+(c/7+stp c*(j:Int))%999
noncomputable def Mw(c:Int)(many:Nat):List Int:=(List.range many).map (zbb c)
inductive Kq(vs:List V)(H:Hp)(Q:VK)(_:XK):Prop where
 | mk(c:Int)(many:Nat)(_:vs=[.int c,.int many])(_:many<=1000)(_:∀ l H',H' l=some (.lst ((Mw c many).map V.int))->Same H H'->H l=none->Q (.ref l) H')
noncomputable def Ff(c:Int):Int:=([1,2,5,10,50,97,98]:List Int).getD (c%7).toNat 0
noncomputable def Gg(c:Int)(j:Nat):Int:=1+(c/7+Ff c*(j:Int))%99
noncomputable def R6(c:Int)(many:Nat):List Int:=(List.range many).map (Gg c)
inductive Az(vs:List V)(H:Hp)(Q:VK)(_:XK):Prop where
 | mk(c:Int)(many:Nat)(_:vs=[.int c,.int many])(_:many<=1000)(_:∀ l H',H' l=some (.lst ((R6 c many).map V.int))->Same H H'->H l=none->Q (.ref l) H')
noncomputable def oneV(x:V):Prop:=x=.non\/∃ i,x=.int i
inductive A0(vs:List V)(H:Hp)(Q:VK)(_:XK):Prop where
 | mk(x)(_:vs=[x,x])(_:oneV x)(_:Q (.bl true) H)
inductive A4(K:PySem.W.Frag)(vs:List V)(H:Hp)(Q:VK)(_:XK):Prop where
 | mk(b:Addr)(ns:List Int)(_:vs=[.ref b])(_:SqL K H b (ns.map V.int))(_:ns.length<=63)(_:∀ H',Q (.bl true) H')
structure Row where
 h:Int
 g:Int
 d:Int
 w:Option Int
noncomputable def oV:Option Int->V
 | none=>.non
 | some n=>.int n
noncomputable def Fg(r:Row):List V:=[.int r.h,.int r.g,.int r.d,oV r.w]
theorem zhz(o:Option Int):oneV (oV o):=by
 cases o with
 | none=>exact .inl rfl
 | some n=>exact .inr ⟨n,rfl⟩
theorem zh0{H:Hp}{ts:List V}{rs:List Row}{i:Nat}{x:V}(h:TupL H ts (rs.map Fg))(e:ts[i]?=some x):∃ t r,x=.ref t/\rs[i]?=some r/\H t=some (.tup (Fg r)):=by
 obtain⟨t,r,h1,h2,h3⟩:=h.get e;rw[zy5] at h2
 cases q:rs[i]? with
 | none=>rw[q] at h2;cases h2
 | some m=>rw[q] at h2;cases h2;exact⟨t,m,h1,rfl,h3⟩
noncomputable def hit(n c:Int)(r:Row):Bool:=decide (r.w=some n)&&(decide (r.h=c)||decide (r.g=c))
noncomputable def Fh(n c:Int)(Rs:List (List Row)):Nat×Nat:=Rs.foldl (fun p rs=>(p.1+1,if rs.any (hit n c) then p.1+1 else p.2)) (0,0)
noncomputable def metS(Rs:List (List Row))(n c:Int):Nat:=(Fh n c Rs).2
theorem zdi(n c:Int)(Rs:List (List Row)):(Fh n c Rs).1=Rs.length:=by
 have h:∀ (Rs:List (List Row)) (p:Nat×Nat),(Rs.foldl (fun p rs=>(p.1+1,if rs.any (hit n c) then p.1+1 else p.2)) p).1=p.1+Rs.length:=fun Rs=>by
  induction Rs with
  | nil=>intro p;rfl
  | cons r Rs ih=>intro p;rw[List.foldl_cons,ih,zzl];simp only;omega
 have:=h Rs (0,0);unfold Fh;rw[this];simp
theorem zbc(Rs:List (List Row))(rs:List Row)(n c:Int):metS (Rs++[rs]) n c=if rs.any (hit n c) then Rs.length+1 else metS Rs n c:=by
 unfold metS;have e:Fh n c (Rs++[rs])=((Fh n c Rs).1+1,if rs.any (hit n c) then (Fh n c Rs).1+1 else (Fh n c Rs).2):=by
  unfold Fh;rw[List.foldl_append];rfl
 rw[e,zdi]
noncomputable def E5(kvs:List (List Key×V))(f:Int->Int->Nat):Prop:=∀ n c:Int,valV kvs [Sum.inl n,Sum.inl c]=if f n c=0 then none else some (.int (f n c))
inductive Q8(H:Hp):List V->List (List Row)->Prop where
 | nil:Q8 H [] []
 | cons {t:Addr} {ts rs:List V} {r:List Row} {R:List (List Row)} (h:H t=some (.tup ts)) (q:TupL H ts (r.map Fg)) (n:Q8 H rs R):Q8 H (.ref t :: rs) (r :: R)
theorem Q8.mono{H H':Hp}(k:∀ t xs,H t=some (.tup xs)->H' t=some (.tup xs)):∀ {ts:List V} {R:List (List Row)},Q8 H ts R->Q8 H' ts R
 | _,_,.nil=>.nil
 | _,_,.cons h q r=>.cons (k _ _ h) (q.mono k) (Q8.mono k r)
theorem Q8.length{H:Hp}:∀ {ts:List V} {R:List (List Row)},Q8 H ts R->ts.length=R.length
 | _,_,.nil=>rfl
 | _,_,.cons _ _ r=>by simp[Q8.length r]
theorem Q8.snoc{H:Hp}{t:Addr}{xs:List V}{x:List Row}(h:H t=some (.tup xs))(q:TupL H xs (x.map Fg)):∀ {ts:List V} {R:List (List Row)},Q8 H ts R->Q8 H (ts++[.ref t]) (R++[x])
 | _,_,.nil=>.cons h q .nil
 | _,_,.cons h' q' r=>.cons h' q' (Q8.snoc h q r)
noncomputable def tot(Rs:List (List Row)):Nat:=(Rs.map List.length).sum
theorem zdj(Rs:List (List Row))(rs:List Row):tot (Rs++[rs])=tot Rs+rs.length:=by unfold tot;rw[zy7,List.sum_append];simp
structure Ur(C:Addr)(H:Hp)(p lr ld:Addr)(Rs:List (List Row)):Prop where
 at_:∃ dx,H p=some (.ins C dx [("rounds",.ref lr),("meetings",.ref ld)])
 rd:∃ rs,H lr=some (.lst rs)/\Q8 H rs Rs
 mt:∃ kvs,H ld=some (.dT kvs)/\E5 kvs (metS Rs)/\kvs.length<=2*tot Rs
theorem Ur.same{C:Addr}{H H':Hp}{p lr ld:Addr}{Rs:List (List Row)}(h:Ur C H p lr ld Rs)(e:Same H H'):Ur C H' p lr ld Rs:=by
 obtain⟨⟨dx,h1⟩,⟨rs,h2,h3⟩,⟨kvs,h4,h5⟩⟩:=h;exact⟨⟨dx,e _ _ h1⟩,⟨rs,e _ _ h2,h3.mono fun t xs q=>e _ _ q⟩,⟨kvs,e _ _ h4,h5⟩⟩
theorem Ur.keep{C:Addr}{H H':Hp}{p lr ld:Addr}{Rs:List (List Row)}(h:Ur C H p lr ld Rs)(ep:∀ o,H p=some o->H' p=some o)(er:∀ o,H lr=some o->H' lr=some o)(ed:∀ o,H ld=some o->H' ld=some o)(et:∀ t xs,H t=some (.tup xs)->H' t=some (.tup xs)):Ur C H' p lr ld Rs:=by
 obtain⟨⟨dx,h1⟩,⟨rs,h2,h3⟩,⟨kvs,h4,h5⟩⟩:=h;exact⟨⟨dx,ep _ h1⟩,⟨rs,er _ h2,h3.mono et⟩,⟨kvs,ed _ h4,h5⟩⟩
theorem Nz{x y:Addr}:List.lookup ("rounds":Str) ([("rounds",V.ref x),("meetings",V.ref y)]:List (Str×V))=some (.ref x):=by simp only[zz1,beq_self_eq_true]
theorem R7{x y:Addr}:List.lookup ("meetings":Str) ([("rounds",V.ref x),("meetings",V.ref y)]:List (Str×V))=some (.ref y):=by
 have e:(("meetings":Str) == "rounds")=false:=by decide +kernel
 simp only[zz1,e,beq_self_eq_true]
theorem Kr{x y:Addr}{m:Str}(h:¬ m="rounds")(h':¬ m="meetings"):List.lookup m ([("rounds",V.ref x),("meetings",V.ref y)]:List (Str×V))=none:=by
 have e:(m == "rounds")=false:=zzn.mpr h;have e':(m == "meetings")=false:=zzn.mpr h';simp only[zz1,e,e',List.lookup_nil]
inductive A5(C:Addr)(vs:List V)(H:Hp)(Q:VK)(_:XK):Prop where
 | mk(p)(dx)(_:vs=[.ref p])(_:H p=some (.ins C dx []))(_:∀ lr ld H',Ur C H' p lr ld []->(∀ b o,H b=some o->b≠p->H' b=some o)->H lr=none->H ld=none->lr≠ld->Q .non H')
inductive N1(C:Addr)(vs:List V)(H:Hp)(Q:VK)(_:XK):Prop where
 | mk(p)(lr)(ld)(Rs)(_:vs=[.ref p])(_:Ur C H p lr ld Rs)(_:Q (.int (Rs.length:Nat)) H)
inductive zgs(C:Addr)(vs:List V)(H:Hp)(Q:VK)(_:XK):Prop where
 | mk(p)(lr)(ld)(Rs)(n)(c)(_:vs=[.ref p,.int n,.int c])(_:Ur C H p lr ld Rs)(_:∀ H',Same H H'->Q (.int (metS Rs n c:Nat)) H')
theorem Qs{n c n' c':Int}:([Sum.inl n,Sum.inl c]:List Key)=[Sum.inl n',Sum.inl c']↔n=n'/\c=c':=by
 constructor
 ·intro h;injection h with h1 h2;injection h2 with h2 _;exact⟨Sum.inl.inj h1,Sum.inl.inj h2⟩
 ·rintro⟨rfl,rfl⟩;rfl
theorem E5.put{kvs:List (List Key×V)}{f:Int->Int->Nat}(h:E5 kvs f)(n c:Int)(t:Nat)(ht:0<t):E5 (putK kvs [Sum.inl n,Sum.inl c] (.int t)) (fun n' c'=>if n'=n/\c'=c then t else f n' c'):=fun n' c'=>by
 rw[Vj];show _=if (if n'=n/\c'=c then t else f n' c')=0 then none else some (V.int ((if n'=n/\c'=c then t else f n' c':Nat):Int))
 by_cases e:n'=n/\c'=c
 ·rw[if_pos e,if_pos (Qs.mpr e),if_neg (by omega)]
 ·rw[if_neg (fun z=>e (Qs.mp z)),if_neg e];exact h n' c'
noncomputable def N2(Rs:List (List Row))(rs:List Row)(i:Nat)(n c:Int):Nat:=if (rs.take i).any (hit n c) then Rs.length+1 else metS Rs n c
theorem zbd(Rs:List (List Row))(rs:List Row):N2 Rs rs 0=metS Rs:=by funext n c;unfold N2;simp
theorem zdk(Rs:List (List Row))(rs:List Row):N2 Rs rs rs.length=metS (Rs++[rs]):=by funext n c;unfold N2;rw[zzh,zbc]
theorem Gh{Rs:List (List Row)}{rs:List Row}{i:Nat}{r:Row}(e:rs[i]?=some r)(n c:Int):N2 Rs rs (i+1) n c=if hit n c r then Rs.length+1 else N2 Rs rs i n c:=by
 unfold N2;rw[zz6,e,List.any_append];cases h1:(rs.take i).any (hit n c)<;>cases h2:hit n c r<;>simp[h2]
theorem zbe{Rs:List (List Row)}{rs:List Row}{i:Nat}{r:Row}(e:rs[i]?=some r)(h:r.w=none):N2 Rs rs (i+1)=N2 Rs rs i:=by
 funext n c
 rw[Gh e];have:hit n c r=false:=by unfold hit;rw[h];simp
 rw[this];simp
theorem zbf{Rs:List (List Row)}{rs:List Row}{i:Nat}{r:Row}{w:Int}(e:rs[i]?=some r)(h:r.w=some w) :
  (fun n c=>if n=w/\c=r.g then Rs.length+1 else (fun n c=>if n=w/\c=r.h then Rs.length+1 else N2 Rs rs i n c) n c)=N2 Rs rs (i+1):=by
 funext n c
 rw[Gh e];unfold hit;rw[h];show (if n=w/\c=r.g then Rs.length+1 else if n=w/\c=r.h then Rs.length+1 else N2 Rs rs i n c)=_
 by_cases h1:n=w
 ·subst h1
  by_cases h2:r.g=c
  ·rw[if_pos ⟨rfl,h2.symm⟩,if_pos (by simp[h2])]
  ·rw[if_neg (fun z=>h2 z.2.symm)]
   by_cases h3:r.h=c
   ·rw[if_pos ⟨rfl,h3.symm⟩,if_pos (by simp[h3])]
   ·rw[if_neg (fun z=>h3 z.2.symm),if_neg (by simp[h2,h3])]
 ·rw[if_neg (fun z=>h1 z.1),if_neg (fun z=>h1 z.1),if_neg (by simp;intro z;exact absurd z.symm h1)]
theorem zdl{C:Addr}{H1 H':Hp}{x dx lr ld:Addr}(hx:H1 x=none)(hdx:H1 dx=none)(ne:dx≠x)(k:∀ b o,upd (upd H1 dx (.own x)) x (.ins C dx []) b=some o->b≠x->H' b=some o)
  (h1:upd (upd H1 dx (.own x)) x (.ins C dx []) lr=none) (h2:upd (upd H1 dx (.own x)) x (.ins C dx []) ld=none):Same H1 H'/\H1 lr=none/\H1 ld=none:=by
 have fr:∀ {l:Addr},upd (upd H1 dx (.own x)) x (.ins C dx []) l=none->H1 l=none:=fun {l} q=>by
  have n1:l≠x:=fun z=>by rw[z,Zb] at q;cases q
  have n2:l≠dx:=fun z=>by rw[z,Zh ne,Zb] at q;cases q
  rw[Zh n1,Zh n2] at q;exact q
 refine⟨fun b o e=>k b o ?_ (Zg e hx),fr h1,fr h2⟩
 rw[Zh (Zg e hx),Zh (Zg e hdx)];exact e
theorem zjq{lr ld:Addr}:putF "meetings" (V.ref ld) [(("rounds":Str),V.ref lr)]=[(("rounds":Str),V.ref lr),(("meetings":Str),V.ref ld)]:=by
 show (if ("rounds":Str)="meetings" then _ else _)=_
 rw[if_neg (by decide +kernel)];rfl
theorem Z8{H H':Hp}{l:Addr}{o:HO}(h:H l=none)(s:Same H H'):Same H (upd H' l o):=fun b u e=>by
 rw[Zh (Zg e h)];exact s b u e
theorem zdm{x:V}(h:oneV x):Sj x=true:=by rcases h with rfl|⟨i,rfl⟩<;>rfl
inductive RLs(H:Hp):List Addr->List (List Row)->Prop where
 | nil:RLs H [] []
 | cons {l:Addr} {ts:List V} {ls:List Addr} {r:List Row} {R:List (List Row)} (h:H l=some (.lst ts)) (q:TupL H ts (r.map Fg)) (n:RLs H ls R):RLs H (l :: ls) (r :: R)
theorem Ih(c:Int)(m:Nat):(R6 c m).length=m:=by unfold R6;rw[zyz,z0g]
theorem Oy(c:Int)(m:Nat):(Mw c m).length=m:=by unfold Mw;rw[zyz,z0g]
structure L1(C:Addr)(H0:Hp)(p lr ld kR:Addr)(ls:List Addr)(R S:List (List Row))(H:Hp):Prop where
 base:Same H0 H
 led:Ur C H p lr ld R
 krs:H kR=some (.lst (ls.map V.ref))
 rls:RLs H ls S
 sep:∀ l∈ls,l≠lr/\l≠kR
structure C1(H0:Hp)(lr ld kR:Addr):Prop where
 fr:H0 lr=none
 fd:H0 ld=none
 fk:H0 kR=none
 rk:lr≠kR
section
variable{C:Addr}{H0 H H':Hp}{p lr ld kR:Addr}{ls:List Addr}{R S:List (List Row)}
end
theorem N3{t u:TT}{σ:L2.St}{H:Hp}{b c:Bool}(h1:∀ Q:Bool->Hp->Prop,Q b H->t σ H Q)(h2:∀ Q:Bool->Hp->Prop,Q c H->u σ H Q)(Q:Bool->Hp->Prop)(h:Q (b&&c) H):zgz t u σ H Q:=by
 refine h1 _ ?_;cases b with
 | true=>exact h2 _ h
 | false=>exact h
noncomputable def Rj(Rs:List (List Row))(n c rest:Int):Bool:=decide ((if (0:Int)>(Rs.length:Nat)-rest then 0 else ((Rs.length:Nat):Int)-rest)<(metS Rs n c:Nat))
inductive E6(C:Addr)(vs:List V)(H:Hp)(Q:VK)(_:XK):Prop where
 | mk(p)(lr)(ld)(Rs)(n)(c)(rest)(_:vs=[.int n,.int c,.ref p,.int rest])(_:Ur C H p lr ld Rs)(_:∀ H',Same H H'->Q (.bl (Rj Rs n c rest)) H')
noncomputable def bw(b:Bool)(w:Str):List Str:=if b then [w] else []
noncomputable def whyS(Rs:List (List Row))(n g c h gu d:Int)(o:Bool)(rest:Int):List Str :=
 bw o "away"++(bw (decide (g<d)) "grade"++(bw (decide (c=h)||decide (c=gu)) "club"++bw (Rj Rs n h rest||Rj Rs n gu rest) "met"))
inductive Gi(K:PySem.W.Frag)(C:Addr)(vs:List V)(H:Hp)(Q:VK)(_:XK):Prop where
 | mk(t1 t2 p lr ld:Addr)(Rs:List (List Row))(n g c h gu d rest:Int)(o:Bool)(_:vs=[.ref t1,.ref t2,.bl o,.ref p,.int rest])(_:H t1=some (.tup [.int n,.int g,.int c]))(_:H t2=some (.tup [.int h,.int gu,.int d]))(_:Ur C H p lr ld Rs)(_:∀ l H',H' l=some (.lst ((whyS Rs n g c h gu d o rest).map V.str))->Same H H'->H l=none->Q (.ref l) H')
noncomputable def Gr(c:TT)(σ:L2.St)(H:Hp)(b:Bool):Prop:=∀ Q:Bool->Hp->Prop,(∀ H1,Same H H1->Q b H1)->c σ H Q
theorem E7{t u:TT}{σ:L2.St}{H:Hp}{b c:Bool}(h1:Gr t σ H b)(h2:∀ H1,Same H H1->Gr u σ H1 c):Gr (tOr t u) σ H (b||c):=fun Q h=>by
 refine h1 _ fun H1 s1=>?_
 cases b with
 | true=>exact h H1 s1
 | false=>exact h2 H1 s1 _ fun H2 s2=>h H2 (s1.trans s2)
theorem Sz{c:TT}{σ:L2.St}{H:Hp}{b:Bool}(h:∀ Q:Bool->Hp->Prop,Q b H->c σ H Q):Gr c σ H b:=fun Q q=>h Q (q H (Same.refl H))
theorem Tv{c:TT}{u:TS}{D:T9}{σ:L2.St}{H0 H:Hp}{b:Bool}{l:Addr}{i:Nat}{xs:List Str}{w:Str}(hc:Gr c σ H b)(h0:H0 l=none)(s:Same H0 H)(hl:H l=some (.lst (xs.map V.str)))(hx:xs.length<=100)(hv:σ[i]?=some (some (.ref l)))
  (h3:∀ H',Same H0 H'->H' l=some (.lst ((xs++bw b w).map V.str))->(∀ b o,H b=some o->b≠l->H' b=some o)->u D σ H'):Zz (Cz c (zjo (zez i) (tC (.str w))) zcl) u D σ H:=by
 refine hc _ fun H1 s1=>?_
 have hl1:=s1 _ _ hl;cases b with
 | true =>
   rw[if_pos rfl];refine⟨_,hv,l,_,rfl,hl1,_,hl1,Sl (by rw[zyz];omega),?_⟩
   refine h3 _ (Z8 h0 (s.trans s1)) ?_ fun b o e n=>by rw[Zh n];exact s1 _ _ e
   rw[Zb,zy7];rfl
 | false =>
   rw[if_neg (by decide)]
   exact h3 _ (s.trans s1) (by rw[show bw false w=[] from rfl,z1a];exact hl1) fun b o e _=>s1 _ _ e
theorem N4(b:Bool)(w:Str):(bw b w).length<=1:=by cases b<;>simp[bw]
theorem zfo{Rs:List (List Row)}{n c:Int}{x:Nat}:x<metS Rs n c↔∃ (j:Nat) (r:List Row),Rs[j]?=some r/\r.any (hit n c)=true/\x<j+1:=by
 have gen:∀ (Rs:List (List Row)) (p:Nat×Nat),p.2<=p.1->(x<(Rs.foldl (fun p rs=>(p.1+1,if rs.any (hit n c) then p.1+1 else p.2)) p).2↔(∃ (j:Nat) (r:List Row),Rs[j]?=some r/\r.any (hit n c)=true/\x<p.1+j+1)\/x<p.2):=fun Rs=>by
  induction Rs with
  | nil=>intro p hp;simp
  | cons r Rs ih =>
    intro p hp;rw[List.foldl_cons,ih _ (by show (if r.any (hit n c) then p.1+1 else p.2)<=p.1+1;split<;>omega)]
    show ((∃ (j:Nat) (r':List Row),Rs[j]?=some r'/\r'.any (hit n c)=true/\x<p.1+1+j+1)\/x<(if r.any (hit n c) then p.1+1 else p.2))↔_
    constructor
    ·rintro(⟨j,r',h1,h2,h3⟩|h)
     ·exact .inl ⟨j+1,r',by simpa using h1,h2,by omega⟩
     ·by_cases hr:r.any (hit n c)=true
      ·rw[if_pos hr] at h
       exact .inl ⟨0,r,rfl,hr,by omega⟩
      ·rw[if_neg hr] at h
       exact .inr h
    ·rintro(⟨j,r',h1,h2,h3⟩|h)
     ·cases j with
      | zero =>
        have e:r=r':=by simpa using h1
        subst e;exact .inr (by rw[if_pos h2];omega)
      | succ j=>exact .inl ⟨j,r',by simpa using h1,h2,by omega⟩
     ·right
      split<;>omega
 have:=gen Rs (0,0) (zza _);unfold metS Fh;rw[this];simp
theorem zbg{Rs:List (List Row)}{n c rest:Int}:Rj Rs n c rest=true↔∃ (j:Nat) (r:List Row),Rs[j]?=some r/\r.any (hit n c)=true/\(Rs.length:Int)-rest<=j:=by
 unfold Rj;rw[decide_eq_true_eq];have e:(if (0:Int)>(Rs.length:Nat)-rest then 0 else ((Rs.length:Nat):Int)-rest)<(metS Rs n c:Nat)↔(((Rs.length:Nat):Int)-rest).toNat<metS Rs n c:=by
  split<;>omega
 rw[e,zfo];constructor
 ·rintro⟨j,r,h1,h2,h3⟩;exact⟨j,r,h1,h2,by omega⟩
 ·rintro⟨j,r,h1,h2,h3⟩;exact⟨j,r,h1,h2,by omega⟩
theorem zdn(c:Int){i j:Nat}(hi:i<40)(hj:j<40)(h:zbb c i=zbb c j):i=j:=by
 unfold zbb at h
 have hs:stp c=1\/stp c=2\/stp c=5\/stp c=10\/stp c=100\/stp c=500\/stp c=998:=by
  unfold stp;have h0:0<=c%7:=by omega
  have h1:c%7<7:=by omega
  generalize c%7=r at h0 h1
  obtain⟨k,rfl⟩:∃ k:Nat,r=k:=⟨r.toNat,by omega⟩
  rw[zzm];have hk:k<7:=by omega
  match k,hk with
  | 0,_=>simp
  | 1,_=>simp
  | 2,_=>simp
  | 3,_=>simp
  | 4,_=>simp
  | 5,_=>simp
  | 6,_=>simp
 generalize c/7=x at h
 rcases hs with e|e|e|e|e|e|e<;>rw[e] at h<;>omega
end G

namespace L2
open PySem PySem.Spec PyProof.Rows
end L2
namespace G
open PySem PySem.Spec PyProof.Rows L2
noncomputable abbrev P3:=Int×Int×Int
noncomputable def pV(m:P3):List V:=[.int m.1,.int m.2.1,.int m.2.2]
theorem Ks{H:Hp}{ts:List V}{Ms:List P3}{i:Nat}{x:V}(h:TupL H ts (Ms.map pV))(e:ts[i]?=some x):∃ t m,x=.ref t/\Ms[i]?=some m/\H t=some (.tup (pV m)):=by
 obtain⟨t,r,h1,h2,h3⟩:=h.get e;rw[zy5] at h2
 cases q:Ms[i]? with
 | none=>rw[q] at h2;cases h2
 | some m=>rw[q] at h2;cases h2;exact⟨t,m,h1,rfl,h3⟩
theorem TupL.reverse{H:Hp}:∀ {ts:List V} {R:List (List V)},TupL H ts R->TupL H ts.reverse R.reverse
 | _,_,.nil=>.nil
 | _,_,.cons h q=>by rw[z03,z03];exact(TupL.reverse q).snoc h
noncomputable def R8(Rs:List (List Row))(h gu d:Int)(os:List V)(rest:Int)(m:P3):Bool:=(whyS Rs m.1 m.2.1 m.2.2 h gu d (inV (.int m.1) os) rest).isEmpty
inductive E8(K:PySem.W.Frag)(C:Addr)(vs:List V)(H:Hp)(Q:VK)(_:XK):Prop where
 | mk(lp lo tm p lr ld:Addr)(Rs:List (List Row))(ts:List V)(Ms:List P3)(os:List V)(h gu d rest:Int)(_:vs=[.ref lp,.ref tm,.ref lo,.ref p,.int rest])(_:H lp=some (.lst ts))(_:TupL H ts (Ms.map pV))(_:H lo=some (.lst os))(_:(∀ x∈os,oneV x))(_:H tm=some (.tup [.int h,.int gu,.int d]))(_:Ur C H p lr ld Rs)(_:Ms.length<=1000)(_:∀ l H',H' l=some (.lst ((Ms.filter (R8 Rs h gu d os rest)).map fun m=>V.int m.1))->Same H H'->H l=none->Q (.ref l) H')
theorem zbh{Rs:List (List Row)}{n c rest:Int}(hr:0<=rest):Rj Rs n c rest=true↔∃ rs∈Rs.drop ((Rs.length:Int)-rest).toNat,∃ r∈rs,hit n c r=true:=by
 rw[zbg];constructor
 ·rintro⟨j,rs,h1,h2,h3⟩
  obtain⟨r,hr1,hr2⟩:=List.any_eq_true.mp h2;refine⟨rs,?_,r,hr1,hr2⟩;have hk:((Rs.length:Int)-rest).toNat<=j:=by omega
  refine zze (i:=j-((Rs.length:Int)-rest).toNat) ?_;rw[List.getElem?_drop,Nat.add_sub_cancel' hk];exact h1
 ·rintro⟨rs,h1,r,h2,h3⟩
  obtain⟨i,hi,e⟩:=zz9 h1;refine⟨((Rs.length:Int)-rest).toNat+i,rs,?_,List.any_eq_true.mpr ⟨r,h2,h3⟩,by omega⟩
  rw[<- List.getElem?_drop,zy1 hi,e]
noncomputable def zgt(xs:List V):List Nat:=(List.range xs.length).filter fun i=>decide (xs[i]?=some .non)
noncomputable def Wr(xs:List V)(n:Int):Option Nat:=(List.range xs.length).find? fun i=>decide (xs[i]?=some (.int n))
noncomputable def oN:Option Nat->V
 | none=>.non
 | some i=>.int i
inductive Gj(K:PySem.W.Frag)(vs:List V)(H:Hp)(Q:VK)(_:XK):Prop where
 | mk(b:Addr)(xs:List V)(n:Int)(_:vs=[.ref b,.int n])(_:H b=some (.lst xs))(_:(∀ x∈xs,oneV x))(_:xs.length<=100)(_:∀ H',Same H H'->Q (oN (Wr xs n)) H')
noncomputable def Tw:List V->List V->Bool
 | x :: xs,y :: ys=>if decide (x=.non)=decide (y=.non) then Tw xs ys else decide (y=.non)
 | _,_=>false
noncomputable def Yq:List (Nat×Option Int)->List V->List V
 | [],xs=>xs
 | (p,w) :: r,xs=>Yq r (xs.set p (oV w))
noncomputable def V5(s:Nat×Option Int):List V:=[.int (s.1:Nat),oV s.2]
inductive N5(K:PySem.W.Frag)(vs:List V)(H:Hp)(Q:VK)(_:XK):Prop where
 | mk(b c:Addr)(xs ts:List V)(st:List (Nat×Option Int))(_:vs=[.ref b,.ref c])(_:H b=some (.lst xs))(_:H c=some (.lst ts))(_:TupL H ts (st.map V5))(_:(∀ s∈st,s.1<xs.length))(_:(∀ x∈xs,oneV x))(_:xs.length<=100)(_:st.length<=100)(_:∀ l H',H' l=some (.lst (Yq st xs))->Same H H'->H l=none->Q (.ref l) H')
theorem X5:∀ (st:List (Nat×Option Int)) (xs:List V),(Yq st xs).length=xs.length
 | [],_=>rfl
 | (p,w) :: r,xs=>by rw[Yq,X5 r,z0q]
theorem E9(xs:List V)(n:Int):(Wr xs n=none/\∀ i:Nat,xs[i]?≠some (V.int n))\/∃ i:Nat,Wr xs n=some i/\xs[i]?=some (V.int n):=by
 unfold Wr;cases h:(List.range xs.length).find? fun i=>decide (xs[i]?=some (.int n)) with
 | none =>
   refine .inl ⟨rfl,fun i e=>?_⟩
   have hi:i<xs.length:=(zy0.mp e).1;have:=List.find?_eq_none.mp h i (zzx.mpr hi);exact this (zy4 e)
 | some i =>
   have:=List.find?_some h;exact .inr ⟨i,rfl,of_decide_eq_true this⟩
theorem zbi(xs:List V)(k:Nat):J7 xs (some (k:Int)) none=xs.drop k:=by
 unfold J7;rw[HT.sIx_nat,HT.sIx_none];by_cases h:k<=xs.length
 ·rw[Nat.min_eq_left h,<- List.length_drop,zzh]
 ·rw[Nat.min_eq_right (by omega),List.drop_length,List.take_nil,List.drop_eq_nil_of_le (by omega)]
inductive ILs(H:Hp):List Addr->List (List Int)->Prop where
 | nil:ILs H [] []
 | cons {l:Addr} {ls:List Addr} {r:List Int} {R:List (List Int)} (h:H l=some (.lst (r.map V.int))) (n:ILs H ls R):ILs H (l :: ls) (r :: R)
theorem ILs.keep{H H':Hp}:∀ {ls:List Addr} {R:List (List Int)},(∀ l∈ls,∀ o,H l=some o->H' l=some o)->ILs H ls R->ILs H' ls R
 | _,_,_,.nil=>.nil
 | _,_,k,.cons h r=>.cons (k _ zzt _ h) (ILs.keep (fun l hl=>k l (zzi _ hl)) r)
theorem ILs.same{H H':Hp}(e:Same H H'){ls:List Addr}{R:List (List Int)}(h:ILs H ls R):ILs H' ls R:=h.keep fun l _ o q=>e _ _ q
theorem ILs.length{H:Hp}:∀ {ls:List Addr} {R:List (List Int)},ILs H ls R->ls.length=R.length
 | _,_,.nil=>rfl
 | _,_,.cons _ r=>by simp[ILs.length r]
theorem ILs.snoc{H:Hp}{l:Addr}{x:List Int}(h:H l=some (.lst (x.map V.int))):∀ {ls:List Addr} {R:List (List Int)},ILs H ls R->ILs H (ls++[l]) (R++[x])
 | _,_,.nil=>.cons h .nil
 | _,_,.cons h' r=>.cons h' (ILs.snoc h r)
theorem ILs.has{H:Hp}:∀ {ls:List Addr} {R:List (List Int)} {l:Addr},ILs H ls R->l∈ls->∃ xs,H l=some (.lst xs)
 | _,_,_,.nil,e=>by simp at e
 | _,_,_,.cons h r,e=>by
   rcases zy8.mp e with rfl|e
   ·exact⟨_,h⟩
   ·exact ILs.has r e
theorem ILs.getR{H:Hp}:∀ {ls:List Addr} {R:List (List Int)} {i:Nat} {r:List Int},ILs H ls R->R[i]?=some r->∃ l,ls[i]?=some l/\H l=some (.lst (r.map V.int))
 | _,_,_,_,.nil,e=>by simp at e
 | _,_,0,_,.cons h _,e=>by simp at e;subst e;exact⟨_,rfl,h⟩
 | _,_,i+1,x,.cons _ r,e=>by
   obtain⟨t,h1,h2⟩:=ILs.getR (i:=i) (r:=x) r (by simpa using e)
   exact⟨t,by simpa using h1,h2⟩
theorem ILs.getL{H:Hp}:∀ {ls:List Addr} {R:List (List Int)} {i:Nat} {l:Addr},ILs H ls R->ls[i]?=some l->∃ r,R[i]?=some r/\H l=some (.lst (r.map V.int))
 | _,_,_,_,.nil,e=>by simp at e
 | _,_,0,_,.cons h _,e=>by simp at e;subst e;exact⟨_,rfl,h⟩
 | _,_,i+1,x,.cons _ r,e=>by
   obtain⟨t,h1,h2⟩:=ILs.getL (i:=i) (l:=x) r (by simpa using e)
   exact⟨t,by simpa using h1,h2⟩
structure Kt(rows:List (List Int))(nu:List Int):Prop where
 few:rows.length<=20
 crowd:nu.length<=30
 inj:nu.Nodup
 rng:∀ n∈nu,1<=n/\n<=999
 sub:∀ r∈rows,r.Nodup/\∀ n∈r,n∈nu
structure Yh(rows:List (List Int))(gs:List V):Prop where
 len:gs.length=rows.length
 one:∀ x∈gs,oneV x
 may:∀ (k:Nat) (n:Int),gs[k]?=some (.int n)->∃ r,rows[k]?=some r/\n∈r
 inj:∀ (j k:Nat) (n:Int),gs[j]?=some (.int n)->gs[k]?=some (.int n)->j=k
noncomputable def Qt(rows:List (List Int))(gs:List V)(p:Nat):Prop:=∃ S:Nat->Prop,S p/\∀ q,S q->q<rows.length/\∀ r,rows[q]?=some r->∀ n∈r,∃ q',q' < p/\gs[q']?=some (.int n)/\S q'
noncomputable def Vc(rows:List (List Int))(gs:List V):Prop:=∀ p,gs[p]?=some .non->Qt rows gs p
inductive zdo(K:PySem.W.Frag)(vs:List V)(H:Hp)(Q:VK)(_:XK):Prop where
 | mk(l:Addr)(ls:List Addr)(rows:List (List Int))(nu:List Int)(_:vs=[.ref l])(_:H l=some (.lst (ls.map V.ref)))(_:ILs H ls rows)(_:Kt rows nu)(_:∀ l' gs H',H' l'=some (.lst gs)->Yh rows gs->Vc rows gs->Same H H'->H l'=none->Q (.ref l') H')
inductive Mx(K:PySem.W.Frag)(vs:List V)(H:Hp)(Q:VK)(_:XK):Prop where
 | mk(l lg:Addr)(ls:List Addr)(rows:List (List Int))(gs:List V)(_:vs=[.ref l,.ref lg])(_:H l=some (.lst (ls.map V.ref)))(_:ILs H ls rows)(_:rows.length<=100)(_:H lg=some (.lst gs))(_:Yh rows gs)(_:∀ H',Same H H'->Q (.bl true) H')
theorem Kc{n:Int}{r:List Int}:inV (.int n) (r.map V.int)=decide (n∈r):=by
 induction r with
 | nil=>rfl
 | cons x r ih =>
   unfold inV at ih ⊢
   rw[zzc,z02,ih];have e:eqV (.int x) (.int n)=decide (n=x):=by
    show (x == n)=_;by_cases h:n=x
    ·subst h;simp
    ·rw[zzb h];exact zzn.mpr (Ne.symm h)
   rw[e];by_cases h:n=x
   ·subst h;simp
   ·by_cases h2:n∈r<;>simp[h,h2]
theorem Gk(r:List Int):(r.map V.int).all Sj=true:=by
 rw[List.all_map];exact z06.mpr fun _ _=>rfl
end G

namespace G
open PySem PySem.Spec PyProof.Rows L2
noncomputable def newS(st:List (Nat×Option Int))(k:Nat):List V:=(st.filter fun s=>decide (s.1=k)).map fun s=>oV s.2
theorem Gm:∀ (st:List (Nat×Option Int)) (xs:List V) (k:Nat),(st.map (·.1)).Nodup->k<xs.length->(Yq st xs)[k]?=some ((newS st k++[xs.getD k .non]).getD 0 .non)
 | [],xs,k,_,hk=>by
   rw[Yq,zy1 hk];show _=some (xs.getD k .non);rw[zzp,zy1 hk];rfl
 | (p,w) :: r,xs,k,nd,hk=>by
   rw[zzc,zzo] at nd
   rw[Yq,Gm r _ k nd.2 (by rw[z0q];exact hk)]
   by_cases h:p=k
   ·subst h
    have e:newS r p=[]:=by
     unfold newS;rw[List.map_eq_nil_iff,List.filter_eq_nil_iff];intro s hs z;exact nd.1 (zy9.mpr ⟨s,hs,of_decide_eq_true z⟩)
    have e2:newS ((p,w) :: r) p=oV w :: newS r p:=by
     unfold newS;rw[z0j,if_pos (zy4 rfl),zzc]
    rw[e2,e];show some ((xs.set p (oV w)).getD p .non)=some (oV w);rw[zzp,zz8 hk];rfl
   ·have e2:newS ((p,w) :: r) k=newS r k:=by
     unfold newS;rw[z0j,if_neg (by rw[zzb h];decide)]
    rw[e2];have e3:(xs.set p (oV w)).getD k .non=xs.getD k .non:=by
     rw[zzp,zzp,zz7 h]
    rw[e3]
section
variable{rows:List (List Int)}{gs:List V}
noncomputable def adjN(rows:List (List Int))(gs:List V)(q:Nat)(n:Int)(q':Nat):Prop:=(∃ r,rows[q]?=some r/\n∈r)/\gs[q']?=some (.int n)
noncomputable def Px(rows:List (List Int))(gs:List V)(q:Nat)(n:Int):Prop:=(∃ r,rows[q]?=some r/\n∈r)/\∀ j:Nat,gs[j]?≠some (V.int n)
noncomputable def U1(rows:List (List Int))(gs:List V)(q:Nat):Prop:=∃ n,Px rows gs q n
inductive Walk(rows:List (List Int))(gs:List V)(p:Nat):Nat->Nat->Prop where
 | nil:Walk rows gs p p 0
 | snoc {q q' k:Nat} {n:Int} (h:Walk rows gs p q k) (a:adjN rows gs q n q'):Walk rows gs p q' (k+1)
theorem Walk.cons{p p' q k:Nat}{n:Int}(a:adjN rows gs p n p')(h:Walk rows gs p' q k):Walk rows gs p q (k+1):=by
 induction h with
 | nil=>exact .snoc .nil a
 | snoc _ a' ih=>exact .snoc ih a'
inductive Ch(rows:List (List Int))(gs:List V):Nat->List (Nat×Option Int)->Nat->Option Int->Prop where
 | one (q:Nat) (w:Option Int):Ch rows gs q [(q,w)] q w
 | step {q q' e:Nat} {n:Int} {st:List (Nat×Option Int)} {w:Option Int} (a:adjN rows gs q n q') (h:Ch rows gs q' st e w):Ch rows gs q ((q,some n) :: st) e w
theorem Ch.pos{q e:Nat}{st:List (Nat×Option Int)}{w:Option Int}(h:Ch rows gs q st e w):0<st.length:=by cases h<;>simp
theorem Ch.walk{q e:Nat}{st:List (Nat×Option Int)}{w:Option Int}(h:Ch rows gs q st e w):Walk rows gs q e (st.length-1):=by
 induction h with
 | one q w=>exact .nil
 | step a h ih =>
   have:=h.pos;have e:=Walk.cons a ih;rw[zzl,Nat.add_sub_cancel];rw[Nat.sub_add_cancel this] at e
   exact e
theorem Ch.drop{q e:Nat}{st:List (Nat×Option Int)}{w:Option Int}(h:Ch rows gs q st e w):∀ x∈st.map (·.1),∃ st',Ch rows gs x st' e w/\st'.length<=st.length:=by
 induction h with
 | one q w=>intro x hx;simp at hx;subst hx;exact⟨_,.one _ _,zza _⟩
 | @step q q' e n st w a h ih =>
   intro x hx;rw[zzc] at hx
   rcases zy8.mp hx with z|z
   ·subst z;exact⟨_,.step a h,zza _⟩
   ·obtain⟨st',h1,h2⟩:=ih x z
    exact⟨st',h1,by rw[zzl];omega⟩
theorem Ch.hd{q e:Nat}{st:List (Nat×Option Int)}{w:Option Int}(h:Ch rows gs q st e w):∃ x r,st=(q,x) :: r:=by cases h<;>exact⟨_,_,rfl⟩
theorem Ch.last{q e:Nat}{st:List (Nat×Option Int)}{w:Option Int}(h:Ch rows gs q st e w):e∈st.map (·.1):=by
 induction h with
 | one q w=>simp
 | step a h ih=>rw[zzc];exact zzi _ ih
theorem Ch.nodup{q e:Nat}{st:List (Nat×Option Int)}{w:Option Int}(h:Ch rows gs q st e w)(hm:∀ k,Walk rows gs q e k->st.length<=k+1):(st.map (·.1)).Nodup:=by
 induction h with
 | one q w=>simp
 | @step q q' e n st w a h ih =>
   rw[zzc,zzo];refine⟨fun hq=>?_,ih fun k hk=>?_⟩
   ·obtain⟨st',h1,h2⟩:=h.drop q hq
    have:=hm _ h1.walk;have:=h1.pos;rw[zzl] at *
    omega
   ·have:=hm _ (Walk.cons a hk)
    rw[zzl] at this
    omega
theorem Ch.mem{q e:Nat}{st:List (Nat×Option Int)}{w:Option Int}(h:Ch rows gs q st e w):∀ (k:Nat) (n:Int),(k,some n)∈st->(adjN rows gs k n k\/True)/\(((∃ r,rows[k]?=some r/\n∈r)/\∃ k',gs[k']?=some (V.int n)/\k'∈st.tail.map (·.1))\/(w=some n/\k=e)):=by
 induction h with
 | one q w =>
   intro k n hk;simp at hk
   exact⟨.inr trivial,.inr ⟨hk.2.symm,hk.1⟩⟩
 | @step q q' e n' st w a h ih =>
   intro k n hk;refine⟨.inr trivial,?_⟩;rcases zy8.mp hk with z|z
   ·cases z
    refine .inl ⟨a.1,q',a.2,?_⟩;obtain⟨x,r,e⟩:=h.hd;rw[e];simp
   ·rcases(ih k n z).2 with ⟨h1,k',h2,h3⟩|h1
    ·refine .inl ⟨h1,k',h2,?_⟩
     show k'∈st.map (·.1)
     obtain⟨x,r,e⟩:=h.hd;rw[e] at h3 ⊢
     exact zzi _ h3
    ·exact .inr h1
theorem Ch.inj{q e:Nat}{st:List (Nat×Option Int)}{w:Option Int}(FP:Yh rows gs)(h:Ch rows gs q st e w)(hw:∀ n,w=some n->∀ j:Nat,gs[j]?≠some (V.int n))(nd:(st.map (·.1)).Nodup):∀ (j k:Nat) (n:Int),(j,some n)∈st->(k,some n)∈st->j=k:=by
 induction h with
 | one q w=>intro j k n h1 h2;simp at h1 h2;rw[h1.1,h2.1]
 | @step q q' e n' st w a h ih =>
   intro j k n h1 h2;rw[zzc,zzo] at nd
   have key:∀ k,(k,some n')∈st->False:=fun k hk=>by
    rcases(h.mem k n' hk).2 with ⟨_,k',h2,h3⟩|⟨h1,_⟩
    ·have e:k'=q':=FP.inj k' q' n' h2 a.2
     subst e;obtain⟨x,r,e⟩:=h.hd;have nd2:=nd.2;rw[e] at nd2 h3
     rw[zzc,zzo] at nd2
     exact nd2.1 h3
    ·exact hw n' h1 q' a.2
   rcases zy8.mp h1 with z1|z1<;>rcases zy8.mp h2 with z2|z2
   ·cases z1;cases z2;rfl
   ·cases z1;exact(key k z2).elim
   ·cases z2;exact(key j z1).elim
   ·exact ih hw nd.2 j k n z1 z2
theorem zdp{st:List (Nat×Option Int)}{k:Nat}(nd:(st.map (·.1)).Nodup):(k∉st.map (·.1)/\newS st k=[])\/∃ w,(k,w)∈st/\newS st k=[oV w]:=by
 induction st with
 | nil=>exact .inl ⟨by simp,rfl⟩
 | cons s r ih =>
   obtain⟨p,w⟩:=s;rw[zzc,zzo] at nd
   by_cases h:p=k
   ·subst h
    refine .inr ⟨w,zzt,?_⟩;rcases ih nd.2 with ⟨_,e⟩|⟨w',h1,_⟩
    ·have e2:newS ((p,w) :: r) p=oV w :: newS r p:=by
      unfold newS;rw[z0j,if_pos (zy4 rfl),zzc]
     rw[e2,e]
    ·exact absurd (zy9.mpr ⟨_,h1,rfl⟩) nd.1
   ·have e2:newS ((p,w) :: r) k=newS r k:=by
     unfold newS;rw[z0j,if_neg (by rw[zzb h];decide)]
    rw[e2];rcases ih nd.2 with ⟨h1,e⟩|⟨w',h1,e⟩
    ·exact .inl ⟨fun z=>by rcases zy8.mp z with q|q;exact h q.symm;exact h1 q,e⟩
    ·exact .inr ⟨w',zzi _ h1,e⟩
theorem Ws{st:List (Nat×Option Int)}{xs:List V}{k:Nat}(nd:(st.map (·.1)).Nodup)(hk:k<xs.length):(k∉st.map (·.1)/\(Yq st xs)[k]?=xs[k]?)\/∃ w,(k,w)∈st/\(Yq st xs)[k]?=some (oV w):=by
 rw[Gm st xs k nd hk];rcases zdp (k:=k) nd with ⟨h,e⟩|⟨w,h,e⟩
 ·refine .inl ⟨h,?_⟩
  rw[e];show some (xs.getD k .non)=_;rw[zzp,zy1 hk];rfl
 ·exact .inr ⟨w,h,by rw[e];rfl⟩
theorem Ch.lt{q e:Nat}{st:List (Nat×Option Int)}{w:Option Int}(FP:Yh rows gs)(h:Ch rows gs q st e w)(hq:q<rows.length):∀ s∈st,s.1<rows.length:=by
 induction h with
 | one q w=>intro s hs;simp at hs;subst hs;exact hq
 | @step q q' e n st w a h ih =>
   intro s hs;rcases zy8.mp hs with z|z
   ·subst z;exact hq
   ·refine ih ?_ s z
    have:=(zy0.mp a.2).1;rw[FP.len] at this;exact this
theorem Ch.fill{q e:Nat}{st:List (Nat×Option Int)}{w:Option Int}(FP:Yh rows gs)(h:Ch rows gs q st e w)(hq:q<rows.length)(hw:∀ n,w=some n->Px rows gs e n)(nd:(st.map (·.1)).Nodup):Yh rows (Yq st gs):=by
 have hlt:=h.lt FP hq;have hinj:=h.inj FP (fun n hn=>(hw n hn).2) nd
 have src:∀ (k:Nat) (n:Int),(k,some n)∈st->(∃ r,rows[k]?=some r/\n∈r)/\∀ j:Nat,gs[j]?=some (V.int n)->j∈st.map (·.1):=fun k n hk=>by
  rcases(h.mem k n hk).2 with ⟨h1,k',h2,h3⟩|⟨h1,rfl⟩
  ·refine⟨h1,fun j hj=>?_⟩
   rw[FP.inj j k' n hj h2];obtain⟨x,r,e⟩:=h.hd;rw[e] at h3 ⊢
   exact zzi _ h3
  ·exact⟨(hw n h1).1,fun j hj=>absurd hj ((hw n h1).2 j)⟩
 have cs:∀ k,k<gs.length->(k∉st.map (·.1)/\(Yq st gs)[k]?=gs[k]?)\/∃ w,(k,w)∈st/\(Yq st gs)[k]?=some (oV w):=fun k hk=>Ws nd hk
 have at_:∀ (k:Nat) (n:Int),(Yq st gs)[k]?=some (V.int n)->(k∉st.map (·.1)/\gs[k]?=some (V.int n))\/(k,some n)∈st:=fun k n hk=>by
  have hkl:k<gs.length:=by
   have:=(zy0.mp hk).1;rw[X5] at this;exact this
  rcases cs k hkl with ⟨h1,e⟩|⟨w',h1,e⟩
  ·exact .inl ⟨h1,by rw[<- e];exact hk⟩
  ·rw[e] at hk
   cases w' with
   | none=>cases hk
   | some m=>cases hk;exact .inr h1
 refine⟨by rw[X5];exact FP.len,fun x hx=>?_,fun k n hk=>?_,fun j k n hj hk=>?_⟩
 ·obtain⟨k,hk,rfl⟩:=zz9 hx
  have hkl:k<gs.length:=by rw[X5] at hk;exact hk
  have e0:=zy1 hk;rcases cs k hkl with ⟨_,e⟩|⟨w',_,e⟩
  ·rw[e,zy1 hkl] at e0
   rw[<- Option.some.inj e0];exact FP.one _ (zz4 hkl)
  ·rw[e] at e0
   rw[<- Option.some.inj e0];exact zhz w'
 ·rcases at_ k n hk with ⟨_,h1⟩|h1
  ·exact FP.may k n h1
  ·exact(src k n h1).1
 ·rcases at_ j n hj with ⟨a1,a2⟩|a1<;>rcases at_ k n hk with ⟨b1,b2⟩|b1
  ·exact FP.inj j k n a2 b2
  ·exact absurd ((src k n b1).2 j a2) a1
  ·exact absurd ((src j n a1).2 k b2) b1
  ·exact hinj j k n a1 b1
theorem Ch.out{p0 q e:Nat}{n0:Int}{w:Option Int}{st:List (Nat×Option Int)}{S:Nat->Prop}(FP:Yh rows gs)(hS:∀ q,S q->q<rows.length/\∀ r,rows[q]?=some r->∀ n∈r,∃ q',q' < p0/\gs[q']?=some (.int n)/\S q')(h:Ch rows gs q st e w):w=some n0->Px rows gs e n0->¬ S q:=by
 induction h with
 | one q w =>
   intro hw hf hs;obtain⟨r,h1,h2⟩:=hf.1;obtain⟨q',_,h3,_⟩:=(hS _ hs).2 r h1 n0 h2;exact hf.2 q' h3
 | @step q q' e n st w a h ih =>
   intro hw hf hs;obtain⟨r,h1,h2⟩:=a.1;obtain⟨q'',_,h3,h4⟩:=(hS q hs).2 r h1 n h2;have:q''=q':=FP.inj q'' q' n h3 a.2;subst this;exact ih hw hf h4
theorem Qt.behind{p0 q e:Nat}{n0:Int}{st:List (Nat×Option Int)}(FP:Yh rows gs)(S0:Qt rows gs p0)(h:Ch rows gs q st e (some n0))(hf:Px rows gs e n0)(hq:q<rows.length)(nd:(st.map (·.1)).Nodup):Qt rows (Yq st gs) p0:=by
 obtain⟨S,hp,hS⟩:=S0;have outAll:∀ x∈st.map (·.1),¬ S x:=fun x hx=>by
  obtain⟨st',h1,_⟩:=h.drop x hx;exact h1.out FP hS rfl hf
 refine⟨S,hp,fun q1 h1=>⟨(hS q1 h1).1,fun r hr n hn=>?_⟩⟩
 obtain⟨q',h2,h3,h4⟩:=(hS q1 h1).2 r hr n hn;refine⟨q',h2,?_,h4⟩;have hkl:q' < gs.length:=(zy0.mp h3).1;rcases Ws nd hkl with ⟨_,e⟩|⟨w,h5,_⟩
 ·rw[e];exact h3
 ·exact absurd h4 (outAll q' (zy9.mpr ⟨_,h5,rfl⟩))
structure Xi(rows:List (List Int))(gs:List V)(p:Nat)(st:List (Nat×Option Int))(e:Nat)(w:Option Int):Prop where
 ch:Ch rows gs p st e w
 free:∀ n,w=some n->Px rows gs e n/\∀ q k,Walk rows gs p q k->U1 rows gs q->st.length<=k+1
 none:w=none->(∀ q k,Walk rows gs p q k->¬ U1 rows gs q)/\(∀ q k,Walk rows gs p q k->q<=e)/\∀ k,Walk rows gs p e k->st.length<=k+1
theorem Xi.nodup{p e:Nat}{st:List (Nat×Option Int)}{w:Option Int}(c:Xi rows gs p st e w):(st.map (·.1)).Nodup:=by
 refine c.ch.nodup fun k hk=>?_
 cases h:w with
 | none=>exact(c.none h).2.2 k hk
 | some n=>exact(c.free n h).2 e k hk ⟨n,(c.free n h).1⟩
theorem Xi.fill{p e:Nat}{st:List (Nat×Option Int)}{w:Option Int}(FP:Yh rows gs)(c:Xi rows gs p st e w)(hp:p<rows.length):Yh rows (Yq st gs):=c.ch.fill FP hp (fun n hn=>(c.free n hn).1) c.nodup
theorem zdq{p:Nat}(FP:Yh rows gs)(hp:p<rows.length)(ha:∀ q n,gs[q]?=some (V.int n)->q<p)(hn:∀ q k,Walk rows gs p q k->¬ U1 rows gs q):Qt rows gs p:=by
 refine⟨fun q=>∃ k,Walk rows gs p q k,⟨0,.nil⟩,fun q ⟨k,hk⟩=>⟨?_,fun r hr n hnr=>?_⟩⟩
 ·cases hk with
  | nil=>exact hp
  | snoc _ a =>
    have:=(zy0.mp a.2).1;rw[FP.len] at this;exact this
 ·by_cases hx:∃ j:Nat,gs[j]?=some (V.int n)
  ·obtain⟨j,hj⟩:=hx
   exact⟨j,ha j n hj,hj,k+1,.snoc hk ⟨⟨r,hr,hnr⟩,hj⟩⟩
  ·exact absurd ⟨n,⟨r,hr,hnr⟩,fun j hj=>hx ⟨j,hj⟩⟩ (hn q k hk)
end
section
variable{rows:List (List Int)}{gs:List V}{p:Nat}
structure Bfs(rows:List (List Int))(gs:List V)(p:Nat)(line:List Nat)(dep:Nat->Nat):Prop where
 nodup:line.Nodup
 memp:p∈line
 d0:dep p=0
 walk:∀ q∈line,Walk rows gs p q (dep q)
 sorted:∀ (i j q q':Nat),i<=j->line[i]?=some q->line[j]?=some q'->dep q<=dep q'
noncomputable def Done(rows:List (List Int))(gs:List V)(line:List Nat)(dep:Nat->Nat)(dn:Nat):Prop:=∀ (i q:Nat),i<dn->line[i]?=some q->∀ n q',adjN rows gs q n q'->q'∈line/\dep q'<=dep q+1
theorem zbj(rows:List (List Int))(gs:List V)(p:Nat):Bfs rows gs p [p] (fun _=>0):=by
 refine⟨by simp,by simp,rfl,fun q hq=>?_,fun i j q q' _ _ _=>zza _⟩
 simp at hq;subst hq;exact .nil
variable{line:List Nat}{dep:Nat->Nat}{dn:Nat}
theorem Bfs.reach(B:Bfs rows gs p line dep)(D:Done rows gs line dep dn){q k:Nat}(h:Walk rows gs p q k):(q∈line/\dep q<=k)\/∃ j q',dn<=j/\line[j]?=some q'/\dep q' < k:=by
 induction h with
 | nil=>exact .inl ⟨B.memp,by rw[B.d0];exact zza _⟩
 | @snoc q q' k n h a ih =>
   rcases ih with ⟨h1,h2⟩|⟨j,x,h1,h2,h3⟩
   ·obtain⟨i,hi,e⟩:=zz9 h1
    have e':line[i]?=some q:=by rw[zy1 hi,e]
    by_cases hd:i<dn
    ·obtain⟨a1,a2⟩:=D i q hd e' n q' a
     exact .inl ⟨a1,by omega⟩
    ·exact .inr ⟨i,q,by omega,e',by omega⟩
   ·exact .inr ⟨j,x,h1,h2,by omega⟩
theorem Bfs.full(B:Bfs rows gs p line dep)(D:Done rows gs line dep line.length){q k:Nat}(h:Walk rows gs p q k):q∈line/\dep q<=k:=by
 rcases B.reach D h with z|⟨j,x,h1,h2,_⟩
 ·exact z
 ·have:=(zy0.mp h2).1;omega
theorem Bfs.early(B:Bfs rows gs p line dep)(D:Done rows gs line dep dn){here q k:Nat}(hh:line[dn]?=some here)(h:Walk rows gs p q k)(hk:k<dep here):∃ i,i<dn/\line[i]?=some q:=by
 rcases B.reach D h with ⟨h1,h2⟩|⟨j,x,h1,h2,h3⟩
 ·obtain⟨i,hi,e⟩:=zz9 h1
  have e':line[i]?=some q:=by rw[zy1 hi,e]
  refine⟨i,?_,e'⟩;by_cases hd:i<dn
  ·exact hd
  ·have:=B.sorted dn i here q (by omega) hh e'
   omega
 ·have:=B.sorted dn j here x h1 hh h2
  omega
theorem Bfs.fewest(B:Bfs rows gs p line dep)(D:Done rows gs line dep dn){here:Nat}(hh:line[dn]?=some here)(hno:∀ (i q:Nat),i<dn->line[i]?=some q->¬ U1 rows gs q){q k:Nat}(h:Walk rows gs p q k)(hf:U1 rows gs q):dep here+1<=k+1:=by
 by_cases hk:k<dep here
 ·obtain⟨i,hi,e⟩:=B.early D hh h hk
  exact absurd hf (hno i q hi e)
 ·omega
noncomputable def Vn(dep:Nat->Nat)(q d:Nat):Nat->Nat:=fun x=>if x=q then d else dep x
theorem Bfs.app(B:Bfs rows gs p line dep){here q':Nat}{n:Int}(hh:line[dn]?=some here)(near:∀ x∈line,dep x<=dep here+1)(a:adjN rows gs here n q')(hn:q'∉line) :
  Bfs rows gs p (line++[q']) (Vn dep q' (dep here+1))/\(∀ x∈line,Vn dep q' (dep here+1) x=dep x)/\∀ x∈line++[q'],Vn dep q' (dep here+1) x<=dep here+1:=by
 have old:∀ x∈line,Vn dep q' (dep here+1) x=dep x:=fun x hx=>by
  unfold Vn;rw[if_neg (fun (z:x=q')=>hn (by rw[<- z];exact hx))]
 have new:Vn dep q' (dep here+1) q'=dep here+1:=by unfold Vn;rw[if_pos rfl]
 have hhm:=zze hh;have all:∀ x∈line++[q'],Vn dep q' (dep here+1) x<=dep here+1:=fun x hx=>by
  rcases zy6.mp hx with z|z
  ·rw[old x z];exact near x z
  ·rw[zy3.mp z,new];exact zza _
 refine⟨⟨Fc B.nodup hn,zzu _ B.memp,by rw[old p B.memp];exact B.d0,fun q hq=>?_,fun i j x y hij hx hy=>?_⟩,old,all⟩
 ·rcases zy6.mp hq with z|z
  ·rw[old q z];exact B.walk q z
  ·rw[zy3.mp z,new];exact .snoc (B.walk here hhm) a
 ·by_cases hj:j<line.length
  ·rw[zz0 hj] at hy
   rw[zz0 (by omega)] at hx
   rw[old x (zze hx),old y (zze hy)];exact B.sorted i j x y hij hx hy
  ·rw[zzy (by omega)] at hy
   have:y=q':=by
    cases e:j-line.length with
    | zero=>rw[e] at hy;simpa using hy.symm
    | succ m=>rw[e] at hy;simp at hy
   subst this;rw[new];exact all x (zze hx)
theorem Done.app{line':List Nat}{dep':Nat->Nat}(D:Done rows gs line dep dn)(hd:dn<=line.length)(hl:∃ r,line'=line++r)(he:∀ x∈line,dep' x=dep x):Done rows gs line' dep' dn:=fun i q hi e n q' a=>by
 obtain⟨r,rfl⟩:=hl;rw[zz0 (by omega)] at e
 obtain⟨h1,h2⟩:=D i q hi e n q' a;exact⟨zzu _ h1,by rw[he q' h1,he q (zze e)];exact h2⟩
noncomputable def To(rows:List (List Int))(gs:List V)(p:Nat)(line:List Nat)(dep:Nat->Nat)(fr:Nat->Option (Nat×Int)):Prop:=fr p=none/\∀ q∈line,q≠p->∃ par n,fr q=some (par,n)/\par∈line/\adjN rows gs par n q/\dep q=dep par+1
theorem To.back{fr:Nat->Option (Nat×Int)}(d0:dep p=0)(F:To rows gs p line dep fr):∀ (d q e:Nat) (w:Option Int) (st:List (Nat×Option Int)),dep q=d->q∈line->Ch rows gs q st e w->∃ pre,Ch rows gs p (pre++st) e w/\pre.length=d:=fun d=>by
 induction d with
 | zero =>
   intro q e w st hd hq h;by_cases hp:q=p
   ·subst hp;exact⟨[],h,rfl⟩
   ·obtain⟨par,n,_,_,_,h4⟩:=F.2 q hq hp
    omega
 | succ d ih =>
   intro q e w st hd hq h;by_cases hp:q=p
   ·subst hp;rw[d0] at hd;cases hd
   ·obtain⟨par,n,h1,h2,h3,h4⟩:=F.2 q hq hp
    obtain⟨pre,h5,h6⟩:=ih par e w _ (by omega) h2 (.step h3 h)
    exact⟨pre++[(par,some n)],by rw[z0r];exact h5,by rw[zy2,h6];rfl⟩
theorem Bo{here:Nat}{n:Int}{st:List (Nat×Option Int)}(B:Bfs rows gs p line dep)(D:Done rows gs line dep dn)(hh:line[dn]?=some here)(hno:∀ (i q:Nat),i<dn->line[i]?=some q->¬ U1 rows gs q)(hf:Px rows gs here n)(c:Ch rows gs p st here (some n))(hl:st.length=dep here+1):Xi rows gs p st here (some n) :=
 ⟨c,fun m e=>by cases e;exact⟨hf,fun q k hk hq=>by rw[hl];exact B.fewest D hh hno hk hq⟩,(fun z=>nomatch z)⟩
theorem Bp{e:Nat}{st:List (Nat×Option Int)}(B:Bfs rows gs p line dep)(D:Done rows gs line dep line.length)(hno:∀ q∈line,¬ U1 rows gs q)(he:∀ q∈line,q<=e)(c:Ch rows gs p st e none)(hl:st.length=dep e+1):Xi rows gs p st e none :=
 ⟨c,(fun m z=>nomatch z),fun _=>⟨fun q k hk=>hno q (B.full D hk).1,fun q k hk=>he q (B.full D hk).1,fun k hk=>by rw[hl];have:=(B.full D hk).2;omega⟩⟩
end
end G

namespace L2
open PySem PySem.Spec PyProof.Rows
inductive zh1(x:V)(vs:List V)(H:Hp)(Q:VK):Prop where
 | mk(l:Addr)(xs:List V)(y:V)(j:Nat)(_:x=.ref l)(_:vs=[y])(_:H l=some (.lst xs))(_:Sj y=true)(_:xs.all Sj=true)(_:(∃ z,xs[j]?=some z/\eqV z y=true))(_:(∀ m z,m<j->xs[m]?=some z->eqV z y=false))(_:Q (.int (j:Nat)) H)
theorem zdr{X:Cx}:MtM X "list.index" zh1:=by
 intro pins s σ H x vs v us Q I rx rv h;obtain⟨l,xs,y,j,rfl,rfl,hH,fy,fs,⟨zj,hzj,hej⟩,hno,q⟩:=h;cases rx;obtain⟨u,rfl,ru⟩:=rv.one;obtain⟨z,its,n,r,hl,e⟩:=I.lstM hH;have hjx:j<xs.length:=(zy0.mp hzj).1;have hj:j<its.toArray.size:=by rw[zzd];omega
 have hline:=Pr;have ev:∀ (m:Nat) (hm:m<its.toArray.size) (w:V),xs[m]?=some w->eqU y (its.toArray[m]'hm)=eqV w y:=fun m hm w hw=>by
  obtain⟨uu,hu,ruu⟩:=r.get hw;have:its.toArray[m]'hm=uu:=by
   have h1:its[m]?=some (its.toArray[m]'hm):=by simp
   rw[h1] at hu;exact Option.some.inj hu
  rw[this];refine Be ruu ?_;exact z06.mp fs w (zze hw)
 refine call_meets PySem.F.slot_list_index ⟨_,e,rfl⟩ PySem.F.entry_list_index (PySem.F.args_list_index_2 _ _) (SeqAt.list_indexAt l its.toArray n none #[] u (eqU y) j hj (by omega) (by rw[ev j hj zj hzj];exact hej) (fun m hm hmj=>?_)) ⟨e,fun w hw=>Sk ru fy r fs w (by simpa using hw),?_⟩
 ·have hmx:m<xs.length:=by rw[zzd] at hm;omega
  have hw:xs[m]?=some (xs[m]'hmx):=zy1 hmx;rw[ev m hm _ hw];exact hno m _ hmj hw
 ·exact⟨.int (j:Nat),H,I.tok _,⟨_,rfl⟩,q⟩
end L2
namespace G
open PySem PySem.Spec PyProof.Rows L2
theorem zjr{H:Hp}{ts:List V}{st:List (Nat×Option Int)}{i:Nat}{s:Nat×Option Int}(h:TupL H ts (st.map V5))(e:st[i]?=some s):∃ t,ts[i]?=some (.ref t)/\H t=some (.tup (V5 s)):=by
 have e':(st.map V5)[i]?=some (V5 s):=by rw[zy5,e];rfl
 exact h.getR e'
theorem Kd{z:V}{n:Int}(ho:oneV z):eqV z (.int n)=true↔z=.int n:=by
 rcases ho with rfl|⟨i,rfl⟩
 ·constructor
  ·intro h;cases h
  ·intro h;cases h
 ·show (i == n)=true↔_
  constructor
  ·intro h;rw[beq_iff_eq.mp h]
  ·intro h;cases h;simp
theorem zds{gs:List V}{n:Int}(ho:∀ x∈gs,oneV x):inV (.int n) gs=true↔∃ j:Nat,gs[j]?=some (V.int n):=by
 unfold inV;rw[List.any_eq_true];constructor
 ·rintro⟨z,hz,e⟩
  obtain⟨j,hj,rfl⟩:=zz9 hz;exact⟨j,by rw[zy1 hj,(Kd (ho _ hz)).mp e]⟩
 ·rintro⟨j,hj⟩
  have:=zze hj;exact⟨_,this,(Kd (ho _ this)).mpr rfl⟩
theorem zfp(r:List Int):PyData.canLayAll0 (X3 (r.map Dt.int))=true/\PyData.depthAll (X3 (r.map Dt.int))<=1:=by
 induction r with
 | nil=>exact⟨rfl,by decide⟩
 | cons x r ih =>
   obtain⟨h1,h2⟩:=ih;refine⟨by rw[zzc,X3,PyData.canLayAll0,h1];rfl,?_⟩
   rw[zzc,X3,PyData.depthAll];have:PyData.depth (toPy (Dt.int x))<=1:=by simp[toPy,PyData.depth]
   omega
theorem A6(r:List Int):shD (.lst (r.map Dt.int)):=by
 obtain⟨a1,a2⟩:=zfp r;unfold shD SeqAt.shaped;rw[toPy,PyData.canLay0,a1,Bool.true_and];refine zy4 ?_;rw[PyData.depth];omega
theorem A7:shD (.lst []):=A6 []
theorem A8{α:Type}(f:α->Dt)(xs:List α):eqD (.lst (xs.map f)) (.lst [])=xs.isEmpty:=by
 cases xs with
 | nil=>simp[eqD,Q7]
 | cons x xs=>simp[eqD,Q7]
structure zkn(rows:List (List Int))(gs:List V)(i:Nat):Prop where
 len:gs.length=i
 one:∀ x∈gs,oneV x
 may:∀ (k:Nat) (n:Int),gs[k]?=some (.int n)->∃ r,rows[k]?=some r/\n∈r
 inj:∀ (j k:Nat) (n:Int),gs[j]?=some (.int n)->gs[k]?=some (.int n)->j=k
theorem Yh.drop{rows:List (List Int)}{gs:List V}(F:Yh rows gs)(p:Nat):Yh rows (gs.set p .non):=by
 have cs:∀ (k:Nat) (n:Int),(gs.set p .non)[k]?=some (.int n)->k≠p/\gs[k]?=some (.int n):=fun k n h=>by
  by_cases e:k=p
  ·subst e
   by_cases hk:k<gs.length
   ·rw[zz8 hk] at h;cases h
   ·rw[List.getElem?_eq_none (by rw[z0q];omega)] at h;cases h
  ·rw[zz7 (Ne.symm e)] at h;exact⟨e,h⟩
 refine⟨by rw[z0q];exact F.len,fun x hx=>?_,fun k n h=>F.may k n (cs k n h).2,fun j k n h1 h2=>F.inj j k n (cs j n h1).2 (cs k n h2).2⟩
 rcases List.mem_or_eq_of_mem_set hx with z|z
 ·exact F.one x z
 ·exact .inl z
theorem Yh.without{rows:List (List Int)}{gs:List V}{p:Nat}{x:V}(F:Yh rows gs)(hx:gs[p]?=some x)(f:Int->Bool)(hf:∀ n,f n=false->x=.int n):Yh (rows.map fun r=>r.filter f) (gs.set p .non):=by
 have D:=F.drop p;refine⟨by rw[zyz];exact D.len,D.one,fun k n h=>?_,D.inj⟩
 obtain⟨r,h1,h2⟩:=D.may k n h;refine⟨r.filter f,by rw[zy5,h1];rfl,zzq.mpr ⟨h2,?_⟩⟩
 cases e:f n with
 | true=>rfl
 | false =>
   have hx':=hf n e;subst hx';have hk:k≠p:=fun z=>by
    subst z;rw[zz8 (zy0.mp hx).1] at h;cases h
   rw[zz7 (Ne.symm hk)] at h
   exact absurd (F.inj k p n h hx) hk
theorem Dc{t:TT}{A B:TS}{D:T9}{σ:L2.St}{H:Hp}{b:Bool}(h1:Gr t σ H b)(h:∀ H1,Same H H1->if b=true then A D σ H1 else B D σ H1):Cz t A B D σ H:=h1 _ fun H1 s1=>h H1 s1
noncomputable def Rk(xs:List Nat):List V:=xs.map fun k=>V.int (k:Nat)
end G

namespace L2
open PySem PySem.Spec PyProof.Rows
theorem Ku:∀ {ns:List Int} {its:List Value} {i:Nat} {v:Value},Vals (ns.map V.int) its->its[i]?=some v->∃ t,v=.int (ns.getD i 0) t
 | [],_,_,_,.nil,e=>by simp at e
 | n :: ns,_,0,v,.cons r t,e=>by
   obtain⟨tk,rfl⟩:=r;exact⟨tk,(Option.some.inj e).symm⟩
 | n :: ns,_,i+1,v,.cons r t,e=>Ku (i:=i) t e
theorem zbk{X:Cx}{K:PySem.W.Frag}(hK:X.K=K)(hc:X.calm=true):Vg X (.builtin "max") (fun xs H Q=>∃ (l:Addr) (ns:List Int),xs=[.ref l]/\SqL K H l (ns.map V.int)/\0<ns.length/\∀ M,M∈ns->(∀ a∈ns,a<=M)->Q (.int M) H):=by
 subst hK;intro pins s σ H xs us Q I r h;obtain⟨l,ns,rfl,hl,hpos,q⟩:=h;obtain⟨u,rfl,ru⟩:=Sg r;cases ru;obtain⟨its,r',pl,hz⟩:=I.list hl;have hlen:its.length=ns.length:=by have:=r'.length;rw[zyz] at this;exact this.symm
 have hil:=pl.isList;have hlt:l<s.heap.objs.size:=by obtain⟨_,e,_⟩:=hil;exact Heap.lt_size e
 refine call_max_walk (wpAny_pyIter_list hil ?_);refine⟨s.heap.objs.size,[s.heap.objs.size,l],[s.heap.objs.size],its.toArray.size,_,_,_,rfl,Walks.list (A:=X.A.in1) (I.ok.hd hc) _ l (zzr hlt) its.toArray,
  ⟨⟨_,Heap.get?_push_size _ rfl,rfl,rfl⟩,hil.push _⟩,fun b hb=>?_,by rw[zzd];omega,CmpOf.ints_gt (fun i=>ns.getD i 0) (fun i v hv=>Ku r' (by simpa using hv)),fun v h' tk hP hk=>?_⟩
 ·show b<(s.heap.push _).objs.size
  rw[Heap.size_push];rcases zy8.mp hb with rfl|hb
  ·exact z05 _
  ·rcases zy8.mp hb with rfl|hb
   ·exact z0s hlt
   ·cases hb
 ·obtain⟨h1,h2⟩:=argBest_gt (fun i=>ns.getD i 0) (its.toArray.size-1)
  obtain⟨t,rfl⟩:=Ku r' (show its[argBest (fun i j=>decide ((fun i=>ns.getD i 0) i>(fun i=>ns.getD i 0) j)) (its.toArray.size-1)]?=some v by simpa using hP)
  have hsz:its.toArray.size=ns.length:=by rw[zzd,hlen]
  rw[hsz] at h1 h2 ⊢
  generalize argBest (fun i j=>decide ((fun i=>ns.getD i 0) i>(fun i=>ns.getD i 0) j)) (ns.length-1)=b at h1 h2 ⊢
  have hb:b<ns.length:=by omega
  have eg:∀ (k:Nat) (hk:k<ns.length),ns.getD k 0=ns[k]'hk:=fun k hk=>by rw[zzp,zy1 hk];rfl
  refine⟨.int (ns.getD b 0),H,I.kept fun c o e=>?_,⟨_,rfl⟩,q _ (by rw[eg b hb];exact zz4 hb) fun x hx=>?_⟩
  ·refine hk c o (fun hm=>?_) (Heap.get?_push_of_some _ e)
   rw[zy3.mp hm] at e;exact z0a _ (Heap.lt_size e)
  ·obtain⟨k,hk',rfl⟩:=zz9 hx
   have:=h2 k (by omega)
   show ns[k]<=_;rw[<- eg k hk'];exact this
end L2
namespace G
open PySem PySem.Spec PyProof.Rows L2
inductive Fi(K:PySem.W.Frag)(vs:List V)(H:Hp)(Q:VK)(_:XK):Prop where
 | mk(l lg:Addr)(ls:List Addr)(rows:List (List Int))(nu:List Int)(gs:List V)(p:Nat)(_:vs=[.ref l,.ref lg,.int p])(_:H l=some (.lst (ls.map V.ref)))(_:ILs H ls rows)(_:Kt rows nu)(_:H lg=some (.lst gs))(_:Yh rows gs)(_:p<rows.length)(_:gs[p]?=some .non)(_:∀ lt ts st e w H',H' lt=some (.lst ts)->TupL H' ts (st.map V5)->Xi rows gs p st e w->Same H H'->H lt=none->Q (.ref lt) H')
theorem Xi.len{rows:List (List Int)}{gs:List V}{p e:Nat}{st:List (Nat×Option Int)}{w:Option Int}(FP:Yh rows gs)(hp:p<rows.length)(c:Xi rows gs p st e w):st.length<=rows.length:=by
 have hlt:=c.ch.lt FP hp;have:=c.nodup.length_le_of_subset (l₂:=List.range rows.length) fun x hx=>by
  obtain⟨s,hs,rfl⟩:=zy9.mp hx;exact zzx.mpr (hlt s hs)
 rw[zyz,z0g] at this;exact this
end G

namespace L2
open PySem PySem.Spec PyProof.Rows
section
variable{X:Cx}{pins:List (Addr×Obj)}{σ:List (Option V)}{H H':Hp}{s:Shared}{h':Heap}
theorem Inv.turnedL{t':Nat}{fp:List Addr}(I:Inv X pins σ H s)(hf:∀ b∈fp,FpOk X pins H b)(k:∀ b o,b∉fp->s.heap.get? b=some o->h'.get? b=some o):Inv X pins σ H { s with heap:=h',toks:=t' }:=by
 have nit:∀ b u,H b=some u->b∉fp:=fun b u e z=>by rw[(hf b z).1] at e;cases e
 refine I.step (g':=s.gens) (d':=s.drawn) (ch:=fp) (fun b hb=>?_) (fun b o _ _ hc e _=>k b o hc e) (fun b o _ _ hc e _=>⟨o.slots,k b o hc e⟩) (fun _ _ _ _ n=>n)
  (fun b o hc e=>⟨o,k b o hc e⟩) (fun _ _ e=>e) (fun _ _ _ e=>e) (fun b ps e=>⟨#[],by rw[e];simp⟩) (fun m hm=>?_) (fun b u e=>?_) I.bare
 ·obtain⟨f0,f1,f2,f3,f4,f5⟩:=hf b hb
  exact⟨f3,f1,f4,f5⟩
 ·obtain⟨o,es,ep,ho,r⟩:=hm
  exact⟨o,es,ep,k _ o (fun z=>(hf _ z).2.1 rfl) ho,r⟩
 ·refine(I.hok b u e).stay (fun c v hc q=>k c v ?_ q) (fun _ q=>q) fun _ _ q=>q
  rcases hc with z|z
  ·rw[z];exact nit b u e
  ·exact nit c _ z
theorem Inv.turnLay{t':Nat}{fp:List Addr}{a:Addr}{o:HO}(I:Inv X pins σ H s)(hf:∀ b∈fp,FpOk X pins H b)(k:∀ b o,b∉fp->s.heap.get? b=some o->h'.get? b=some o)(hp:s.heap.objs.size<=a)(new:Y2 X.prog X.w (upd H a o) h' a o):Inv X pins σ (upd H a o) { s with heap:=h',toks:=t' }:=by
 have nit:∀ b u,H b=some u->b∉fp:=fun b u e z=>by rw[(hf b z).1] at e;cases e
 have hn:H a=none:=I.hok.fresh hp;have ne:∀ b u,s.heap.get? b=some u->b≠a:=fun b u e=>zzr (zzk (Heap.lt_size e) hp)
 refine I.step (g':=s.gens) (d':=s.drawn) (ch:=fp) (fun b hb=>?_) (fun b o _ _ hc e _=>k b o hc e) (fun b o _ _ hc e _=>⟨o.slots,k b o hc e⟩) (fun b u _ e n=>by rw[Zh (ne b u e)];exact n)
  (fun b o hc e=>⟨o,k b o hc e⟩) (fun b _ e=>by rw[Zh (Zg e hn)];exact e) (fun b _ _ e=>by rw[Zh (Zg e hn)];exact e) (fun b ps e=>⟨#[],by rw[Zh (Zg e hn),e];simp⟩) (fun m hm=>?_) (fun b u e=>?_) I.bare
 ·obtain⟨f0,f1,f2,f3,f4,f5⟩:=hf b hb
  exact⟨f3,f1,f4,f5⟩
 ·obtain⟨o,es,ep,ho,r⟩:=hm
  exact⟨o,es,ep,k _ o (fun z=>(hf _ z).2.1 rfl) ho,r⟩
 ·by_cases hb:b=a
  ·subst hb
   rw[Zb] at e;cases e
   exact new
  ·rw[Zh hb] at e
   refine(I.hok b u e).stay (fun c v hc q=>k c v ?_ q) (fun c q=>by rw[Zh (Zg q hn)];exact q) fun c _ q=>by rw[Zh (Zg q hn)];exact q
   rcases hc with z|z
   ·rw[z];exact nit b u e
   ·exact nit c _ z
end
noncomputable def Ite(K:PySem.W.Frag)(a:Addr):It :=
 ⟨fun i H=>∃ xs x,SqL K H a xs/\xs[i]?=some x,fun i H x H'=>∃ p y,H p=none/\(∀ xs,SqL K H a xs->xs[i]?=some y)/\x=.ref p/\H'=upd H p (.tup [.int (i:Nat),y]),fun i H=>∃ xs,SqL K H a xs/\xs.length<=i⟩
theorem zbl{P:Program}{w:World}{K:PySem.W.Frag}{elts:List Expr}{k:Nat}{tp:Pos}(a e it:Addr)(hne:e≠it):En P w K (.Tuple elts k tp) (Ite K a) [e,it] e (fun i h=>(∃ old,IsEnum h e it (i:Nat) old)/\h.IsListIter it a i) where
 mem:=by simp
 obj:=fun i h st b hb=>by
  obtain⟨⟨old,h1⟩,h2⟩:=st;have e:b=e\/b=it:=by simpa using hb
  rcases e with rfl|rfl
  ·exact⟨_,h1,fun v z=>by cases z⟩
  ·obtain⟨o,e,c,d⟩:=h2
   exact⟨o,e,fun v z=>by rw[d] at z;cases z⟩
 keep:=fun i h h' st k=>⟨let ⟨old,h1⟩:=st.1;⟨old,k e (by simp) _ h1⟩,st.2.at fun o q=>k it (by simp) o q⟩
 item:=by
  intro X hP hw hK hc i pins s σ H E I hf st hg;subst hP hw hK;obtain⟨xs,x,hq,hx⟩:=hg;obtain⟨its,rv,p,hz⟩:=I.list hq;obtain⟨u,hu,ru⟩:=rv.get hx;obtain⟨⟨old,h1⟩,h2⟩:=st;refine wpAny_pyNext_enum_item h1 h2 p.isList (x:=u) (by simpa using hu) hne fun h' o1 o2 o3 o4 o5=>?_
  refine⟨_,rfl,wpAny_letOwnedTupleGo_enum o1 fun h'' e1 sb=>?_⟩
  have hes:e≠s.heap.objs.size:=fun z=>by
   exact z0a _ (z▸Heap.lt_size h1)
  have kk:∀ b o,b∉[e,it]->s.heap.get? b=some o->h''.get? b=some o:=fun b o hb q=>by
   have hb':b≠e/\b≠it:=by simpa using hb
   exact(sb.2 b hb'.1).trans (o5 b o hb'.1 hb'.2 q)
  have new:h''.get? s.heap.objs.size=some { cls:=Value.type "tuple",data:=Data.seq #[Value.int (i:Nat) s.toks,u] }:=(sb.2 _ (Ne.symm hes)).trans o3;have line:=Pr;refine⟨.ref s.heap.objs.size,_,I.turnLay (t':=s.toks+1) (o:=.tup [.int (i:Nat),x]) hf kk (zza _) ⟨?_,_,.cons ⟨s.toks,rfl⟩ (.cons ru .nil),⟨_,new,rfl,_,rfl⟩⟩,rfl,⟨_,x,I.hok.fresh (zza _),fun ys hy=>by rw[I.list_inj hy hq];exact hx,rfl,rfl⟩,⟨⟨u,e1⟩,o2.at fun o q=>(sb.2 it (Ne.symm hne)).trans q⟩,fun b hb=>?_⟩
  ·show 2<=sizeLine
   rw[sizeLine_eq];decide
  ·have hb':b=e\/b=it:=by simpa using hb
   have hlt:b<s.heap.objs.size:=by
    rcases hb' with rfl|rfl
    ·exact Heap.lt_size h1
    ·obtain⟨o,q,_⟩:=h2
     exact Heap.lt_size q
   rw[Zh (zzr hlt)];exact(hf b hb).1
 done:=by
  intro X hP hw hK hc i pins s σ H E I hf st hg;subst hP hw hK;obtain⟨xs,hq,hx⟩:=hg;obtain⟨its,rv,p,hz⟩:=I.list hq;obtain⟨⟨old,h1⟩,h2⟩:=st;have hl:=rv.length;exact wpAny_pyNext_enum_end (I.ok.hd hc) h1 h2 p.isList (by simp;omega) fun h' eb=>⟨rfl,I.turnedL (t':=s.toks) hf fun b o hb q=>eb b o (fun z=>hb (by simp[z])) q⟩
 self:=fun _ _ _ _ _ st h=>by
  obtain⟨⟨old,h1⟩,h2⟩:=st;exact wpAny_pyIter_enum h1 h
inductive zh2(K:PySem.W.Frag)(R:It->Hp->Prop)(vs:List V)(H1:Hp):Prop where
 | mk(a)(_:vs=[.ref a])(_:(∃ xs,SqL K H1 a xs))(_:R (Ite K a) H1)
noncomputable def zjs(K:PySem.W.Frag)(ta:TA):TI:=fun σ H R=>ta σ H fun vs H1=>zh2 K R vs H1
theorem zfq{X:Cx}{K:PySem.W.Frag}{elts:List Expr}{k:Nat}{tp:Pos}{a:Expr}{ta:TA}{p pos:Pos}(hK:X.K=K)(hg:Gl X "enumerate")(hm:X.mg "enumerate"=none)(ha:PA X [a] ta)(hs:starEach [a] X.env=[(false,eval a X.env)]:=by rfl):PI X (.Tuple elts k tp) (.Call (.Name "enumerate" p) [a] [] pos) (zjs K ta):=by
 subst hK;intro pins s σ H R I h;refine Call_ (Pp I hg hm boot_enumerate (PyProof.Rows.callWith_type1 (thn (ha pos pins s σ H _ I h) fun us s1 ⟨vs,H1,I1,r1,q1⟩=>?_) hs rfl))
 obtain⟨a,e,⟨xs,hq⟩,q⟩:=q1;subst e;obtain⟨u,rfl,ru⟩:=Sg r1;cases ru;obtain⟨its,rv,pl,hz⟩:=I1.list hq;refine call_enumerate_list pl.isList fun h' e1 e2 e3 e4=>?_
 refine wpAny_pyIter_enum e1 ?_;refine⟨_,[s1.heap.objs.size+1,s1.heap.objs.size],_,_,H1,rfl,I1.kept (t':=s1.toks) e4,zbl a _ _ (Nat.succ_ne_self _),⟨⟨_,e1⟩,e2⟩,fun b hb=>?_,q⟩
 have e:b=s1.heap.objs.size+1\/b=s1.heap.objs.size:=by simpa using hb
 rcases e with rfl|rfl
 ·exact I1.fpOk (Nat.le_succ _) (I1.hok.fresh (Nat.le_succ _))
 ·exact I1.fpOk (zza _) (I1.hok.fresh (zza _))
theorem zdt{K:PySem.W.Frag}{a:Addr}{xs:List V}{g:TG}{tb:TS}{D:T9}{σ:St}{H:Hp}(Pv:Nat->St->Hp->Prop)(h0:Pv 0 σ H)(hl:∀ i σ H,i<=xs.length->Pv i σ H->SqL K H a xs)
  (hs:∀ i x p σ H,xs[i]?=some x->Pv i σ H->H p=none->g (.ref p) σ (upd H p (.tup [.int (i:Nat),x])) fun σ2 H2=>tb { D with nx:=Pv (i+1),ct:=Pv (i+1),bk:=D.nx } σ2 H2) (hd:∀ σ H,Pv xs.length σ H->D.nx σ H) :
  ∃ W:Nat->Nat->St->Hp->Prop,(∃ m,W 0 m σ H)/\∀ i m σ H,W i m σ H ->
    ((Ite K a).stop i H/\D.nx σ H)\/((Ite K a).go i H/\∃ N:St->Hp->Prop,(∀ σ' H',N σ' H'->∃ m',m' < m/\W (i+1) m' σ' H')/\∀ x H',(Ite K a).yld i H x H'->g x σ H' fun σ2 H2=>tb { D with nx:=N,ct:=N,bk:=D.nx } σ2 H2):=by
 refine⟨fun i m σ H=>m=xs.length-i/\i<=xs.length/\Pv i σ H,⟨xs.length,by simp,zzs _,h0⟩,?_⟩
 rintro i m σ H ⟨rfl,hi,p⟩;have q:=hl i σ H hi p;by_cases hlt:i<xs.length
 ·refine .inr ⟨⟨xs,xs[i],q,by simp[hlt]⟩,Pv (i+1),fun σ' H' p'=>⟨xs.length-(i+1),by omega,rfl,hlt,p'⟩,fun x H' y=>?_⟩
  obtain⟨t,y,h1,h2,rfl,rfl⟩:=y;exact hs i y t σ _ (h2 xs q) p h1
 ·have e:i=xs.length:=by omega
  subst e;exact .inl ⟨⟨xs,q,zza _⟩,hd σ H p⟩
noncomputable def Itz(K:PySem.W.Frag)(a b:Addr):It :=
 ⟨fun i H=>∃ xs ys x y,SqL K H a xs/\SqL K H b ys/\xs[i]?=some x/\ys[i]?=some y,fun i H x H'=>∃ p y z,H p=none/\(∀ xs,SqL K H a xs->xs[i]?=some y)/\(∀ ys,SqL K H b ys->ys[i]?=some z)/\x=.ref p/\H'=upd H p (.tup [y,z]),
  fun i H=>∃ xs ys,SqL K H a xs/\SqL K H b ys/\(xs.length<=i\/ys.length<=i)⟩
theorem zdu{P:Program}{w:World}{K:PySem.W.Frag}{elts:List Expr}{k:Nat}{tp:Pos}(l1 l2 z TI TO i1 i2:Addr)(hz:ZipApart z TI TO i1 i2 l1 l2):En P w K (.Tuple elts k tp) (Itz K l1 l2) [z,TO,i1,i2,TI] z
  (fun i h=>IsZip h z TI TO Value.none/\IsPair h TI (Value.ref i1) (Value.ref i2)/\(∃ a b,IsPair h TO a b)/\h.IsListIter i1 l1 i/\h.IsListIter i2 l2 i) where
 mem:=by simp
 obj:=fun i h st b hb=>by
  obtain⟨h1,h2,⟨a,b',h3⟩,h4,h5⟩:=st;have e:b=z\/b=TO\/b=i1\/b=i2\/b=TI:=by simpa using hb
  rcases e with rfl|rfl|rfl|rfl|rfl
  ·exact⟨_,h1,fun v z=>by cases z⟩
  ·exact⟨_,h3,fun v z=>by cases z⟩
  ·obtain⟨o,e,c,d⟩:=h4
   exact⟨o,e,fun v z=>by rw[d] at z;cases z⟩
  ·obtain⟨o,e,c,d⟩:=h5
   exact⟨o,e,fun v z=>by rw[d] at z;cases z⟩
  ·exact⟨_,h2,fun v z=>by cases z⟩
 keep:=fun i h h' st k=>by
  obtain⟨h1,h2,⟨a,b',h3⟩,h4,h5⟩:=st;exact⟨k z (by simp) _ h1,k TI (by simp) _ h2,⟨a,b',k TO (by simp) _ h3⟩,h4.at fun o q=>k i1 (by simp) o q,h5.at fun o q=>k i2 (by simp) o q⟩
 item:=by
  intro X hP hw hK hc i pins s σ H E I hf st hg;subst hP hw hK;obtain⟨xs,ys,x,y,hq,hq2,hx,hy⟩:=hg;obtain⟨its,rv,p,_⟩:=I.list hq;obtain⟨its2,rv2,p2,_⟩:=I.list hq2;obtain⟨u,hu,ru⟩:=rv.get hx;obtain⟨u2,hu2,ru2⟩:=rv2.get hy;obtain⟨h1,h2,⟨a,b',h3⟩,h4,h5⟩:=id st;refine wpAny_pyNext_zip_item hz h1 h2 h3 h4 h5 p.isList p2.isList (x:=u) (y:=u2) (by simpa using hu) (by simpa using hu2) fun h' o1 o2 o3 o4 o5 o6 o7=>?_
  refine⟨_,rfl,wpAny_letOwnedTupleGo_zip o1 fun h'' e1 sb=>?_⟩
  have lt:∀ b o,s.heap.get? b=some o->b≠s.heap.objs.size:=fun b o q=>zzr (Heap.lt_size q)
  have kk:∀ b o,b∉[z,TO,i1,i2,TI]->s.heap.get? b=some o->h''.get? b=some o:=fun b o hb q=>by
   have hb':b≠z/\b≠TO/\b≠i1/\b≠i2/\b≠TI:=by simpa using hb
   exact(sb.2 b hb'.1).trans (o7 b o hb'.1 hb'.2.1 hb'.2.2.1 hb'.2.2.2.1 q)
  have new:h''.get? s.heap.objs.size=some { cls:=Value.type "tuple",data:=Data.seq #[u,u2] }:=(sb.2 _ (Ne.symm (lt _ _ h1))).trans o5;refine⟨.ref s.heap.objs.size,_,I.turnLay (t':=s.toks) (o:=.tup [x,y]) hf kk (zza _) ⟨?_,_,.cons ru (.cons ru2 .nil),⟨_,new,rfl,_,rfl⟩⟩,rfl,⟨_,x,y,I.hok.fresh (zza _),fun zs hy'=>by rw[I.list_inj hy' hq];exact hx,fun zs hy'=>by rw[I.list_inj hy' hq2];exact hy,rfl,rfl⟩,
   ⟨e1,(sb.2 _ hz.TIz).trans (o7 _ _ hz.TIz hz.TITO hz.TIi1 hz.TIi2 h2),⟨_,_,(sb.2 _ hz.TOz).trans o2⟩,o3.at fun o q=>(sb.2 _ hz.i1z).trans q,o4.at fun o q=>(sb.2 _ hz.i2z).trans q⟩,fun b hb=>?_⟩
  ·show 2<=sizeLine
   rw[sizeLine_eq];decide
  ·have hne:b≠s.heap.objs.size:=by
    have e:b=z\/b=TO\/b=i1\/b=i2\/b=TI:=by simpa using hb
    rcases e with rfl|rfl|rfl|rfl|rfl
    ·exact lt _ _ h1
    ·exact lt _ _ h3
    ·obtain⟨o,q,_⟩:=h4;exact lt _ _ q
    ·obtain⟨o,q,_⟩:=h5;exact lt _ _ q
    ·exact lt _ _ h2
   rw[Zh hne];exact(hf b hb).1
 done:=by
  intro X hP hw hK hc i pins s σ H E I hf st hg;subst hP hw hK;obtain⟨xs,ys,hq,hq2,hx⟩:=hg;obtain⟨its,rv,p,_⟩:=I.list hq;obtain⟨its2,rv2,p2,_⟩:=I.list hq2;obtain⟨h1,h2,⟨a,b',h3⟩,h4,h5⟩:=st;have hl:=rv.length;have hl2:=rv2.length;exact wpAny_pyNext_zip_end (I.ok.hd hc) hz h1 h2 h3 h4 h5 p.isList p2.isList (hx.imp (fun z=>by simp;omega) fun z=>by simp;omega) fun h' eb=>⟨rfl,I.turnedL (t':=s.toks) hf fun b o hb q=>by
   have hb':b≠z/\b≠TO/\b≠i1/\b≠i2/\b≠TI:=by simpa using hb
   exact eb b o hb'.1 hb'.2.1 hb'.2.2.1 hb'.2.2.2.1 q⟩
 self:=fun _ _ _ _ _ st h=>wpAny_pyIter_zip st.1 h
inductive zjt(K:PySem.W.Frag)(R:It->Hp->Prop)(vs:List V)(H1:Hp):Prop where
 | mk(a)(b)(_:vs=[.ref a,.ref b])(_:(∃ xs,SqL K H1 a xs))(_:(∃ ys,SqL K H1 b ys))(_:R (Itz K a b) H1)
noncomputable def zke(K:PySem.W.Frag)(ta:TA):TI:=fun σ H R=>ta σ H fun vs H1=>zjt K R vs H1
theorem zh3{X:Cx}{K:PySem.W.Frag}{elts:List Expr}{k:Nat}{tp:Pos}{a b:Expr}{ta:TA}{p pos:Pos}(hK:X.K=K)(hg:Gl X "zip")(hm:X.mg "zip"=none)(ha:PA X [a,b] ta)(hs:starEach [a,b] X.env=[(false,eval a X.env),(false,eval b X.env)]:=by rfl)(hs2:starEach [b] X.env=[(false,eval b X.env)]:=by rfl):PI X (.Tuple elts k tp) (.Call (.Name "zip" p) [a,b] [] pos) (zke K ta):=by
 subst hK;intro pins s σ H R I h;refine Call_ (Pp I hg hm boot_zip (PyProof.Rows.callWith_type1 (thn (ha pos pins s σ H _ I h) fun us s1 ⟨vs,H1,I1,r1,q1⟩=>?_) (by rw[hs,hs2]) (by rw[hs2];rfl)))
 obtain⟨a,b,e,⟨xs,hq⟩,⟨ys,hq2⟩,q⟩:=q1;subst e;cases r1 with
 | cons r rr =>
   obtain⟨u,rfl,ru⟩:=Sg rr;cases r;cases ru;obtain⟨its,rv,pl,hz⟩:=I1.list hq;obtain⟨its2,rv2,pl2,hz2⟩:=I1.list hq2;have lt1:@LT.lt Nat _ a s1.heap.objs.size:=by obtain⟨_,e,_⟩:=pl.isList;exact Heap.lt_size e
   have lt2:@LT.lt Nat _ b s1.heap.objs.size:=by obtain⟨_,e,_⟩:=pl2.isList;exact Heap.lt_size e
   refine call_zip_2 pl.isList pl2.isList fun h' e1 e2 e3 e4 e5 e6 e7=>?_
   refine wpAny_pyIter_zip e1 ?_;refine⟨_,[s1.heap.objs.size+4,s1.heap.objs.size+3,s1.heap.objs.size,s1.heap.objs.size+1,s1.heap.objs.size+2],_,_,H1,rfl,I1.kept (t':=s1.toks) e7,zdu a b _ _ _ _ _ ?_,⟨e1,e2,⟨_,_,e3⟩,e4,e5⟩,fun c hb=>?_,q⟩
   ·refine⟨?_,?_,?_,?_,?_,?_,?_,?_,?_,?_,?_,?_,?_,?_,?_,?_,?_,?_⟩<;>(show @Ne Nat _ _;omega)
   have e:c=s1.heap.objs.size+4\/c=s1.heap.objs.size+3\/c=s1.heap.objs.size\/c=s1.heap.objs.size+1\/c=s1.heap.objs.size+2:=by simpa using hb
   have hle:s1.heap.objs.size<=c:=by rcases e with rfl|rfl|rfl|rfl|rfl<;>omega
   exact I1.fpOk hle (I1.hok.fresh hle)
section
variable{X:Cx}{pins:List (Addr×Obj)}{σ:List (Option V)}{H H':Hp}{s:Shared}{h':Heap}
theorem Inv.freeze{a:Addr}{o:Obj}{kvs:List (Key×V)}(I:Inv X pins σ H s)(e:H a=some (.dK kvs))(ho:s.heap.get? a=some o):Inv X pins σ (upd H a (.frz o (.dK kvs))) s:=by
 have na:∀ b u,H b=some u->u≠.dK kvs->b≠a:=fun b u q n z=>by subst z;rw[q] at e;exact n (Option.some.inj e)
 refine I.un (h':=s.heap) (t':=s.toks) ⟨fun b o q _ _ _=>q,fun b o q _ _ _=>⟨o.slots,q⟩,fun b o q n _=>?_,fun b o q _=>⟨o,q⟩,fun b ys q=>?_,fun b o v q=>?_,fun b ps q=>⟨#[],?_⟩⟩ fun b u q=>?_
 ·rw[Zh (fun z=>by subst z;rw[n] at e;cases e)];exact n
 ·rw[Zh (na b _ q fun z=>nomatch z)];exact q
 ·rw[Zh (na b _ q fun z=>nomatch z)];exact q
 ·rw[Zh (na b _ q fun z=>nomatch z),q];simp
 ·have stay:∀ {b u},Y2 X.prog X.w H s.heap b u->Y2 X.prog X.w (upd H a (.frz o (.dK kvs))) s.heap b u:=fun {b u} k=>k.stay (fun _ _ _ q=>q) (fun c q=>by rw[Zh (na c _ q fun z=>nomatch z)];exact q) fun c _ q=>by rw[Zh (na c _ q fun z=>nomatch z)];exact q
  by_cases hb:b=a
  ·subst hb
   rw[Zb] at q;cases q
   exact⟨ho,stay (I.hok b _ e)⟩
  ·rw[Zh hb] at q
   exact stay (I.hok b u q)
end
noncomputable def Itk(a:Addr)(o:Obj)(kvs:List (Key×V)):It :=
 ⟨fun i H=>H a=some (.frz o (.dK kvs))/\i<kvs.length,fun i H x H'=>H'=H/\∃ p,kvs[i]?=some p/\x=kV p.1,fun i H=>H a=some (.frz o (.dK kvs))/\kvs.length<=i⟩
theorem zdv{X:Cx}{pins:List (Addr×Obj)}{σ:List (Option V)}{H:Hp}{s:Shared}{a:Addr}{o:Obj}{kvs:List (Key×V)}(I:Inv X pins σ H s)(e:H a=some (.frz o (.dK kvs))):∃ vs,KV kvs vs/\∃ es ep,o.data=.dict es ep/\s.heap.DictAt (Yj X.prog X.w) a vs ep:=by
 obtain⟨h1,hz,hm,vs,kv,o',es,ep,h2,h3,h4,h5⟩:=(show Y2 X.prog X.w H s.heap a (.frz o (.dK kvs)) from I.hok a _ e)
 rw[h1] at h2;cases h2
 exact⟨vs,kv,es,ep,h4,o,es,h1,h3,h4,h5⟩
theorem zbm{P:Program}{w:World}{K:PySem.W.Frag}{tg:Expr}(a it:Addr)(o:Obj)(kvs:List (Key×V))(es:Array DictEntry)(ep:Nat)(ho:o.data=.dict es ep):En P w K tg (Itk a o kvs) [it] it (fun i h=>h.IsKeyIter it a i kvs.length ep) where
 mem:=by simp
 obj:=fun i h st b hb=>by
  have e:b=it:=by simpa using hb
  subst e;obtain⟨o,e,c,d⟩:=st;exact⟨o,e,fun v z=>by rw[d] at z;cases z⟩
 keep:=fun i h h' st k=>by
  obtain⟨o,e,c,d⟩:=st;exact⟨o,k it (by simp) o e,c,d⟩
 item:=by
  intro X hP hw hK hc i pins s σ H E I hf st hg;subst hP hw hK;obtain⟨hq,hi⟩:=hg;obtain⟨vs,kv,es',ep',h1,h2⟩:=zdv I hq;rw[ho] at h1;cases h1
  obtain⟨f0,f1,f2,f3,f4,f5⟩:=hf it (by simp)
  have hl:kvs.length=vs.length:=KV.length kv;have hv:i<vs.length:=by omega
  obtain⟨⟨k,v⟩,hkv⟩:∃ kv,vs[i]'hv=kv:=⟨_,rfl⟩
  rw[hl] at st
  refine wpAny_pyNext_dict_item st h2 (k:=k) (v:=v) (by rw[zy1 hv,hkv]) fun key h' hk st' sb=>?_
  have I1:Inv X pins σ H { s with heap:=h' }:=I.turned (t':=s.toks) (fun b o hb e=>(sb.2 b hb).trans e) f0 f1 f3 f4 f5
  obtain⟨o2,e2,c2,d2⟩:=id st';have ek:=congrArg (·[i]?) (KV.keys kv)
  simp only[zy5,zy1 hv,zy1 hi,hkv,z0b] at ek
  refine⟨key,rfl,zco (s:={ s with heap:=h' }) e2 c2 d2 (by decide) ⟨kV (kvs[i]'hi).1,H,I1,?_,⟨rfl,_,zy1 hi,rfl⟩,by rw[hl];exact st',fun b hb=>(hf b hb).1⟩⟩
  have e3:(kvs[i]'hi).1=k:=Option.some.inj ek;rw[e3];rcases Yw hk with ⟨j,t,rfl,rfl⟩|⟨z,t,rfl,rfl⟩
  ·exact⟨t,rfl⟩
  ·exact⟨t,rfl⟩
 done:=by
  intro X hP hw hK hc i pins s σ H E I hf st hg;subst hP hw hK;obtain⟨hq,hi⟩:=hg;obtain⟨vs,kv,es',ep',h1,h2⟩:=zdv I hq;rw[ho] at h1;cases h1
  obtain⟨f0,f1,f2,f3,f4,f5⟩:=hf it (by simp)
  have hl:kvs.length=vs.length:=KV.length kv;rw[hl] at st
  exact wpAny_pyNext_dict_end (I.ok.hd hc) st h2 (List.getElem?_eq_none (by omega)) fun h' eb=>⟨rfl,I.turned (t':=s.toks) (fun b o hb e=>eb b o hb e) f0 f1 f3 f4 f5⟩
 self:=fun _ _ _ _ _ st h=>wpAny_pyIter_keyiter st h
inductive zh4(R:It->Hp->Prop)(x:V)(H1:Hp):Prop where
 | mk(a)(kvs)(_:x=.ref a)(_:H1 a=some (.dK kvs))(_:∀ o,R (Itk a o kvs) (upd H1 a (.frz o (.dK kvs))))
noncomputable def zju(tl:TE):TI:=fun σ H R=>tl σ H fun x H1=>zh4 R x H1
theorem zfr{X:Cx}{tg:Expr}{l:Expr}{tl:TE}(hl:PE X l tl):PI X tg l (zju tl):=by
 intro pins s σ H R I h;refine thn (hl pins s σ H _ I h) fun v s1 ⟨x,H1,I1,r1,q1⟩=>?_
 obtain⟨a,kvs,e,hq,q⟩:=q1;subst e;cases r1;obtain⟨hz,hm,vs,kv,o,es,ep,h2,h3,h4,h5⟩:=(show Y2 X.prog X.w H1 s1.heap a (.dK kvs) from I1.hok a _ hq)
 have hl:kvs.length=vs.length:=KV.length kv;have I2:=I1.freeze hq h2;refine wpAny_pyIter_dict hm ⟨o,es,h2,h3,h4,h5⟩ ?_;refine⟨s1.heap.objs.size,[s1.heap.objs.size],_,_,_,rfl,I2.kept (t':=s1.toks) fun b o e=>Heap.get?_push_of_some _ e,zbm a _ o kvs es ep h4,⟨_,Heap.get?_push_size _ rfl,rfl,by rw[hl];rfl⟩,fun b hb=>?_,q o⟩
 have e:b=s1.heap.objs.size:=by simpa using hb
 subst e;exact I2.fpOk (zza _) (I2.hok.fresh (zza _))
theorem zdw{a:Addr}{o:Obj}{kvs:List (Key×V)}{g:TG}{tb:TS}{D:T9}{σ:St}{H:Hp}(Pv:Nat->St->Hp->Prop)(h0:Pv 0 σ H)(hl:∀ i σ H,i<=kvs.length->Pv i σ H->H a=some (.frz o (.dK kvs)))
  (hs:∀ i k v σ H,kvs[i]?=some (k,v)->Pv i σ H->g (kV k) σ H fun σ2 H2=>tb { D with nx:=Pv (i+1),ct:=Pv (i+1),bk:=D.nx } σ2 H2) (hd:∀ σ H,Pv kvs.length σ H->D.nx σ H) :
  ∃ W:Nat->Nat->St->Hp->Prop,(∃ m,W 0 m σ H)/\∀ i m σ H,W i m σ H ->
    ((Itk a o kvs).stop i H/\D.nx σ H)\/((Itk a o kvs).go i H/\∃ N:St->Hp->Prop,(∀ σ' H',N σ' H'->∃ m',m' < m/\W (i+1) m' σ' H')/\∀ x H',(Itk a o kvs).yld i H x H'->g x σ H' fun σ2 H2=>tb { D with nx:=N,ct:=N,bk:=D.nx } σ2 H2):=by
 refine⟨fun i m σ H=>m=kvs.length-i/\i<=kvs.length/\Pv i σ H,⟨kvs.length,by simp,zzs _,h0⟩,?_⟩
 rintro i m σ H ⟨rfl,hi,p⟩;have q:=hl i σ H hi p;by_cases hlt:i<kvs.length
 ·refine .inr ⟨⟨q,hlt⟩,Pv (i+1),fun σ' H' p'=>⟨kvs.length-(i+1),by omega,rfl,hlt,p'⟩,fun x H' y=>?_⟩
  obtain⟨e,⟨k,v⟩,y,rfl⟩:=y;subst e;exact hs i k v σ _ y p
 ·have e:i=kvs.length:=by omega
  subst e;exact .inl ⟨⟨q,zza _⟩,hd σ H p⟩
theorem zbn{X:Cx}(hc:X.calm=true):Vg X (.builtin "max") (fun xs H Q=>∃ (l:Addr) (kvs:List (Key×V)) (ns:List Int),xs=[.ref l]/\Rd H l (.dK kvs)/\kvs.map (·.1)=ns.map Sum.inl/\0<ns.length/\∀ M,M∈ns->(∀ a∈ns,a<=M)->Q (.int M) H):=by
 intro pins s σ H xs us Q I r h;obtain⟨l,kvs,ns,rfl,hl,hns,hpos,q⟩:=h;obtain⟨u,rfl,ru⟩:=Sg r;cases ru;obtain⟨hz,hm,vs,kv,o,es,ep,h2,h3,h4,h5⟩:=Rw I.hok hl;have hlen:vs.length=ns.length:=by
  have e1:=KV.length kv;have e2:=congrArg List.length hns;rw[zyz,zyz] at e2
  omega
 have hlt:l<s.heap.objs.size:=Heap.lt_size h2;have da:s.heap.DictAt (Yj X.prog X.w) l vs ep:=⟨o,es,h2,h3,h4,h5⟩;have val:∀ (i:Nat) (v:Value),(∃ k y,vs[i]?=some (k,y)/\(Yj X.prog X.w).is k v=true)->∃ t,v=.int (ns.getD i 0) t:=fun i v ⟨k,y,hk,hv⟩=>by
  have e1:=congrArg (·[i]?) (KV.keys kv)
  have e2:=congrArg (·[i]?) hns
  simp only[zy5,hk,z0b] at e1 e2
  rw[e1] at e2
  have hi:i<ns.length:=by
   rw[<- hlen];exact(zy0.mp hk).1
  rw[zy1 hi] at e2
  have e3:k=Sum.inl (ns[i]'hi):=Option.some.inj e2;have e4:ns.getD i 0=ns[i]'hi:=by rw[zzp,zy1 hi];rfl
  rw[e4];rcases Yw hv with ⟨j,t,rfl,rfl⟩|⟨z,t,rfl,rfl⟩
  ·cases e3;exact⟨t,rfl⟩
  ·cases e3
 refine call_max_walk (wpAny_pyIter_dict hm da ?_);refine⟨s.heap.objs.size,[s.heap.objs.size,l],[s.heap.objs.size],vs.length,_,_,_,rfl,Walks.dictKeys (knd:=Yj X.prog X.w) (A:=X.A.in1) (I.ok.hd hc) _ l (zzr hlt) vs ep,⟨⟨_,Heap.get?_push_size _ rfl,rfl,rfl⟩,da.push _⟩,fun b hb=>?_,by omega,CmpOf.ints_gt (fun i=>ns.getD i 0) (fun i v hv=>val i v hv),fun v h' tk hP hk=>?_⟩
 ·show b<(s.heap.push _).objs.size
  rw[Heap.size_push];rcases zy8.mp hb with rfl|hb
  ·exact z05 _
  ·rcases zy8.mp hb with rfl|hb
   ·exact z0s hlt
   ·cases hb
 ·obtain⟨h1,h2⟩:=argBest_gt (fun i=>ns.getD i 0) (vs.length-1)
  obtain⟨t,rfl⟩:=val _ v hP;rw[hlen] at h1 h2 ⊢
  generalize argBest (fun i j=>decide ((fun i=>ns.getD i 0) i>(fun i=>ns.getD i 0) j)) (ns.length-1)=b at h1 h2 ⊢
  have hb:b<ns.length:=by omega
  have eg:∀ (k:Nat) (hk:k<ns.length),ns.getD k 0=ns[k]'hk:=fun k hk=>by rw[zzp,zy1 hk];rfl
  refine⟨.int (ns.getD b 0),H,I.kept fun c o e=>?_,⟨_,rfl⟩,q _ (by rw[eg b hb];exact zz4 hb) fun x hx=>?_⟩
  ·refine hk c o (fun hm=>?_) (Heap.get?_push_of_some _ e)
   rw[zy3.mp hm] at e;exact z0a _ (Heap.lt_size e)
  ·obtain⟨k,hk',rfl⟩:=zz9 hx
   have:=h2 k (by omega)
   show ns[k]<=_;rw[<- eg k hk'];exact this
theorem Py{prog:Program}{w:World}{A:Around}{R:Result->Shared->Prop}{s:Shared}{elt target iter:Expr}{ifs:List Expr}{scope:Scope}{pos:Pos}{it acc:Value}{env:Env}(I:Nat->Shared->Prop)
  (turn:∀ (n:Nat) (s:Shared),I n s->wpAny (model prog w) A (pyNext it) (fun r s₁=>match r with
   | none=>R (.ok .next) s₁
   | some v=>wpAny (model prog w) A (letOwnedTupleGo target it v) (fun _ s₁'=>wpAny (model prog w) A (assign target env v) (fun _ s₂=>wpAny (model prog w) A (forIn ifs true fun c r=>if r=true then do let ok <- isTrue c env (eval c env);pure (ForInStep.yield ok) else pure (ForInStep.yield r)) (fun ok s₃=>if ok=true then wpAny (model prog w) A (eval elt env) (fun x s₄=>wpAny (model prog w) A (call (.builtin "list.append") [acc,x]) (fun _ s₅=>∃ m,m<n/\I m s₅) (notedBy (model prog w) A env fun e s'=>R (.error e) s') s₄) (notedBy (model prog w) A env fun e s'=>R (.error e) s') s₃ else ∃ m,m<n/\I m s₃) (notedBy (model prog w) A env fun e s'=>R (.error e) s') s₂) (notedBy (model prog w) A env fun e s'=>R (.error e) s') s₁') (notedBy (model prog w) A env fun e s'=>R (.error e) s') s₁) (notedBy (model prog w) A env fun e s'=>R (.error e) s') s)
  (n:Nat) (h:I n s):codeAny (model prog w) A (.compLoop (.ListComp elt [⟨target,iter,ifs,0⟩] scope pos) 0 it acc env) R s:=by
 refine codeAny_loop rfl I (fun n s hI=>?_) n h
 refine wpAny_noted ?_;rw[compTurn_list];refine wpAny_bind (wpAny_standAt (wpAny_bind (wpAny_mono (turn n s hI) (fun r s₁ h₁=>?_) fun _ _ z=>z)))
 cases r with
 | none=>exact wpAny_pure h₁
 | some v =>
   refine wpAny_bind (wpAny_mono h₁ (fun _ s₁' h₂=>wpAny_bind (wpAny_mono h₂ (fun _ s₂ h₃=>wpAny_bind (wpAny_mono h₃ (fun ok s₃ h₄=>?_) fun _ _ z=>z)) fun _ _ z=>z)) fun _ _ z=>z)
   cases ok with
   | false =>
     simp only[z0n,if_false] at h₄ ⊢
     exact wpAny_pure ⟨rfl,h₄⟩
   | true =>
     simp only[if_true] at h₄ ⊢
     refine wpAny_bind (wpAny_bind (wpAny_mono h₄ (fun x s₄ h₅=>wpAny_bind (wpAny_mono h₅ (fun _ s₅ h₆=>wpAny_pure (wpAny_pure ⟨rfl,h₆⟩)) fun _ _ z=>z)) fun _ _ z=>z))
noncomputable def cs0(xo:List Str)(js:List Nat)(σ:St):St:=(xo.map fun _=>none)++js.map fun j=>(σ[j]?).getD none
noncomputable def Qu(xo:List Str)(js:List Nat)(σ σ2:St):Prop:=∃ os:St,os.length=xo.length/\σ2=os++js.map fun j=>(σ[j]?).getD none
theorem Qu.weak{X:Cx}{pins:List (Addr×Obj)}{H:Hp}{s:Shared}{xo:List Str}{js:List Nat}{σ σ2:St}(o:Qu xo js σ σ2)(I:Inv X pins σ2 H s):Inv X pins (cs0 xo js σ) H s:=by
 obtain⟨os,hl,rfl⟩:=o;refine I.weak (by unfold cs0;simp[hl]) fun i v e=>?_
 unfold cs0 at e
 by_cases hi:i<xo.length
 ·rw[zz0 (by rw[zyz];exact hi),zy5,zy1 hi] at e
  cases e
 ·rw[zzy (by rw[zyz];omega),zyz] at e
  rw[zzy (by omega),hl]
  exact e
noncomputable def Bq(J:It)(xo:List Str)(js:List Nat)(g:TG)(tt:TT)(te:TE)(σ:St)(H:Hp)(Q:VK):Prop:=∃ W:Nat->Nat->List V->Hp->Prop,(∃ m,W 0 m [] H)/\∀ i m ys H,W i m ys H ->
 (J.stop i H/\ys.length<=sizeLine/\∀ p,H p=none->Q (.ref p) (upd H p (.lst ys))) \/
 (J.go i H/\ys.length<sizeLine/\∃ N:List V->Hp->Prop,(∀ ys' H',N ys' H'->∃ m',m' < m/\W (i+1) m' ys' H')/\∀ x H',J.yld i H x H'->g x (cs0 xo js σ) H' fun σ2 H1=>Qu xo js σ σ2/\tt σ2 H1 fun b H2=>if b=true then te σ2 H2 fun y H3=>N (ys++[y]) H3 else N ys H2)
noncomputable def zh5(wi:TI)(xo:List Str)(js:List Nat)(g:TG)(tt:TT)(te:TE):TE:=fun σ H Q=>wi σ H fun J H1=>Bq J xo js g tt te σ H1 Q
section
variable{X:Cx}{elt iter tg:Expr}{xo:List Str}{pos:Pos}{ifs:List Expr}{scope:Scope}{cl:List (Str×Addr)}{ys:List Str}{js:List Nat}{g:TG}
structure Oz(X:Cx)(xo:List Str)(scope:Scope)(cl:List (Str×Addr))(ys:List Str)(js:List Nat):Prop where
 clos:closureFor scope X.env=pure cl
 kind:scope.kind=.function
 names:∀ y∈scope.names,y.2=.local->scope.names.lookup y.1=some .local
 nocell:∀ y∈scope.names,y.2≠.cell
 at_:js.map (X.N[·]?)=ys.map some
 free:Ie (fun y=>X.env.kindOf y=some .cell/\(relabel scope X.env).names.lookup y=some .cell/\cl.lookup y=X.env.cells.lookup y) ys
 only:Ie (fun p=>X.env.cells.lookup p.1=some p.2) cl
 vis:∀ y∈scope.names,y.2=.free->y.1∈ys
theorem Oz.same(c:Oz X xo scope cl ys js){y:Str}{a:Addr}(h:cl.lookup y=some a):X.env.cells.lookup y=some a:=c.only.get (PySem.mem_of_lookup h)
theorem zdx{pins:List (Addr×Obj)}{σ:St}{H:Hp}{s:Shared}{fp:List Addr}{C:Addr}{pn:List (Addr×Obj)}{Nc:List Str}(c:Oz X xo scope cl ys js)(I:Inv X pins σ H s)(hf:∀ b∈fp,FpOk X pins H b)(hex:∀ b∈fp,b<s.heap.objs.size)(hC:s.heap.objs.size<=C) :
  (Yt X pn Nc scope cl s H fp C).Ok where
 mod:=I.ok.mod
 kind:=c.kind
 glob:=I.ok.glob
 blt:=I.ok.blt
 above:=hC
 inj:=fun y z a h1 h2=>I.ok.inj y z a (c.same h1) (c.same h2)
 has:=fun y h=>by
  obtain⟨k,m,q⟩:=Ow h;rcases q with rfl|rfl
  ·exact absurd rfl (c.nocell _ m)
  ·obtain⟨a1,a2,a3⟩:=c.free.get (c.vis _ m rfl)
   obtain⟨a,ha⟩:=I.ok.has y (.inl a1);exact⟨a,a3.trans ha⟩
 cab:=fun _ _ h=>by cases h
 hd:=I.ok.hd
 frames:=I.ok.frames
 stk:=.inl rfl
 exf:=fun b hb=>by
  obtain⟨f0,f1,f2,f3,f4,f5⟩:=hf b hb;exact⟨zzr (zzk (hex b hb) hC),fun y a h=>f4 y a (c.same h)⟩
 bs:=I.bs
 bsz:=zzg I.ok.bsz I.sz
 noex:=fun b o q hb=>by
  obtain⟨f0,f1,f2,f3,f4,f5⟩:=hf b hb;rcases f3 with z|z
  ·exact I.ok.noex b o q z
  ·exact absurd (zzk (Heap.lt_size (I.ok.bs b o q).1) z) (z0a _)
 exfs:=fun b hb m=>by
  obtain⟨f0,f1,f2,f3,f4,f5⟩:=hf b hb;exact(zy8.mp (I.stkSub b m)).elim f1 f2
 funs:=I.stack
 frf:=I.stkFree
theorem zbo{pins:List (Addr×Obj)}{σ:St}{H:Hp}{s:Shared}{fp:List Addr}{C:Addr}{h1:Heap}{t1:Nat}{m1:Str->Option Value}(c:Oz X xo scope cl ys js)(I:Inv X pins σ H s)(hf:∀ b∈fp,FpOk X pins H b)(hex:∀ b∈fp,b<s.heap.objs.size)(hC:s.heap.objs.size<=C)
  (hns:h1.Ns C m1) (old:∀ b o,s.heap.get? b=some o->h1.get? b=some o) :
  Inv (Yt X (X.pn++pins) (xo++ys) scope cl s H fp C) [] (cs0 xo js σ) H { s with heap:=h1,toks:=t1 }:=by
 obtain⟨m,hn,hl⟩:=I.loc;have jl:js.length=ys.length:=by have:=congrArg List.length c.at_;simpa using this
 refine⟨zdx c I hf hex hC,rfl,I.bare,Un.kept old,⟨m1,hns,fun i y v e1 e2 e3=>?_⟩,fun y a h=>?_,I.hok.fresh hC,fun y a h=>I.freeC y a (c.same h),fun p hp=>?_,I.hok.kept old,by simp[jl,Yt,cs0]⟩
 ·have e2:=e2.resolve_right (Wo _)
  unfold cs0 at e2
  by_cases hi:i<xo.length
  ·rw[zz0 (by rw[zyz];exact hi),zy5,zy1 hi] at e2
   cases e2
  ·rw[zzy (by rw[zyz];omega),zyz] at e2
   have e1:ys[i-xo.length]?=some y:=by
    have e1:(xo++ys)[i]?=some y:=e1;rw[zzy (by omega)] at e1;exact e1
   generalize i-xo.length=k at e1 e2
   rw[zy5] at e2
   cases hj:js[k]? with
   | none=>rw[hj] at e2;cases e2
   | some j =>
     rw[hj] at e2
     have ej:X.N[j]?=some y:=by
      have q:=congrArg (·[k]?) c.at_
      simp only[zy5,hj,e1,z0b] at q
      exact Option.some.inj q
     have ev:σ[j]?=some (some v):=by
      simp only[z0b,Option.some.injEq] at e2
      cases hσ:σ[j]? with
      | none=>rw[hσ] at e2;cases e2
      | some o=>rw[hσ] at e2;rw[show o=some v from e2]
     obtain⟨a1,a2,a3⟩:=c.free.get (zze e1);obtain⟨u,r,l⟩:=hl j y v ej (.inl ev) (.inr (.inl a1));refine⟨u,r,.inr ⟨.inl a2,?_⟩⟩;rcases l with ⟨k1,_⟩|⟨_,b,e,z⟩
     ·rw[a1] at k1;cases k1
     ·obtain⟨o,ho,hd⟩:=z
      exact⟨b,a3.trans e,o,old _ _ ho,hd⟩
 ·obtain⟨v,o,ho,hd⟩:=I.cell y a (c.same h)
  exact⟨v,o,old _ _ ho,hd⟩
 ·obtain⟨e,n,ne,nf,d⟩:=I.pin p (by simpa [Yt] using hp)
  refine⟨old _ _ e,n,zzr (zzk (Heap.lt_size e) hC),fun m=>?_,d⟩
  exact(zy8.mp (I.stkSub _ m)).elim ne nf
theorem Kv{pins:List (Addr×Obj)}{σ:St}{H:Hp}{s:Shared}{tt:TT}{te:TE}{it:Addr}{fp:List Addr}{tn:Nat->Heap->Prop}{J:It}{W:Nat->Nat->List V->Hp->Prop}{m0:Nat}{Q:VK}{E:Value->Shared->Prop}{RR:Value->Addr->Result->Shared->Prop}
  (hcm:X.calm=true) (c:Oz X xo scope cl ys js) (ht:∀ pn s₀ H₀ fp C,PTs (Yt X pn (xo++ys) scope cl s₀ H₀ fp C) ifs tt) (hgt:∀ pn s₀ H₀ fp C,PG (Yt X pn (xo++ys) scope cl s₀ H₀ fp C) tg g) (he:∀ pn s₀ H₀ fp C,PE (Yt X pn (xo++ys) scope cl s₀ H₀ fp C) elt te)
  (I:Inv X pins σ H s) (T:En X.prog X.w X.K tg J fp it tn) (st0:tn 0 s.heap) (hf:∀ b∈fp,FpOk X pins H b) (w0:W 0 m0 [] H)
  (turn:∀ i m ys H,W i m ys H->(J.stop i H/\ys.length<=sizeLine/\∀ p,H p=none->Q (.ref p) (upd H p (.lst ys))) \/
   (J.go i H/\ys.length<sizeLine/\∃ N:List V->Hp->Prop,(∀ ys' H',N ys' H'->∃ m',m' < m/\W (i+1) m' ys' H')/\∀ x H',J.yld i H x H'->g x (cs0 xo js σ) H' fun σ2 H1=>Qu xo js σ σ2/\tt σ2 H1 fun b H2=>if b=true then te σ2 H2 fun y H3=>N (ys++[y]) H3 else N ys H2))
  (hRR:∀ D C s' m,s'.heap.Ns C m->(∀ h',Heap.SameBut C s'.heap h'->∃ H',Inv X pins σ H' { s' with heap:=h' }/\Q (.ref D) H')->(∃ H',Inv X pins σ H' s'/\Q (.ref D) H'/\H' C=none)->s.heap.objs.size<=C->RR (.ref D) C (.ok .next) s') :
  wpAny (model X.prog X.w) X.A (newList []) (fun acc s₃=>wpAny (model X.prog X.w) X.A (newFunctionEnv scope X.env.globals cl [] X.env.qual none .none (some X.env)) (fun cenv s₄ =>
   codeAny (model X.prog X.w) X.A (.compStart (.ListComp elt [⟨tg,iter,ifs,0⟩] scope pos) 0 (.ref it) acc { cenv with scope:=relabel scope X.env }) (RR acc cenv.locals) s₄) E s₃) E s:=by
 refine wpAny_newObj_type (wpAny_newFunctionEnv c.nocell (by intro y hy;simp at hy) (fun h₁ hns₁ hsb₁=>?_) c.kind)
 dsimp only at hns₁ hsb₁ ⊢
 generalize hH2:s.heap.push { cls:=.type "list",dict:=none,data:=.seq ([]:List Value).toArray }=G at hns₁ hsb₁ ⊢
 generalize hD:s.heap.objs.size=D;have hC:G.objs.size=D+1:=by rw[<- hH2,Heap.size_push,hD]
 generalize hCe:G.objs.size=C at hns₁ hsb₁ ⊢
 have hCD:C=D+1:=hCe.symm.trans hC;have hDC:D≠C:=by omega
 have below:∀ b o,s.heap.get? b=some o->b<D:=fun b o e=>by rw[<- hD];exact Heap.lt_size e
 have ltC:∀ b:Addr,b<D->b≠C:=fun b h=>zzr (hCD▸z0s h)
 have ltD:∀ b:Addr,b<D->b≠D:=fun b h=>zzr h
 have old:∀ b o,s.heap.get? b=some o->h₁.get? b=some o:=fun b o e=>hsb₁.extBut b o (ltC b (below b o e)) (Heap.get?_push_of_some _ (hH2▸Heap.get?_push_of_some _ e))
 have hacc:h₁.PlainList D #[]:=⟨_,hsb₁.extBut _ _ hDC (Heap.get?_push_of_some _ (by rw[<- hH2,<- hD];exact Heap.get?_push_size _ rfl))⟩
 have hex:∀ b∈fp,b<s.heap.objs.size:=fun b hb=>by
  obtain⟨o,e,_⟩:=T.obj _ _ st0 b hb;exact Heap.lt_size e
 have lt0:∀ b∈fp,b<D:=fun b hb=>by rw[<- hD];exact hex b hb
 have freshD:s.heap.get? D=none:=Heap.get?_none_of_le (by omega)
 have freshC:s.heap.get? C=none:=Heap.get?_none_of_le (by omega)
 have frE:∀ {H':Hp},(∀ b∈fp,H' b=none)->∀ {o:Obj} {b:Addr},b∈fp->FpOk (Yt X (X.pn++pins) (xo++ys) scope cl s H fp C) [(D,o)] H' b:=fun {H'} hn {o b} hb=>by
  obtain⟨f0,f1,f2,f3,f4,f5⟩:=hf b hb;refine⟨hn b hb,?_,?_,.inl hb,fun y a h=>f4 y a (c.same h),fun p hp=>?_⟩
  ·exact ltC b (lt0 b hb)
  ·exact fun m=>(zy8.mp (I.stkSub b m)).elim f1 f2
  ·rcases zy6.mp hp with z|z
   ·exact f5 p z
   ·rw[zy3.mp z]
    exact Ne.symm (ltD b (lt0 b hb))
 have pinD:∀ {σ':St} {H':Hp} {s':Shared} {o:Obj},Inv (Yt X (X.pn++pins) (xo++ys) scope cl s H fp C) [] σ' H' s'->s'.heap.get? D=some o->(∀ v,o.data≠.cell v)->H' D=none->Inv (Yt X (X.pn++pins) (xo++ys) scope cl s H fp C) [(D,o)] σ' H' s':=fun {σ' H' s' o} Ic e nc n =>
  Ic.pins_of fun p hp=>by
   rw[zy3.mp hp];refine⟨e,n,hDC,fun m=>?_,nc⟩
   obtain⟨_,ob,hob,_⟩:=I.stack.mem m;exact absurd (below D ob hob) (z0a _)
 have loop:∀ s₃:Shared,s₃={ s with heap:=h₁,toks:=s.toks+([]:List (Str×Value)).length } ->
   codeAny (model X.prog X.w) X.A (.compLoop (.ListComp elt [⟨tg,iter,ifs,0⟩] scope pos) 0 (.ref it) (.ref D) (compEnvC scope cl C X.env)) (RR (.ref D) C) s₃:=by
  rintro s₃ rfl;have I0:=zbo (t1:=s.toks+([]:List (Str×Value)).length) c I hf hex (by omega:s.heap.objs.size<=C) hns₁ old
  refine Py (fun n s'=>∃ i H' zs its,Inv (Yt X (X.pn++pins) (xo++ys) scope cl s H fp C) [] (cs0 xo js σ) H' s'/\tn i s'.heap/\(∀ b∈fp,H' b=none)/\s'.heap.PlainList D (its:List Value).toArray/\Vals zs its/\H' D=none/\W i n zs H') ?_ m0
   ⟨0,H,[],[],I0,T.keep _ _ _ st0 fun b hb o e=>old b o e,fun b hb=>(hf b hb).1,hacc,.nil,I.hok.fresh (by omega),w0⟩
  rintro n s3 ⟨i,H3,zs,its,I3,st3,fr3,⟨n3,pl3⟩,rv3,fD3,w3⟩;have I3':=pinD I3 pl3 (by intro v z;cases z) fD3
  rcases turn i n zs H3 w3 with ⟨stop,hsz,fin⟩|⟨go,hsz,Nx,hNx,step⟩
  ·refine wpAny_mono (T.done (Yt X (X.pn++pins) (xo++ys) scope cl s H fp C) rfl rfl rfl hcm i _ s3 _ H3 (fun _ _=>False) I3' (fun b hb=>frE fr3 hb) st3 stop) (fun r s4 ⟨hr,I4⟩=>?_) fun _ _ z=>z.elim
   subst hr;have plD:s4.heap.get? D=some _:=(I4.pin (D,{ cls:=Value.type "list",data:=.seq its.toArray n3 }) (zzj _ zzt)).1;obtain⟨m4,hn4,_⟩:=I4.loc;have okU:∀ h',(∀ b o,b≠C->s4.heap.get? b=some o->h'.get? b=some o)->Inv X pins σ (upd H3 D (.lst zs)) { s4 with heap:=h' }:=fun h' k1=>by
    have u4:Un (frs X.stack) fp H H3 s.heap s4.heap:=I4.base;have neC:∀ b o,s.heap.get? b=some o->b≠C:=fun b o e=>ltC b (below b o e)
    have neD:∀ b o,s.heap.get? b=some o->b≠D:=fun b o e=>ltD b (below b o e)
    have trD:∀ b u,H3 b=some u->b≠D:=fun b u e z=>by rw[z,fD3] at e;cases e
    have trC:∀ b u,H3 b=some u->b≠C:=fun b u e z=>by rw[z,show H3 C=none from I4.free] at e;cases e
    have un:Un (frs X.stack) fp H (upd H3 D (.lst zs)) s.heap h':=by
     refine⟨fun b o e n hb hx=>k1 b o (neC b o e) (u4.keep b o e n hb hx),fun b o e n hb hx=>?_,fun b o e n hx=>?_,fun b o e hx=>?_,fun b xs e=>?_,fun b ob u e=>?_,fun b ps e=>?_⟩
     ·obtain⟨sl,z⟩:=u4.slot b o e n hb hx
      exact⟨sl,k1 b _ (neC b o e) z⟩
     ·rw[Zh (neD b o e)];exact u4.free b o e n hx
     ·obtain⟨o',z⟩:=u4.there b o e hx
      exact⟨o',k1 b o' (neC b o e) z⟩
     ·have z:=u4.tups b xs e
      rw[Zh (trD b _ z)];exact z
     ·have z:=u4.frzs b ob u e
      rw[Zh (trD b _ z)];exact z
     ·obtain⟨more,z⟩:=u4.tbls b ps e
      exact⟨more,by rw[Zh (trD b _ z)];exact z⟩
    refine I.call' (s':={ s4 with heap:=h' }) (ch:=fp) (show s4.os=s.os from I4.os) un (fun b u e=>?_) I4.bare fun b hb=>?_
    ·by_cases hb:b=D
     ·subst hb
      rw[Zb] at e;cases e
      exact⟨hsz,its,n3,rv3,k1 _ _ hDC plD⟩
     ·rw[Zh hb] at e
      refine(I4.hok b u e).stay (fun d v hd q=>?_) (fun d q=>by rw[Zh (trD d _ q)];exact q) fun d xs q=>by rw[Zh (trD d _ q)];exact q
      rcases hd with z|z
      ·exact k1 d v (by rw[z];exact trC b u e) q
      ·exact k1 d v (trC d _ z) q
    ·obtain⟨f0,f1,f2,f3,f4,f5⟩:=hf b hb
     exact⟨f3,f1,f4,f5⟩
   refine hRR D C s4 m4 hn4 (fun h' hs'=>⟨_,okU h' (fun b o hb e=>hs'.extBut b o hb e),fin D fD3⟩) ⟨_,okU s4.heap (fun _ _ _ e=>e),fin D fD3,?_⟩ (by omega)
   ·rw[Zh (Ne.symm hDC)];exact I4.free
  ·refine wpAny_mono (T.item (Yt X (X.pn++pins) (xo++ys) scope cl s H fp C) rfl rfl rfl hcm i _ s3 _ H3 (fun _ _=>False) I3' (fun b hb=>frE fr3 hb) st3 go) (fun r s4 ⟨u,hr,h4⟩=>?_) fun _ _ z=>z.elim
   subst hr;refine wpAny_mono h4 (fun _ s5 h5=>?_) fun _ _ z=>z.elim
   obtain⟨xv,H5,I5,r5,y5,st5,fr5⟩:=h5;have I5':=I5.pinned (fun b hb=>frE fr5 hb) (T.obj _ _ st5)
   refine wpAny_mono (hgt _ _ _ _ _ _ s5 _ H5 xv u _ I5' r5 (step xv H5 y5)) (fun _ s6 ⟨σ6,H6,I6,own6,q6⟩=>?_) fun _ _ z=>z.elim
   refine wpAny_mono (ht _ _ _ _ _ _ s6 _ H6 _ I6 q6) (fun ok s7 ⟨H7,I7,q7⟩=>?_) fun _ _ z=>z.elim
   have keepF:∀ {σ8:St} {H8:Hp} {s8:Shared},Inv (Yt X (X.pn++pins) (xo++ys) scope cl s H fp C) ([(D,{ cls:=Value.type "list",data:=.seq its.toArray n3 })]++Nq fp s5.heap) σ8 H8 s8->tn (i+1) s8.heap/\(∀ b∈fp,H8 b=none)/\s8.heap.PlainList D its.toArray/\H8 D=none:=fun {σ8 H8 s8} I8=>by
    refine⟨T.keep _ _ _ st5 fun b hb o e=>(I8.pin (b,o) (zzj _ (zzj _ (Sv hb e)))).1,fun b hb=>?_,⟨n3,(I8.pin (D,_) (zzj _ zzt)).1⟩,(I8.pin (D,_) (zzj _ zzt)).2.1⟩
    obtain⟨o,e,d⟩:=T.obj _ _ st5 b hb;exact(I8.pin (b,o) (zzj _ (zzj _ (Sv hb e)))).2.1
   have bare:∀ {σ8:St} {H8:Hp} {s8:Shared},Inv (Yt X (X.pn++pins) (xo++ys) scope cl s H fp C) ([(D,{ cls:=Value.type "list",data:=.seq its.toArray n3 })]++Nq fp s5.heap) σ8 H8 s8->Inv (Yt X (X.pn++pins) (xo++ys) scope cl s H fp C) [] σ8 H8 s8:=fun I8=>I8.pins_of fun _ z=>(nomatch z)
   cases ok with
   | false =>
     simp only[z0n,if_false] at q7 ⊢
     obtain⟨m',hm',w7⟩:=hNx _ _ q7;obtain⟨a1,a2,a3,a4⟩:=keepF I7;exact⟨m',hm',i+1,H7,zs,its,own6.weak (bare I7),a1,a2,a3,rv3,a4,w7⟩
   | true =>
     simp only[if_true] at q7 ⊢
     refine wpAny_mono (he _ _ _ _ _ _ s7 _ H7 _ I7 q7) (fun y s8 ⟨yv,H8,I8,r8,q8⟩=>?_) fun _ _ z=>z.elim
     obtain⟨m',hm',w8⟩:=hNx _ _ q8;obtain⟨a1,a2,a3,a4⟩:=keepF I8;have szI:its.toArray.size<=sizeLine:=by rw[zzd,<- rv3.length];omega
     refine wpAny_list_append_plain (hsz:=szI) a3 fun h9 pl9 sb9=>?_
     have I8b:=own6.weak (bare I8);refine⟨m',hm',i+1,H8,zs++[yv],its++[y],?_,T.keep _ _ _ a1 fun b hb o e=>(sb9.2 b (ltD b (lt0 b hb))).trans e,a2,by rw[List.push_toArray] at pl9;exact pl9,rv3.append (.cons r8 .nil),a4,w8⟩
     refine I8b.turned (t':=s8.toks) (it:=D) (fun b o hb e=>(sb9.2 b hb).trans e) a4 hDC (.inr (show s.heap.objs.size<=D by omega)) (fun y' a h=>?_) fun p hp=>?_
     ·obtain⟨v,o,ho,_⟩:=I.cell y' a (c.same h)
      exact ltD a (below a o ho)
     ·obtain⟨e,_⟩:=I.pin p (by simpa [Yt] using hp)
      exact ltD _ (below _ _ e)
 exact codeAny_compStart_list (loop _ rfl) (T.self _ 0 _ _ _ (T.keep _ _ _ st0 fun b hb o e=>old b o e) (loop _ rfl))
variable{wi:TI}{tt:TT}{te:TE}
theorem Kw(hcm:X.calm=true)(c:Oz X xo scope cl ys js)(hi:PI X tg iter wi)(ht:∀ pn s₀ H₀ fp C,PTs (Yt X pn (xo++ys) scope cl s₀ H₀ fp C) ifs tt)(hgt:∀ pn s₀ H₀ fp C,PG (Yt X pn (xo++ys) scope cl s₀ H₀ fp C) tg g)(he:∀ pn s₀ H₀ fp C,PE (Yt X pn (xo++ys) scope cl s₀ H₀ fp C) elt te)
  (hs:∀ x,foldedSetIterable iter X.env x=pure x:=by intro _;rfl):PE X (.ListComp elt [⟨tg,iter,ifs,0⟩] scope pos) (zh5 wi xo js g tt te):=by
 intro pins s σ H Q I h;rw[eval_ListComp];refine wpAny_comprehension_free (use:=none) rfl hs c.clos c.kind c.names (thn (hi pins s σ H _ I h) fun v s1 h1=>thn h1 fun itv s2 h2=>?_)
 obtain⟨it,fp,tn,J,H2,e,I2,T,st2,f2,W,⟨m0,w0⟩,turn⟩:=h2;subst e;exact Kv (RR:=fun acc C=>compPost (model X.prog X.w) X.A X.xe none (EP X pins σ Q) acc C) hcm c ht hgt he I2 T st2 f2 w0 turn fun D C s' m hn hS _ _=>⟨m,hn,fun h' hs'=>let ⟨H',I',q⟩:=hS h' hs';⟨.ref D,H',I',rfl,q⟩⟩
end
end L2

namespace G
open PySem PySem.Spec PyProof.Rows L2
theorem Gn:∀ (a b:List (Nat×Option Int)) (xs:List V),Yq (a++b) xs=Yq b (Yq a xs)
 | [],_,_=>rfl
 | (p,w) :: r,b,xs=>by rw[List.cons_append,Yq,Yq,Gn r b]
structure Ke(kvs:List (Key×V))(gs:List V):Prop where
 has:∀ (n:Int) (j:Nat),gs[j]?=some (.int n)->valV kvs (Sum.inl n:Key)=some (.int (j:Nat))
 not:∀ n:Int,(∀ j:Nat,gs[j]?≠some (.int n))->valV kvs (Sum.inl n:Key)=none
theorem Ke.iff{kvs:List (Key×V)}{gs:List V}(t:Ke kvs gs)(n:Int):(∃ j:Nat,gs[j]?=some (.int n)/\valV kvs (Sum.inl n:Key)=some (.int (j:Nat)))\/((∀ j:Nat,gs[j]?≠some (.int n))/\valV kvs (Sum.inl n:Key)=none):=by
 by_cases h:∃ j:Nat,gs[j]?=some (.int n)
 ·obtain⟨j,hj⟩:=h
  exact .inl ⟨j,hj,t.has n j hj⟩
 ·have h':∀ j:Nat,gs[j]?≠some (.int n):=fun j hj=>h ⟨j,hj⟩
  exact .inr ⟨h',t.not n h'⟩
inductive A9(K:PySem.W.Frag)(vs:List V)(H:Hp)(Q:VK)(_:XK):Prop where
 | mk(b:Addr)(gs:List V)(_:vs=[.ref b])(_:H b=some (.lst gs))(_:(∀ x∈gs,oneV x))(_:(∀ (j k:Nat) (n:Int),gs[j]?=some (.int n)->gs[k]?=some (.int n)->j=k))(_:gs.length<=100)(_:∀ d kvs H',H' d=some (.dK kvs)->Ke kvs gs->Same H H'->H d=none->Q (.ref d) H')
structure Xt(H:Hp)(into:List (Key×V))(line:List Nat)(fr:Nat->Option (Nat×Int)):Prop where
 keys:into.map (·.1)=line.map fun q:Nat=>(Sum.inl (q:Int):Key)
 none:∀ q∈line,fr q=Option.none->valV into (Sum.inl (q:Int):Key)=some .non
 some:∀ q∈line,∀ par n,fr q=Option.some (par,n)->∃ t,valV into (Sum.inl (q:Int):Key)=Option.some (.ref t)/\H t=Option.some (.tup [.int (par:Nat),.int n])
theorem Xt.same{H H':Hp}{into:List (Key×V)}{line:List Nat}{fr:Nat->Option (Nat×Int)}(e:Same H H')(h:Xt H into line fr):Xt H' into line fr :=
 ⟨h.keys,h.none,fun q hq par n hf=>let ⟨t,a,b⟩:=h.some q hq par n hf;⟨t,a,e _ _ b⟩⟩
theorem Xt.len{H:Hp}{into:List (Key×V)}{line:List Nat}{fr:Nat->Option (Nat×Int)}(h:Xt H into line fr):into.length=line.length:=by
 have:=congrArg List.length h.keys;rw[zyz,zyz] at this;exact this
theorem zdy{into:List (Key×V)}{k:Key}:(valV into k).isSome=true↔k∈into.map Prod.fst:=by
 unfold valV;rw[Option.isSome_map,List.find?_isSome];constructor
 ·rintro⟨p,hp,e⟩
  exact zy9.mpr ⟨p,hp,of_decide_eq_true e⟩
 ·intro h
  obtain⟨p,hp,rfl⟩:=zy9.mp h;exact⟨p,hp,zy4 rfl⟩
theorem Xt.has{H:Hp}{into:List (Key×V)}{line:List Nat}{fr:Nat->Option (Nat×Int)}(h:Xt H into line fr)(q:Nat):(valV into (Sum.inl (q:Int):Key)).isSome=true↔q∈line:=by
 rw[zdy,h.keys];constructor
 ·intro z
  obtain⟨q',h1,h2⟩:=zy9.mp z;have:(q':Int)=q:=Sum.inl.inj h2;have:q'=q:=by omega
  rw[<- this];exact h1
 ·intro hq
  exact zy9.mpr ⟨q,hq,rfl⟩
inductive zdz(K:PySem.W.Frag)(vs:List V)(H:Hp)(Q:VK)(_:XK):Prop where
 | mk(l d:Addr)(ls:List Addr)(rows:List (List Int))(kvs:List (Key×V))(gs:List V)(p:Nat)(_:vs=[.ref l,.ref d,.int p])(_:H l=some (.lst (ls.map V.ref)))(_:ILs H ls rows)(_:rows.length<=100)(_:H d=some (.dK kvs))(_:Ke kvs gs)(_:Yh rows gs)(_:p<rows.length)(_:∀ t into line dep fr H',H' t=some (.dK into)->Xt H' into line fr->Bfs rows gs p line dep->Done rows gs line dep line.length->To rows gs p line dep fr->(∀ q∈line,q<rows.length)->Same H H'->H t=none->Q (.ref t) H')
inductive Gp(K:PySem.W.Frag)(vs:List V)(H:Hp)(Q:VK)(_:XK):Prop where
 | mk(l d:Addr)(r:List Int)(kvs:List (Key×V))(_:vs=[.ref l,.ref d])(_:H l=some (.lst (r.map V.int)))(_:H d=some (.dK kvs))(_:∀ w:Option Int,(∀ n,w=some n->n∈r/\valV kvs (Sum.inl n:Key)=none)->(w=none->∀ n∈r,(valV kvs (Sum.inl n:Key)).isSome=true)->Q (oV w) H)
inductive Dd(K:PySem.W.Frag)(vs:List V)(H:Hp)(Q:VK)(_:XK):Prop where
 | mk(t:Addr)(q p:Nat)(w:Option Int)(rows:List (List Int))(gs:List V)(into:List (Key×V))(line:List Nat)(dep:Nat->Nat)(fr:Nat->Option (Nat×Int))(_:vs=[.ref t,.int q,oV w])(_:Rd H t (.dK into))(_:Xt H into line fr)(_:To rows gs p line dep fr)(_:dep p=0)(_:p∈line)(_:q∈line)(_:dep q<=100)(_:∀ lt ts st H',H' lt=some (.lst ts)->TupL H' ts (st.map V5)->Ch rows gs p st q w->st.length=dep q+1->Same H H'->H lt=none->Q (.ref lt) H')
section
variable{rows:List (List Int)}{gs:List V}{p:Nat}{line:List Nat}{dep:Nat->Nat}{fr:Nat->Option (Nat×Int)}{H H':Hp}{into:List (Key×V)}
noncomputable def My(fr:Nat->Option (Nat×Int))(q:Nat)(x:Nat×Int):Nat->Option (Nat×Int):=fun y=>if y=q then some x else fr y
theorem Pz{q:Nat}{x:Nat×Int}:My fr q x q=some x:=by unfold My;rw[if_pos rfl]
theorem O0{q y:Nat}{x:Nat×Int}(h:y≠q):My fr q x y=fr y:=by unfold My;rw[if_neg h]
theorem To.app{here q':Nat}{n:Int}(F:To rows gs p line dep fr)(hn:q'∉line)(hp:p∈line)(hh:here∈line)(a:adjN rows gs here n q'):To rows gs p (line++[q']) (Vn dep q' (dep here+1)) (My fr q' (here,n)):=by
 have ne:∀ x∈line,x≠q':=fun x hx z=>hn (by rw[<- z];exact hx)
 have old:∀ x∈line,Vn dep q' (dep here+1) x=dep x:=fun x hx=>by unfold Vn;rw[if_neg (ne x hx)]
 have new:Vn dep q' (dep here+1) q'=dep here+1:=by unfold Vn;rw[if_pos rfl]
 refine⟨by rw[O0 (ne p hp)];exact F.1,fun q hq hqp=>?_⟩
 rcases zy6.mp hq with z|z
 ·obtain⟨par,m,h1,h2,h3,h4⟩:=F.2 q z hqp
  exact⟨par,m,by rw[O0 (ne q z)];exact h1,zzu _ h2,h3,by rw[old q z,old par h2];exact h4⟩
 ·rw[zy3.mp z]
  exact⟨here,n,Pz,zzu _ hh,a,by rw[new,old here hh]⟩
theorem Xt.mono(e:∀ t xs,H t=Option.some (.tup xs)->H' t=Option.some (.tup xs))(h:Xt H into line fr):Xt H' into line fr :=
 ⟨h.keys,h.none,fun q hq par n hf=>let ⟨t,a,b⟩:=h.some q hq par n hf;⟨t,a,e _ _ b⟩⟩
theorem Xt.app{here q':Nat}{n:Int}{t:Addr}(I:Xt H into line fr)(hn:q'∉line)(ht:H t=Option.some (.tup [.int (here:Nat),.int n])):Xt H (putK into (Sum.inl (q':Int)) (.ref t)) (line++[q']) (My fr q' (here,n)):=by
 have ne:∀ x∈line,x≠q':=fun x hx z=>hn (by rw[<- z];exact hx)
 have hv:valV into (Sum.inl (q':Int):Key)=Option.none:=by
  cases e:valV into (Sum.inl (q':Int):Key) with
  | none=>rfl
  | some y=>exact absurd ((I.has q').mp (by rw[e];rfl)) hn
 have val:∀ x∈line,valV (putK into (Sum.inl (q':Int)) (.ref t)) (Sum.inl (x:Int):Key)=valV into (Sum.inl (x:Int):Key):=fun x hx=>by
  rw[Vj,if_neg (fun z=>ne x hx (by have:=Sum.inl.inj z;omega))]
 have valn:valV (putK into (Sum.inl (q':Int)) (.ref t)) (Sum.inl (q':Int):Key)=Option.some (.ref t):=by rw[Vj,if_pos rfl]
 refine⟨?_,fun q hq hf=>?_,fun q hq par m hf=>?_⟩
 ·rw[zc0 _ hv,zy7,zy7,I.keys];rfl
 ·rcases zy6.mp hq with z|z
  ·rw[O0 (ne q z)] at hf
   rw[val q z];exact I.none q z hf
  ·rw[zy3.mp z,Pz] at hf;cases hf
 ·rcases zy6.mp hq with z|z
  ·rw[O0 (ne q z)] at hf
   rw[val q z];exact I.some q z par m hf
  ·rw[zy3.mp z,Pz] at hf
   cases hf;rw[zy3.mp z];exact⟨t,valn,ht⟩
theorem Br(H:Hp)(p:Nat):Xt H [((Sum.inl (p:Int):Key),V.non)] [p] (fun _=>none) :=
 ⟨rfl,fun q hq _=>by rw[zy3.mp hq];exact Xc rfl,fun q _ par n hf=>nomatch hf⟩
theorem Bs:To rows gs p [p] (fun _=>0) (fun _=>none):=⟨rfl,fun q hq hne=>absurd (zy3.mp hq) hne⟩
end
section
variable{rows:List (List Int)}{gs:List V}
theorem Ch.somes{q e:Nat}{st:List (Nat×Option Int)}{w:Option Int}(h:Ch rows gs q st e w):w≠none->∀ s∈st,s.2≠none:=by
 induction h with
 | one q w=>intro hw s hs;simp at hs;subst hs;exact hw
 | step a h ih =>
   intro hw s hs;rcases zy8.mp hs with rfl|z
   ·exact fun z=>nomatch z
   ·exact ih hw s z
theorem Ch.near{q e:Nat}{st:List (Nat×Option Int)}{w:Option Int}(h:Ch rows gs q st e w):∀ s∈st,s.1=q\/∃ m,gs[s.1]?=some (V.int m):=by
 induction h with
 | one q w=>intro s hs;simp at hs;subst hs;exact .inl rfl
 | @step q q' e n st w a h ih =>
   intro s hs;rcases zy8.mp hs with rfl|z
   ·exact .inl rfl
   ·rcases ih s z with z|z
    ·exact .inr ⟨n,by rw[z];exact a.2⟩
    ·exact .inr z
theorem Ch.single{q e:Nat}{st:List (Nat×Option Int)}{w:Option Int}(h:Ch rows gs q st e w)(hl:st.length<=1):st=[(q,w)]/\e=q:=by
 cases h with
 | one=>exact⟨rfl,rfl⟩
 | step a h=>have:=h.pos;rw[zzl] at hl;omega
structure U2(rows:List (List Int))(gs:List V)(i:Nat):Prop where
 fill:Yh rows gs
 ahead:∀ q n,gs[q]?=some (V.int n)->q<i
 stuck:∀ p,p<i->gs[p]?=some .non->Qt rows gs p
theorem U2.non{i k:Nat}(F:U2 rows gs i)(hk:i<=k)(hr:k<rows.length):gs[k]?=some .non:=by
 have hl:k<gs.length:=by rw[F.fill.len];exact hr
 have e:=zy1 hl;rcases F.fill.one _ (zz4 hl) with z|⟨n,z⟩
 ·rw[e,z]
 ·rw[z] at e
  have:=F.ahead k n e;omega
theorem U2.step{i e:Nat}{st:List (Nat×Option Int)}{w:Option Int}(F:U2 rows gs i)(hi:i<rows.length)(c:Xi rows gs i st e w):U2 rows (Yq st gs) (i+1):=by
 have hnon:=F.non (zza i) hi;cases w with
 | none =>
   obtain⟨h1,h2,h3⟩:=c.none rfl;have hei:e=i:=by
    have hge:=h2 i 0 .nil;rcases(show e=i\/∃ m,gs[e]?=some (V.int m) by
     obtain⟨s,hs,rfl⟩:=zy9.mp c.ch.last;exact c.ch.near s hs) with z|⟨m,z⟩
    ·exact z
    ·have:=F.ahead e m z;omega
   have hst:st=[(i,none)]:=(c.ch.single (by have:=h3 0 (hei▸.nil);omega)).1
   have hl:i<gs.length:=by rw[F.fill.len];exact hi
   have same:Yq st gs=gs:=by
    rw[hst];show gs.set i .non=gs;refine List.ext_getElem? fun k=>?_
    by_cases hk:i=k
    ·subst hk;rw[zz8 hl,hnon]
    ·rw[zz7 hk]
   rw[same];refine⟨F.fill,fun q n hq=>z0s (F.ahead q n hq),fun p hp hpn=>?_⟩
   by_cases hpi:p=i
   ·subst hpi;exact zdq F.fill hi F.ahead h1
   ·exact F.stuck p (by omega) hpn
 | some n0 =>
   obtain⟨hf,_⟩:=c.free n0 rfl;have nd:=c.nodup;have FP':=c.fill F.fill hi;have at_:∀ k,k<gs.length->(k∉st.map (·.1)/\(Yq st gs)[k]?=gs[k]?)\/∃ w,(k,w)∈st/\(Yq st gs)[k]?=some (oV w):=fun k hk=>Ws nd hk
   have lt:∀ {k:Nat} {v:V},(Yq st gs)[k]?=some v->k<gs.length:=fun {k v} hk=>by
    have:=(zy0.mp hk).1;rw[X5] at this;exact this
   refine⟨FP',fun q n hq=>?_,fun p hp hpn=>?_⟩
   ·rcases at_ q (lt hq) with ⟨_,h2⟩|⟨w',h1,_⟩
    ·rw[h2] at hq
     exact z0s (F.ahead q n hq)
    ·rcases c.ch.near _ h1 with z|⟨m,z⟩
     ·have:q=i:=z
      omega
     ·exact z0s (F.ahead q m z)
   ·rcases at_ p (lt hpn) with ⟨h1,h2⟩|⟨w',h1,h2⟩
    ·rw[h2] at hpn
     have hpi:p≠i:=fun z=>by
      obtain⟨x,r,e⟩:=c.ch.hd;exact h1 (by rw[z,e];simp)
     exact(F.stuck p (by omega) hpn).behind F.fill c.ch hf hi nd
    ·have:=c.ch.somes (by simp) _ h1
     rw[h2] at hpn
     cases w' with
     | none=>exact absurd rfl this
     | some m=>cases hpn
theorem Ii(rows:List (List Int)):U2 rows (rows.map fun _=>V.non) 0:=by
 have h0:∀ (k:Nat) (n:Int),(rows.map fun _=>V.non)[k]?≠some (V.int n):=fun k n h=>by
  rw[zy5] at h
  cases e:rows[k]? with
  | none=>rw[e] at h;cases h
  | some r=>rw[e] at h;cases h
 exact⟨⟨by rw[zyz],fun x hx=>by obtain⟨_,_,rfl⟩:=zy9.mp hx;exact .inl rfl,fun k n h=>absurd h (h0 k n),fun j k n h=>absurd h (h0 j n)⟩,fun q n h=>absurd h (h0 q n),fun p hp=>absurd hp (z1c _)⟩
theorem U2.last(F:U2 rows gs rows.length):Vc rows gs:=fun p hp=>F.stuck p (by have:=(zy0.mp hp).1;rw[F.fill.len] at this;exact this) hp
end
end G

namespace L2
open PySem PySem.Spec PyProof.Rows
section
variable{prog:Program}{w:World}{A:Around}{R:Result->Shared->Prop}{I:Addr}{fp wr:List Addr}{n:Nat}{P:Nat->Value->Prop}{St:Nat->Heap->Prop}
end
end L2

namespace G
open PySem PySem.Spec PyProof.Rows L2
section
variable{rows:List (List Int)}{gs:List V}
theorem Ch.pred{q e:Nat}{st:List (Nat×Option Int)}{w:Option Int}(h:Ch rows gs q st e w):∀ q'∈st.map (·.1),q'=q\/∃ q0 n,(q0,some n)∈st/\gs[q']?=some (V.int n):=by
 induction h with
 | one q w=>intro q' hq;simp at hq;exact .inl hq
 | @step q q1 e n st w a h ih =>
   intro q' hq;rw[zzc] at hq
   rcases zy8.mp hq with z|z
   ·exact .inl z
   ·rcases ih q' z with z|⟨q0,m,h1,h2⟩
    ·exact .inr ⟨q,n,zzt,by rw[z];exact a.2⟩
    ·exact .inr ⟨q0,m,zzi _ h1,h2⟩
theorem Ch.reach{q e:Nat}{st:List (Nat×Option Int)}{w:Option Int}(h:Ch rows gs q st e w):∀ q'∈st.map (·.1),∃ k,Walk rows gs q q' k:=by
 induction h with
 | one q w=>intro q' hq;simp at hq;rw[hq];exact⟨0,.nil⟩
 | @step q q1 e n st w a h ih =>
   intro q' hq;rw[zzc] at hq
   rcases zy8.mp hq with z|z
   ·rw[z];exact⟨0,.nil⟩
   ·obtain⟨k,hk⟩:=ih q' z
    exact⟨k+1,.cons a hk⟩
theorem Ch.noneLast{q e:Nat}{st:List (Nat×Option Int)}{w:Option Int}(h:Ch rows gs q st e w):∀ k,(k,none)∈st->k=e/\w=none:=by
 induction h with
 | one q w=>intro k hk;simp at hk;exact⟨hk.1,hk.2.symm⟩
 | @step q q1 e n st w a h ih =>
   intro k hk;rcases zy8.mp hk with z|z
   ·cases z
   ·exact ih k z
theorem Ch.along{R:Nat->Prop}(hs:∀ q n q',adjN rows gs q n q'->R q->R q'){q e:Nat}{st:List (Nat×Option Int)}{w:Option Int}(h:Ch rows gs q st e w):R q->R e:=by
 induction h with
 | one q w=>exact fun z=>z
 | step a h ih=>exact fun z=>ih (hs _ _ _ a z)
theorem Ch.lastMem{q e:Nat}{st:List (Nat×Option Int)}{w:Option Int}(h:Ch rows gs q st e w):(e,w)∈st:=by
 induction h with
 | one q w=>simp
 | step a h ih=>exact zzi _ ih
theorem zd0{st:List (Nat×Option Int)}(nd:(st.map (·.1)).Nodup){k:Nat}{w w':Option Int}(h:(k,w)∈st)(h':(k,w')∈st):w=w':=by
 induction st with
 | nil=>cases h
 | cons s r ih =>
   rw[zzc,zzo] at nd
   rcases zy8.mp h with z|z<;>rcases zy8.mp h' with z'|z'
   ·rw[<- z] at z';exact(Prod.mk.inj z').2.symm
   ·exact absurd (zy9.mpr ⟨_,z',by rw[<- z]⟩) nd.1
   ·exact absurd (zy9.mpr ⟨_,z,by rw[<- z']⟩) nd.1
   ·exact ih nd.2 z z'
theorem zfs{st:List (Nat×Option Int)}{xs:List V}(nd:(st.map (·.1)).Nodup){k:Nat}{w:Option Int}(h:(k,w)∈st)(hk:k<xs.length):(Yq st xs)[k]?=some (oV w):=by
 rcases Ws nd hk with ⟨h1,_⟩|⟨w',h1,h2⟩
 ·exact absurd (zy9.mpr ⟨_,h,rfl⟩) h1
 ·rw[h2,zd0 nd h1 h]
theorem Ch.moved{p e:Nat}{st:List (Nat×Option Int)}{w:Option Int}(FP:Yh rows gs)(h:Ch rows gs p st e w)(hp:p<rows.length)(hn:gs[p]?=some .non)(nd:(st.map (·.1)).Nodup){q':Nat}{n:Int}(hq:gs[q']?=some (V.int n)) :
  (q'∉st.map (·.1)/\(Yq st gs)[q']?=some (V.int n))\/∃ q0,(q0,some n)∈st/\(Yq st gs)[q0]?=some (V.int n):=by
 have hl:q' < gs.length:=(zy0.mp hq).1;by_cases hm:q'∈st.map (·.1)
 ·rcases h.pred q' hm with z|⟨q0,m,h1,h2⟩
  ·rw[z,hn] at hq;cases hq
  ·rw[hq] at h2;cases h2
   refine .inr ⟨q0,h1,?_⟩;have:=h.lt FP hp _ h1;exact zfs nd h1 (by rw[FP.len];exact this)
 ·rcases Ws nd hl with ⟨_,h2⟩|⟨w',h1,_⟩
  ·exact .inl ⟨hm,by rw[h2];exact hq⟩
  ·exact absurd (zy9.mpr ⟨_,h1,rfl⟩) hm
end
section
variable{rows:List (List Int)}{gs:List V}{p e:Nat}{x:Int}{st:List (Nat×Option Int)}{w:Option Int}
noncomputable def without(rows:List (List Int))(x:Int):List (List Int):=rows.map fun r=>r.filter fun n=>decide (n≠x)
theorem Tz{q:Nat}{r':List Int}(h:(without rows x)[q]?=some r'):∃ r,rows[q]?=some r/\∀ n∈r',n∈r/\n≠x:=by
 unfold without at h
 rw[zy5] at h
 cases e:rows[q]? with
 | none=>rw[e] at h;cases h
 | some r =>
   rw[e] at h;cases h
   exact⟨r,rfl,fun n hn=>⟨(zzq.mp hn).1,of_decide_eq_true (zzq.mp hn).2⟩⟩
theorem U3(FP:Yh rows gs)(hx:gs[p]?=some (.int x)):Yh (without rows x) (gs.set p .non):=FP.without hx _ fun n hn=>by
 have:=of_decide_eq_false hn;rw[Classical.not_not.mp this]
theorem zd1(hx:gs[p]?=some (.int x)):(gs.set p V.non)[p]?=some .non:=by rw[zz8 (zy0.mp hx).1]
theorem zaa{q:Nat}{n:Int}(hx:gs[p]?=some (.int x))(h:(gs.set p V.non)[q]?=some (.int n)):gs[q]?=some (.int n)/\q≠p:=by
 by_cases e:p=q
 ·subst e;rw[zd1 hx] at h;cases h
 ·rw[zz7 e] at h;exact⟨h,Ne.symm e⟩
theorem O1{q:Nat}{n:Int}(hx:gs[p]?=some (.int x))(h:gs[q]?=some (.int n))(hn:n≠x):(gs.set p V.non)[q]?=some (.int n):=by
 rw[zz7 (fun z=>by subst z;rw[hx] at h;cases h;exact hn rfl)];exact h
theorem De(FP:Yh rows gs)(SP:Vc rows gs)(hx:gs[p]?=some (.int x))(C:Xi (without rows x) (gs.set p .non) p st e w):Vc (without rows x) (Yq st (gs.set p .non)):=by
 have FP0:=U3 FP hx;have hRl:(without rows x).length=rows.length:=by unfold without;rw[zyz]
 have hp:p<rows.length:=by have:=(zy0.mp hx).1;rw[FP.len] at this;exact this
 have hp0:p<(without rows x).length:=by rw[hRl];exact hp
 have nd:=C.nodup;have hpm:p∈st.map (·.1):=by obtain⟨y,r,e'⟩:=C.ch.hd;rw[e'];simp
 have moved:=fun {q':Nat} {n:Int} (hq:(gs.set p V.non)[q']?=some (V.int n))=>C.ch.moved FP0 hp0 (zd1 hx) nd hq
 have closedT:w=none->∀ q,(∃ k,Walk (without rows x) (gs.set p .non) p q k)->q<(without rows x).length/\∀ r,(without rows x)[q]?=some r->∀ n∈r,∃ q2,q2<e/\(Yq st (gs.set p .non))[q2]?=some (.int n)/\∃ k,Walk (without rows x) (gs.set p .non) p q2 k:=by
  rintro hw q ⟨k,hk⟩;obtain⟨c1,c2,c3⟩:=C.none hw;refine⟨?_,fun r hr n hn=>?_⟩
  ·cases hk with
   | nil=>exact hp0
   | snoc _ a =>
     have:=(zy0.mp a.2).1;rw[FP0.len] at this;exact this
  ·by_cases hf:∃ j:Nat,(gs.set p V.non)[j]?=some (V.int n)
   ·obtain⟨q1,hq1⟩:=hf
    have w1:Walk (without rows x) (gs.set p .non) p q1 (k+1):=.snoc hk ⟨⟨r,hr,hn⟩,hq1⟩;rcases moved hq1 with ⟨m1,m2⟩|⟨q0,m1,m2⟩
    ·refine⟨q1,?_,m2,_,w1⟩
     have:=c2 q1 _ w1;have hne:q1≠e:=fun z=>m1 (by rw[z];exact C.ch.last)
     omega
    ·obtain⟨k0,hk0⟩:=C.ch.reach q0 (zy9.mpr ⟨_,m1,rfl⟩)
     refine⟨q0,?_,m2,k0,hk0⟩;have:=c2 q0 _ hk0;have hne:q0≠e:=fun z=>by
      have hl:=C.ch.lastMem;rw[z] at m1
      rw[hw] at hl
      have:=zd0 nd m1 hl;cases this
     omega
   ·exact absurd ⟨n,⟨r,hr,hn⟩,fun j hj=>hf ⟨j,hj⟩⟩ (c1 q k hk)
 intro p0 hpn;have hl0:p0<(gs.set p V.non).length:=by have:=(zy0.mp hpn).1;rw[X5] at this;exact this
 rcases Ws nd hl0 with ⟨a1,a2⟩|⟨w',a1,a2⟩
 ·rw[a2] at hpn
  have hpp:p≠p0:=fun z=>a1 (by rw[<- z];exact hpm)
  rw[zz7 hpp] at hpn
  obtain⟨S0,hS,cl⟩:=SP p0 hpn;have inS:∀ q k,Walk rows gs p0 q k->S0 q:=fun q k hk=>by
   induction hk with
   | nil=>exact hS
   | @snoc q q' k n h a ih =>
     obtain⟨r,h1,h2⟩:=a.1;obtain⟨q'',_,h3,h4⟩:=(cl q ih).2 r h1 n h2;rw[<- FP.inj q'' q' n h3 a.2];exact h4
  have closed0:∀ q,(∃ k,Walk rows gs p0 q k)->q<rows.length/\∀ r,rows[q]?=some r->∀ n∈r,∃ q',q' < p0/\gs[q']?=some (.int n)/\∃ k,Walk rows gs p0 q' k:=by
   rintro q ⟨k,hk⟩;refine⟨(cl q (inS q k hk)).1,fun r hr n hn=>?_⟩
   obtain⟨q',h1,h2,_⟩:=(cl q (inS q k hk)).2 r hr n hn;exact⟨q',h1,h2,k+1,.snoc hk ⟨⟨r,hr,hn⟩,h2⟩⟩
  have lt0:∀ q,(∃ k,Walk rows gs p0 q k)->q=p0\/q<p0:=by
   rintro q ⟨k,hk⟩;cases hk with
   | nil=>exact .inl rfl
   | @snoc q1 _ k n h a =>
     obtain⟨r,h1,h2⟩:=a.1;obtain⟨q',h3,h4,_⟩:=(closed0 q1 ⟨k,h⟩).2 r h1 n h2;rw[<- FP.inj q' q n h4 a.2];exact .inr h3
  have along:∀ {q:Nat} {st':List (Nat×Option Int)} {w':Option Int},Ch (without rows x) (gs.set p .non) q st' e w'->(∃ k,Walk rows gs p0 q k)->∃ k,Walk rows gs p0 e k:=fun {q st' w'} hc =>
   hc.along (R:=fun q=>∃ k,Walk rows gs p0 q k) fun q n q' a ⟨k,hk⟩=>by
    obtain⟨r',h1,h2⟩:=a.1;obtain⟨r,h3,h4⟩:=Tz h1;exact⟨k+1,.snoc hk ⟨⟨r,h3,(h4 n h2).1⟩,(zaa hx a.2).1⟩⟩
  by_cases hpath:∃ q∈st.map (·.1),∃ k,Walk rows gs p0 q k
  ·obtain⟨q1,hq1,hk1⟩:=hpath
   obtain⟨st',c1,_⟩:=C.ch.drop q1 hq1;have hRe:=along c1 hk1;cases hw:w with
   | some n0 =>
     obtain⟨⟨r',f1,f2⟩,f3⟩:=(C.free n0 hw).1;obtain⟨r,g1,g2⟩:=Tz f1;obtain⟨q',_,h2,_⟩:=(closed0 e hRe).2 r g1 n0 (g2 n0 f2).1;exact absurd (O1 hx h2 (g2 n0 f2).2) (f3 q')
   | none =>
     have clT:=closedT hw;obtain⟨_,cmax,_⟩:=C.none hw;have hep:e<p0:=by
      have hfe:∃ m,gs[e]?=some (V.int m):=by
       obtain⟨s,hs,hse⟩:=zy9.mp C.ch.last;rcases C.ch.near s hs with z|⟨m,z⟩
       ·rw[<- hse,z];exact⟨x,hx⟩
       ·rw[hse] at z;exact⟨m,(zaa hx z).1⟩
      obtain⟨m,hm⟩:=hfe;rcases lt0 e hRe with z|z
      ·rw[z,hpn] at hm;cases hm
      ·exact z
     refine⟨fun q=>(∃ k,Walk rows gs p0 q k)\/∃ k,Walk (without rows x) (gs.set p .non) p q k,.inl ⟨0,.nil⟩,fun q hq=>?_⟩
     rcases hq with hq|hq
     ·refine⟨by rw[hRl];exact(closed0 q hq).1,fun r' hr' n hn=>?_⟩
      obtain⟨r,g1,g2⟩:=Tz hr';obtain⟨q',h1,h2,h3⟩:=(closed0 q hq).2 r g1 n (g2 n hn).1;rcases moved (O1 hx h2 (g2 n hn).2) with ⟨_,m2⟩|⟨q0,m1,m2⟩
      ·exact⟨q',h1,m2,.inl h3⟩
      ·obtain⟨k0,hk0⟩:=C.ch.reach q0 (zy9.mpr ⟨_,m1,rfl⟩)
       have:=cmax q0 k0 hk0;exact⟨q0,by omega,m2,.inr ⟨k0,hk0⟩⟩
     ·obtain⟨t1,t2⟩:=clT q hq
      refine⟨t1,fun r hr n hn=>?_⟩
      obtain⟨q2,h1,h2,h3⟩:=t2 r hr n hn;exact⟨q2,by omega,h2,.inr h3⟩
  ·refine⟨fun q=>∃ k,Walk rows gs p0 q k,⟨0,.nil⟩,fun q hq=>⟨by rw[hRl];exact(closed0 q hq).1,fun r' hr' n hn=>?_⟩⟩
   obtain⟨r,g1,g2⟩:=Tz hr';obtain⟨q',h1,h2,h3⟩:=(closed0 q hq).2 r g1 n (g2 n hn).1;rcases moved (O1 hx h2 (g2 n hn).2) with ⟨_,m2⟩|⟨q0,m1,m2⟩
   ·exact⟨q',h1,m2,h3⟩
   ·rcases Ws nd (show q' < (gs.set p V.non).length from(zy0.mp (O1 hx h2 (g2 n hn).2)).1) with ⟨_,b2⟩|⟨w2,b1,_⟩
    ·exact⟨q',h1,by rw[b2];exact O1 hx h2 (g2 n hn).2,h3⟩
    ·exact absurd ⟨q',zy9.mpr ⟨_,b1,rfl⟩,h3⟩ hpath
 ·rw[a2] at hpn
  cases w' with
  | some n=>cases hpn
  | none =>
    obtain⟨b1,b2⟩:=C.ch.noneLast p0 a1;subst b1;exact⟨_,⟨0+(C.ch.reach p0 (zy9.mpr ⟨_,a1,rfl⟩)).choose,by rw[Nat.zero_add];exact(C.ch.reach p0 (zy9.mpr ⟨_,a1,rfl⟩)).choose_spec⟩,closedT b2⟩
end
end G

namespace L2
open PySem PySem.Spec PyProof.Rows
section
variable{prog:Program}{w:World}{A:Around}{E:Value->Shared->Prop}{s:Shared}{T:String}{r d:Addr}{n:Nat}{P:Nat->Value->Prop}{OK:Heap->Prop}
open PySem.W in
end
end L2

namespace G
open PySem PySem.Spec PyProof.Rows L2
section
variable{α:Type}[DecidableEq α]{f:α->Key}
end
section
variable{rows:List (List Int)}{gs:List V}
structure zkf(rows:List (List Int))(gs:List V)(ps:List Nat)(rs:List Int):Prop where
 up:ps.Pairwise (· < ·)
 lt:∀ p∈ps,p<rows.length
 rup:rs.Pairwise (· < ·)
 all:∀ n,n∈rs↔∃ p∈ps,∃ r,rows[p]?=some r/\n∈r
 cnt:ps.length=rs.length+(zgt gs).length
 nil:zgt gs=[]->ps=[]
 gap:∀ p,gs[p]?=some .non->p∈ps
 has:∀ n∈rs,∃ p∈ps,gs[p]?=some (.int n)
noncomputable def zjv(x:Option V):Option Int:=match x with|some (.int n)=>some n|_=>none
end
section
variable{rows:List (List Int)}{gs:List V}{p:Nat}{line:List Nat}{dep:Nat->Nat}{fr:Nat->Option (Nat×Int)}
noncomputable def byV(x:Option (Nat×Int)):V:=match x with|none=>.non|some y=>.int (y.1:Nat)
structure zko(by_:List (Key×V))(line:List Nat)(fr:Nat->Option (Nat×Int)):Prop where
 keys:by_.map (·.1)=line.map fun q:Nat=>(Sum.inl (q:Int):Key)
 val:∀ q∈line,valV by_ (Sum.inl (q:Int):Key)=some (byV (fr q))
structure zkp(rows:List (List Int))(gs:List V)(dep:Nat->Nat)(q:Nat)(x:Int)(tl:List (Nat×Option Int))(e:Nat)(n:Int):Prop where
 ch:Ch rows gs q ((q,some x) :: tl) e (some n)
 nd:(((q,some x) :: tl).map (·.1)).Nodup
 far:∀ s∈tl,dep q<dep s.1
end
section
variable{rows:List (List Int)}{gs:List V}
noncomputable def zh6(rows:List (List Int))(gs:List V)(p:Nat):Prop:=∀ q k,Walk rows gs p q k->¬ U1 rows gs q
structure zjw(rows:List (List Int))(f k:Nat)(gs:List V):Prop where
 fill:Yh rows gs
 seen:∀ j,j<k->(∃ n,gs[(f+j)%rows.length]?=some (.int n))\/zh6 rows gs ((f+j)%rows.length)
 later:∀ p,(∀ j,j<k->(f+j)%rows.length≠p)->p<rows.length->gs[p]?=some .non
end
section
variable{rows:List (List Int)}{gs:List V}{M:List Int}
end
end G

namespace PySem
theorem Gq{α β:Type}(f:α->β):∀ (l:List α) (j:Nat),(l.map f).eraseIdx j=(l.eraseIdx j).map f
 | [],_=>rfl
 | _ :: _,0=>rfl
 | x :: l,j+1=>by
   show f x :: (l.map f).eraseIdx j=f x :: (l.eraseIdx j).map f;rw[Gq f l j]
section
variable{prog:Program}{w:World}{K:Type}[DecidableEq K]{knd:HeapKind prog w K}{A:Around}{E:Value->Shared->Prop}{s:Shared}
theorem P4{d a:Addr}{xs:List (K×Addr×Value)}{k:K}{j:Nat}{p:Addr×Value}{Q:Option DictEntry->Shared->Prop}(hu:knd.room A)(hkey:knd.is s.heap k a)(hm:s.heap.DictOfH knd d xs)(hj:xs[j]?=some (k,p))(hsz:xs.length<=sizeLine)
  (hQ:∀ h',h'.DictOfH knd d (xs.eraseIdx j)->Heap.SameBut d s.heap h'->Q (some (entryOfKey knd (k,p))) { s with heap:=h',toks:=s.toks+knd.draws k }) :
  wpAny (model prog w) A (Builtin.Dict.takeOut d (.ref a)) Q E s:=by
 obtain⟨o,es,ep,ho,hc,hd,he,his,hn⟩:=hm;unfold Builtin.Dict.takeOut
 try with_reducible refine wpAny_holding ?_
 refine wpAny_bind (knd.pyHash hu hkey (wpAny_bind (wpAny_dictFind_heap (s:={ s with toks:=s.toks+knd.draws k }) hu hkey ho hd he his hn ?_ ?_)))
 ·intro hno
  exact absurd hj (hno j p)
 ·intro j' p' hj'
  have ej:=idxH_unique hn hj' hj;subst ej;refine wpAny_bind (wpAny_dictEntries (s:={ s with toks:=s.toks+knd.draws k }) ho hd ?_)
  rw[entry_at he j',hj];refine wpAny_bind (wpAny_updateDictKeys (hz:=by have e:=size_of_entries he;omega) (s:={ s with toks:=s.toks+knd.draws k }) ho hd (wpAny_pure (hQ _ ⟨_,_,ep+1,Heap.get?_update_self _ ho (Obj.isFreed_of_dict (Obj.data_mapDictKeys hd _)),
   hc.mapDictKeys _,Obj.data_mapDictKeys hd _,?_,?_,?_⟩ (Heap.SameBut.update ..))))
  ·obtain⟨l⟩:=es
   simp only at he
   simp[he,Gq]
  ·intro x hx
   exact knd.keeps (his x (List.mem_of_mem_eraseIdx hx)) ho hd (Heap.SameBut.update ..)
  ·have:=hn.sublist (List.Sublist.map (·.1) (List.eraseIdx_sublist xs j'))
   exact this
theorem Lj(d a:Addr)(k:K) :
  MeetsIn prog w (Builtin.«dict.pop» ⟨[.ref d,.ref a],[]⟩) (fun A R s=>knd.room A.in1/\knd.is s.heap k a/\∃ xs j p,s.heap.DictOfH knd d xs/\xs.length<=sizeLine/\xs[j]?=some (k,p) /\
   ∀ h' t',h'.DictOfH knd d (xs.eraseIdx j)->Heap.SameBut d s.heap h'->R (.ok (.ret p.2)) { s with heap:=h',toks:=t' }) :=
 .of_wp fun A R s ⟨hu,hkey,xs,j,p,hm,hsz,hj,h⟩=>by
  obtain⟨o,es,ep,ho,hc,hd,he,his,hn⟩:=id hm;unfold Builtin.«dict.pop»;refine wpAny_bind ?_;unfold Builtin.Dict.keyAndDefault;refine wpAny_bind (wpAny_notOrdered_dict hm.typeIs ?_);show wpAny _ _ (pure (d,Value.ref a,none)) _ _ s;refine wpAny_pure ?_;have hp:(keyPart (Value.ref a)).isSome=false:=rfl;simp only[hp,z0n,if_false];refine wpAny_bind (wpAny_dictEntries ho hd (wpAny_bind (wpAny_pure ?_)));have hne:es.isEmpty=false:=by
   have h1:=size_of_entries he;have h2:=(zy0.mp hj).1;rw[Array.isEmpty_eq_false_iff_exists_mem];exact⟨es[0]'(by omega),Array.getElem_mem _⟩
  simp only[hne,z0n,if_false];refine wpAny_bind (P4 hu hkey hm hj hsz fun h' hm' hs'=>?_)
  simp only[Option.isNone_some,z0n,if_false];exact wpAny_bind (wpAny_letGo (wpAny_pure ⟨p.2,rfl,h h' _ hm' hs'⟩))
end
end PySem
namespace L2
open PySem PySem.Spec PyProof.Rows
theorem KT.drop{H:Hp}{k:List Key}{v:V}:∀ {kvs:List (List Key×V)} {xs:List (List Key×Addr×Value)},KT H kvs xs->(xs.map (·.1)).Nodup->valV kvs k=some v->∃ j p,xs[j]?=some (k,p)/\RelV v p.2/\KT H (X0 kvs k) (xs.eraseIdx j)
 | [],[],_,_,hv=>by cases hv
 | p :: kvs,q :: xs,r,nd,hv=>by
   cases r with
   | cons h t =>
     rw[zzc,zzo] at nd
     obtain⟨h1,h2,h3⟩:=h;by_cases e:p.1=k
     ·rw[Xc e] at hv
      cases hv;refine⟨0,q.2,by rw[<- e,h1];rfl,h3,?_⟩
      show KT H (X0 (p :: kvs) k) xs;have hd:X0 (p :: kvs) k=kvs:=by
       unfold X0;rw[z0k (by simp[e])]
       rw[List.filter_eq_self];intro kv hkv;refine zy4 fun z=>nd.1 ?_
       have:∀ {l:List (List Key×V)} {m:List (List Key×Addr×Value)},KT H l m->kv∈l->kv.1∈m.map (·.1):=by
        intro l m q
        induction q with
        | nil=>intro hx;cases hx
        | @cons p' q' ps qs hq t ih =>
          intro hx;rcases zy8.mp hx with z|z
          ·rw[z,hq.1];exact zzt
          ·exact zzi _ (ih z)
       have h9:=this t hkv;rw[z,<- e,h1] at h9
       exact h9
      rw[hd];exact t
     ·rw[Y6 e] at hv
      obtain⟨j,pp,h4,h5,h6⟩:=KT.drop t nd.2 hv;refine⟨j+1,pp,h4,h5,?_⟩;have hd:X0 (p :: kvs) k=p :: X0 kvs k:=by
       unfold X0;rw[z0l (by simp[e])]
      rw[hd];exact .cons ⟨h1,h2,h3⟩ h6
inductive zft(ty:TE)(σ:L2.St)(Q:VK)(x:V)(H1:Hp):Prop where
 | mk(a)(_:x=.ref a)(_:IsD H1 a)(_:ty σ H1 fun y H2=>∃ (kvs:List (List Key×V)) (k:List Key) (b:Addr) (v:V),H2 a=some (.dT kvs)/\y=.ref b/\H2 b=some (.tup (k.map kV))/\valV kvs k=some v/\Q v (upd H2 a (.dT (X0 kvs k))))
noncomputable def zh7(td ty:TE):TE:=fun σ H Q=>td σ H fun x H1=>zft ty σ Q x H1
theorem zd2{X:Cx}{o e:Expr}{apos cpos:Pos}{td ty:TE}(hu:X.A.units+1<cLine)(ho:PE X o td)(he:PE X e ty)(m:M1 X o "pop" apos e cpos):PE X (.Call (.Attribute o "pop" apos) [e] [] cpos) (zh7 td ty):=by
 intro pins s σ H Q I h;refine wpAny_Call_method m.base m.few m.line PySem.F.plainAttrs_dict PySem.F.slot_dict_pop PySem.F.type_dict_pop (thn (ho pins s σ H _ I h) fun u s1 ⟨x,H1,I1,rx,a,ex,d,q1⟩=>?_)
 subst ex;obtain rfl:u=Value.ref a:=rx;obtain⟨t1,t2,_⟩:=Bc I1 d;refine⟨t1,t2,?_⟩;rw[m.trees];refine Calls.callWith_builtin rfl (Calls.evalArgs_plain (Calls.spliced_cons (thn (he pins s1 σ H1 _ I1 q1) fun iv s2 ⟨y,H2,I2,ry,kvs,k,b,v,ea,ey,eb,l,q2⟩=>Calls.spliced_nil ?_)))
 subst ey;cases (show iv=Value.ref b from ry)
 obtain⟨z,hd,xs,rel,dd⟩:=zc2 I2.hok ea;have hz:xs.length<=sizeLine:=by rw[<- Paired.length rel];exact z
 obtain⟨j,p,hj,rv,rel'⟩:=KT.drop rel (by obtain⟨_,_,_,_,_,_,_,_,hn⟩:=dd;exact hn) l
 refine call_meetsIn PySem.F.slot_dict_pop dd.typeIs PySem.F.entry_dict_pop (PySem.F.args_dict_pop_2 _ _) (Lj (knd:=tupleKind (Yj X.prog X.w)) a b k) ⟨tupleKind_room_in1 hu,Rx I2.hok eb,xs,j,p,dd,hz,hj,fun h' t' dd' hs=>⟨v,_,?_,rv,q2⟩⟩
 obtain⟨q,es,ep,hq,h2,h3,h4,_,h5⟩:=dd';refine Qr I2 (by rw[ea];exact True.intro) hs ⟨q,hq⟩ ⟨zzg (Et kvs k) z,hd,_,rel'.keeps fun c ys ec=>?_,q,es,ep,hq,h2,h3,h4,h5⟩
 rw[Zh (Ym ec ea (fun z=>nomatch z))]
 exact ec
end L2

namespace G
open PySem PySem.Spec PyProof.Rows L2
structure CA where
 season:Addr
 sheet:Addr
 roster:Addr
 ledger:Addr
 out:Addr
 known:Addr
 many:Addr
 unk:Addr
 manyM:Addr
 same:Addr
 noMatch:Addr
 noRound:Addr
 over:Addr
 seaOver:Addr
 away:Addr
 drawn:Addr
 notDrawn:Addr
 nothing:Addr
 manyD:Addr
theorem Tp:1000000<sizeLine:=by rw[sizeLine_eq];decide
noncomputable abbrev RL:=List (Int×Int×Int)
inductive Vd(H:Hp):RL->List (Key×V)->Prop where
 | nil:Vd H [] []
 | cons {n g c:Int} {t:Addr} {R:RL} {kvs:List (Key×V)} (h:H t=some (.tup [.int g,.int c])) (r:Vd H R kvs):Vd H ((n,g,c) :: R) ((.inl n,.ref t) :: kvs)
theorem Vd.mono{H H':Hp}(k:∀ t xs,H t=some (.tup xs)->H' t=some (.tup xs)):∀ {R:RL} {kvs:List (Key×V)},Vd H R kvs->Vd H' R kvs
 | _,_,.nil=>.nil
 | _,_,.cons h r=>.cons (k _ _ h) (Vd.mono k r)
theorem Vd.length{H:Hp}:∀ {R:RL} {kvs:List (Key×V)},Vd H R kvs->kvs.length=R.length
 | _,_,.nil=>rfl
 | _,_,.cons _ r=>by simp[Vd.length r]
theorem Vd.keys{H:Hp}:∀ {R:RL} {kvs:List (Key×V)},Vd H R kvs->(kvs.map fun kv=>kV kv.1)=R.map fun x=>V.int x.1
 | _,_,.nil=>rfl
 | _,_,.cons _ r=>by rw[zzc,zzc,Vd.keys r];rfl
theorem Vd.snoc{H:Hp}{n g c:Int}{t:Addr}(h:H t=some (.tup [.int g,.int c])):∀ {R:RL} {kvs:List (Key×V)},Vd H R kvs->Vd H (R++[(n,g,c)]) (kvs++[(.inl n,.ref t)])
 | _,_,.nil=>.cons h .nil
 | _,_,.cons h' r=>.cons h' (Vd.snoc h r)
theorem Vd.val_none{H:Hp}{n:Int}:∀ {R:RL} {kvs:List (Key×V)},Vd H R kvs->n∉R.map (·.1)->valV kvs (Sum.inl n:Key)=none
 | _,_,.nil,_=>rfl
 | _,_,.cons (n:=m) _ r,h=>by
   rw[zzc,zy8,not_or] at h
   rw[Y6 (fun e=>h.1 (Sum.inl.inj e).symm)]
   exact Vd.val_none r h.2
theorem Vd.val_some{H:Hp}{n g c:Int}:∀ {R:RL} {kvs:List (Key×V)},Vd H R kvs->(R.map (·.1)).Nodup->(n,g,c)∈R->∃ t,valV kvs (Sum.inl n:Key)=some (.ref t)/\H t=some (.tup [.int g,.int c])
 | _,_,.nil,_,h=>by simp at h
 | _,_,.cons (n:=m) (g:=g') (c:=c') (t:=t) ht r,nd,h=>by
   rw[zzc,zzo] at nd
   by_cases e:m=n
   ·subst e
    rcases zy8.mp h with q|q
    ·cases q
     exact⟨t,Xc rfl,ht⟩
    ·exact absurd (zy9.mpr ⟨_,q,rfl⟩) nd.1
   ·rcases zy8.mp h with q|q
    ·cases q;exact absurd rfl e
    ·obtain⟨t',h1,h2⟩:=Vd.val_some r nd.2 q
     exact⟨t',by rw[Y6 (fun z=>e (Sum.inl.inj z))];exact h1,h2⟩
theorem Vd.isSome{H:Hp}{n:Int}{R:RL}{kvs:List (Key×V)}(e:Vd H R kvs)(nd:(R.map (·.1)).Nodup):(valV kvs (Sum.inl n:Key)).isSome=decide (n∈R.map (·.1)):=by
 by_cases h:n∈R.map (·.1)
 ·obtain⟨⟨m,g,c⟩,q,rfl⟩:=zy9.mp h
  obtain⟨t,h1,_⟩:=e.val_some nd q;rw[h1,zy4 h];rfl
 ·rw[e.val_none h,zzb h];rfl
theorem Vd.unsnoc{H:Hp}{n g c:Int}:∀ {R:RL} {kvs:List (Key×V)},Vd H (R++[(n,g,c)]) kvs->n∉R.map (·.1)->Vd H R (X0 kvs (Sum.inl n))
 | [],_,.cons h .nil,_=>by
   unfold X0;rw[z0k (by simp)];exact .nil
 | (m,g',c') :: R,_,.cons h r,hn=>by
   rw[zzc,zy8,not_or] at hn
   unfold X0;rw[z0l (by
    refine zy4 fun z=>hn.1 ?_
    exact(Sum.inl.inj z).symm)]
   exact .cons h (Vd.unsnoc r hn.2)
structure Xj(C:Addr)(H:Hp)(p d:Addr)(R:RL):Prop where
 ex:∃ dx kvs,H p=some (.ins C dx [("entries",.ref d)])/\H d=some (.dK kvs)/\Vd H R kvs
 nd:(R.map (·.1)).Nodup
theorem Ve{d:Addr}:List.lookup ("entries":Str) ([("entries",V.ref d)]:List (Str×V))=some (.ref d):=by simp only[zz1,beq_self_eq_true]
theorem Xj.no{d:Addr}{m:Str}(h:¬ m="entries"):List.lookup m ([("entries",V.ref d)]:List (Str×V))=none:=by
 have e:(m == "entries")=false:=zzn.mpr h;simp only[zz1,e,List.lookup_nil]
theorem Xj.keep{C:Addr}{H H':Hp}{p d:Addr}{R:RL}(h:Xj C H p d R)(kp:∀ o,H p=some o->H' p=some o)(kd:∀ o,H d=some o->H' d=some o)(kt:∀ t xs,H t=some (.tup xs)->H' t=some (.tup xs)):Xj C H' p d R:=by
 obtain⟨⟨dx,kvs,h1,h2,h3⟩,nd⟩:=h;exact⟨⟨dx,kvs,kp _ h1,kd _ h2,h3.mono kt⟩,nd⟩
theorem Xj.same{C:Addr}{H H':Hp}{p d:Addr}{R:RL}(h:Xj C H p d R)(e:Same H H'):Xj C H' p d R:=h.keep (fun _ q=>e _ _ q) (fun _ q=>e _ _ q) fun _ _ q=>e _ _ q
noncomputable def badI(n g c:Int):Prop:=n<1\/999<n\/g<1\/9<g\/c<1\/99<c
instance {n g c:Int}:Decidable (badI n g c):=by unfold badI;infer_instance
noncomputable def Bt(n g c:Int):Prop:=Y1 n/\Y1 g/\Y1 c
inductive O2(x:Addr)(vs:List V)(H:Hp)(Q:VK)(E:XK):Prop where
 | mk(v)(lo)(m)(_:vs=[.int v,.int lo,.int m])(_:Y1 v)(_:Y1 lo)(_:Y1 m)(_:(if v<lo\/m<v then E (.ref x) none H else Q .non H))
inductive zab(ca:CA)(vs:List V)(H:Hp)(Q:VK)(_:XK):Prop where
 | mk(p)(dx)(_:vs=[.ref p])(_:H p=some (.ins ca.roster dx []))(_:∀ d,H d=none->Q .non (upd (upd H d (.dK [])) p (.ins ca.roster dx [("entries",.ref d)])))
inductive P5(ca:CA)(vs:List V)(H:Hp)(Q:VK)(E:XK):Prop where
 | mk(p)(d)(R)(n)(g)(c)(_:vs=[.ref p,.int n,.int g,.int c])(_:Xj ca.roster H p d R)(_:Bt n g c)(_:if badI n g c then E (.ref ca.out) none H else if n∈R.map (·.1) then E (.ref ca.known) none H else if 30<=R.length then E (.ref ca.many) none H else Q .non H)
inductive S4(ca:CA)(vs:List V)(H:Hp)(Q:VK)(E:XK):Prop where
 | mk(p)(d)(R)(n)(_:vs=[.ref p,.int n])(_:Xj ca.roster H p d R)(_:Y1 n)(_:if n∈R.map (·.1) then Q .non H else E (.ref ca.unk) none H)
inductive zd3(ca:CA)(vs:List V)(H:Hp)(Q:VK)(E:XK):Prop where
 | mk(p)(d)(R)(n)(g)(c)(_:vs=[.ref p,.int n,.int g,.int c])(_:Xj ca.roster H p d R)(_:Bt n g c)(_:R.length<=1000)(_:if badI n g c then E (.ref ca.out) none H else if n∈R.map (·.1) then E (.ref ca.known) none H else if 30<=R.length then E (.ref ca.many) none H else ∀ H',Xj ca.roster H' p d (R++[(n,g,c)])->(∀ b o,H b=some o->b≠d->H' b=some o)->Q .non H')
inductive Df(ca:CA)(vs:List V)(H:Hp)(Q:VK)(_:XK):Prop where
 | mk(p)(d)(R)(n)(g)(c)(_:vs=[.ref p,.int n])(_:Xj ca.roster H p d (R++[(n,g,c)]))(_:∀ H',Xj ca.roster H' p d R->(∀ b o,H b=some o->b≠d->H' b=some o)->Q .non H')
inductive Kx(ca:CA)(vs:List V)(H:Hp)(Q:VK)(_:XK):Prop where
 | mk(p)(d)(R)(_:vs=[.ref p])(_:Xj ca.roster H p d R)(_:∀ l,H l=none->Q (.ref l) (upd H l (.lst (R.map fun x=>V.int x.1))))
inductive Dg(ca:CA)(vs:List V)(H:Hp)(Q:VK)(E:XK):Prop where
 | mk(p)(d)(R)(n)(_:vs=[.ref p,.int n])(_:Xj ca.roster H p d R)(_:Y1 n)(_:(n∉R.map (·.1)->E (.ref ca.unk) none H))(_:∀ g c t,(n,g,c)∈R->H t=some (.tup [.int g,.int c])->Q (.ref t) H)
inductive Dh(ca:CA)(vs:List V)(H:Hp)(Q:VK)(E:XK):Prop where
 | mk(p)(d)(R)(n)(_:vs=[.ref p,.int n])(_:Xj ca.roster H p d R)(_:Y1 n)(_:(n∉R.map (·.1)->∀ H',Same H H'->E (.ref ca.unk) none H'))(_:∀ g c t H',(n,g,c)∈R->H' t=some (.tup (pV (n,g,c)))->Same H H'->H t=none->Q (.ref t) H')
structure Zt where
 ms:List (Int×Int×Int)
 may:List (List Int)
 gv:List V
 gaps:List (Int×List (Nat×Option Int))
inductive Wn(ok:Addr->Prop)(H:Hp):List V->List (Int×List (Nat×Option Int))->Prop where
 | nil:Wn ok H [] []
 | cons {t l:Addr} {n:Int} {us:List V} {st:List (Nat×Option Int)} {ts:List V} {G:List (Int×List (Nat×Option Int))} (h:H t=some (.tup [.int n,.ref l])) (hl:H l=some (.lst us)) (tl:TupL H us (st.map V5)) (o:ok l) (r:Wn ok H ts G):Wn ok H (.ref t :: ts) ((n,st) :: G)
theorem Wn.keep{ok:Addr->Prop}{H H':Hp}(k:∀ x o,ok x->H x=some o->H' x=some o)(kt:∀ t xs,H t=some (.tup xs)->H' t=some (.tup xs)):∀ {ts:List V} {G:List (Int×List (Nat×Option Int))},Wn ok H ts G->Wn ok H' ts G
 | _,_,.nil=>.nil
 | _,_,.cons h hl tl o r=>.cons (kt _ _ h) (k _ _ o hl) (tl.mono kt) o (Wn.keep k kt r)
theorem Wn.imp{ok ok':Addr->Prop}{H:Hp}(k:∀ x,(∃ o,H x=some o)->ok x->ok' x):∀ {ts:List V} {G:List (Int×List (Nat×Option Int))},Wn ok H ts G->Wn ok' H ts G
 | _,_,.nil=>.nil
 | _,_,.cons h hl tl o r=>.cons h hl tl (k _ ⟨_,hl⟩ o) (Wn.imp k r)
theorem Wn.length{ok:Addr->Prop}{H:Hp}:∀ {ts:List V} {G:List (Int×List (Nat×Option Int))},Wn ok H ts G->ts.length=G.length
 | _,_,.nil=>rfl
 | _,_,.cons _ _ _ _ r=>by simp[Wn.length r]
theorem Wn.snoc{ok:Addr->Prop}{H:Hp}{t l:Addr}{n:Int}{us:List V}{st:List (Nat×Option Int)}(h:H t=some (.tup [.int n,.ref l]))(hl:H l=some (.lst us))(tl:TupL H us (st.map V5))(o:ok l):∀ {ts:List V} {G:List (Int×List (Nat×Option Int))},Wn ok H ts G->Wn ok H (ts++[.ref t]) (G++[(n,st)])
 | _,_,.nil=>.cons h hl tl o .nil
 | _,_,.cons h' hl' tl' o' r=>.cons h' hl' tl' o' (Wn.snoc h hl tl o r)
theorem Wn.get{ok:Addr->Prop}{H:Hp}:∀ {ts:List V} {G:List (Int×List (Nat×Option Int))} {i:Nat} {x:V},Wn ok H ts G->ts[i]?=some x->∃ t l n us st,x=.ref t/\G[i]?=some (n,st)/\H t=some (.tup [.int n,.ref l])/\H l=some (.lst us)/\TupL H us (st.map V5)/\ok l
 | _,_,_,_,.nil,e=>by simp at e
 | _,_,0,_,.cons h hl tl o _,e=>by simp at e;subst e;exact⟨_,_,_,_,_,rfl,rfl,h,hl,tl,o⟩
 | _,_,i+1,x,.cons _ _ _ _ r,e=>by
   obtain⟨t,l,n,us,st,h1,h2,h3⟩:=Wn.get (i:=i) (x:=x) r (by simpa using e)
   exact⟨t,l,n,us,st,h1,by simpa using h2,h3⟩
noncomputable def shF(l1 l2 l3 l4:Addr):List (Str×V):=[("listed",.ref l1),("lists",.ref l2),("given",.ref l3),("gaps",.ref l4)]
structure ShAt(C:Addr)(ok:Addr->Prop)(H:Hp)(q:Addr)(s:Zt):Prop where
 ex:∃ dx l1 l2 l3 l4 ts ls gts,H q=some (.ins C dx (shF l1 l2 l3 l4))/\H l1=some (.lst ts)/\TupL H ts (s.ms.map pV)/\H l2=some (.lst (ls.map V.ref))/\ILs H ls s.may/\H l3=some (.lst s.gv)/\H l4=some (.lst gts)/\Wn ok H gts s.gaps/\(ok q/\ok l1/\ok l2/\ok l3/\ok l4/\∀ x∈ls,ok x)
theorem ShAt.keep{C:Addr}{ok:Addr->Prop}{H H':Hp}{q:Addr}{s:Zt}(h:ShAt C ok H q s)(k:∀ x o,ok x->H x=some o->H' x=some o)(kt:∀ t xs,H t=some (.tup xs)->H' t=some (.tup xs)):ShAt C ok H' q s:=by
 obtain⟨dx,l1,l2,l3,l4,ts,ls,gts,a1,a2,a3,a4,a5,a6,a7,a8,o1,o2,o3,o4,o5,o6⟩:=h;exact⟨dx,l1,l2,l3,l4,ts,ls,gts,k _ _ o1 a1,k _ _ o2 a2,a3.mono kt,k _ _ o3 a4,a5.keep fun x hx o q=>k _ _ (o6 x hx) q,k _ _ o4 a6,k _ _ o5 a7,a8.keep k kt,o1,o2,o3,o4,o5,o6⟩
theorem ShAt.imp{C:Addr}{ok ok':Addr->Prop}{H:Hp}{q:Addr}{s:Zt}(h:ShAt C ok H q s)(k:∀ x,(∃ o,H x=some o)->ok x->ok' x):ShAt C ok' H q s:=by
 obtain⟨dx,l1,l2,l3,l4,ts,ls,gts,a1,a2,a3,a4,a5,a6,a7,a8,o1,o2,o3,o4,o5,o6⟩:=h;exact⟨dx,l1,l2,l3,l4,ts,ls,gts,a1,a2,a3,a4,a5,a6,a7,a8.imp k,k _ ⟨_,a1⟩ o1,k _ ⟨_,a2⟩ o2,k _ ⟨_,a4⟩ o3,k _ ⟨_,a6⟩ o4,k _ ⟨_,a7⟩ o5,fun x hx=>k _ (let ⟨_,z⟩:=a5.has hx;⟨_,z⟩) (o6 x hx)⟩
theorem ShAt.same{C:Addr}{ok:Addr->Prop}{H H':Hp}{q:Addr}{s:Zt}(h:ShAt C ok H q s)(e:Same H H'):ShAt C ok H' q s:=h.keep (fun _ _ _ q=>e _ _ q) fun _ _ q=>e _ _ q
noncomputable def ShO(C:Addr)(ok:Addr->Prop)(H:Hp)(v:V)(s:Option Zt):Prop:=match s with|none=>v=.non|some s=>∃ q,v=.ref q/\ShAt C ok H q s
theorem ShO.keep{C:Addr}{ok:Addr->Prop}{H H':Hp}{v:V}{s:Option Zt}(h:ShO C ok H v s)(k:∀ x o,ok x->H x=some o->H' x=some o)(kt:∀ t xs,H t=some (.tup xs)->H' t=some (.tup xs)):ShO C ok H' v s:=by
 cases s with
 | none=>exact h
 | some s=>obtain⟨q,e,h⟩:=h;exact⟨q,e,h.keep k kt⟩
theorem ShO.imp{C:Addr}{ok ok':Addr->Prop}{H:Hp}{v:V}{s:Option Zt}(h:ShO C ok H v s)(k:∀ x,(∃ o,H x=some o)->ok x->ok' x):ShO C ok' H v s:=by
 cases s with
 | none=>exact h
 | some s=>obtain⟨q,e,h⟩:=h;exact⟨q,e,h.imp k⟩
inductive ShL(C:Addr)(ok:Addr->Prop)(H:Hp):List V->List Zt->Prop where
 | nil:ShL C ok H [] []
 | cons {q:Addr} {s:Zt} {vs:List V} {ss:List Zt} (h:ShAt C ok H q s) (r:ShL C ok H vs ss):ShL C ok H (.ref q :: vs) (s :: ss)
theorem ShL.keep{C:Addr}{ok:Addr->Prop}{H H':Hp}(k:∀ x o,ok x->H x=some o->H' x=some o)(kt:∀ t xs,H t=some (.tup xs)->H' t=some (.tup xs)):∀ {vs:List V} {ss:List Zt},ShL C ok H vs ss->ShL C ok H' vs ss
 | _,_,.nil=>.nil
 | _,_,.cons h r=>.cons (h.keep k kt) (ShL.keep k kt r)
theorem ShL.imp{C:Addr}{ok ok':Addr->Prop}{H:Hp}(k:∀ x,(∃ o,H x=some o)->ok x->ok' x):∀ {vs:List V} {ss:List Zt},ShL C ok H vs ss->ShL C ok' H vs ss
 | _,_,.nil=>.nil
 | _,_,.cons h r=>.cons (h.imp k) (ShL.imp k r)
theorem ShL.length{C:Addr}{ok:Addr->Prop}{H:Hp}:∀ {vs:List V} {ss:List Zt},ShL C ok H vs ss->vs.length=ss.length
 | _,_,.nil=>rfl
 | _,_,.cons _ r=>by simp[ShL.length r]
theorem ShL.snoc{C:Addr}{ok:Addr->Prop}{H:Hp}{q:Addr}{s:Zt}(h:ShAt C ok H q s):∀ {vs:List V} {ss:List Zt},ShL C ok H vs ss->ShL C ok H (vs++[.ref q]) (ss++[s])
 | _,_,.nil=>.cons h .nil
 | _,_,.cons h' r=>.cons h' (ShL.snoc h r)
theorem ShL.getR{C:Addr}{ok:Addr->Prop}{H:Hp}:∀ {vs:List V} {ss:List Zt} {i:Nat} {s:Zt},ShL C ok H vs ss->ss[i]?=some s->∃ q,vs[i]?=some (.ref q)/\ShAt C ok H q s
 | _,_,_,_,.nil,e=>by simp at e
 | _,_,0,_,.cons h _,e=>by simp at e;subst e;exact⟨_,rfl,h⟩
 | _,_,i+1,x,.cons _ r,e=>by
   obtain⟨t,h1,h2⟩:=ShL.getR (i:=i) (s:=x) r (by simpa using e)
   exact⟨t,by simpa using h1,h2⟩
noncomputable abbrev U4:=Str×Int×Int
noncomputable def Pm(d:U4):List V:=[.str d.1,.int d.2.1,.int d.2.2]
inductive Uw(C:Addr)(ok:Addr->Prop)(H:Hp):List V->List (U4×Option Zt)->Prop where
 | nil:Uw C ok H [] []
 | cons {t u:Addr} {v:V} {d:U4} {s:Option Zt} {vs:List V} {ss:List (U4×Option Zt)} (h:H t=some (.tup [.ref u,v])) (hu:H u=some (.tup (Pm d))) (hs:ShO C ok H v s) (r:Uw C ok H vs ss):Uw C ok H (.ref t :: vs) ((d,s) :: ss)
theorem Uw.keep{C:Addr}{ok:Addr->Prop}{H H':Hp}(k:∀ x o,ok x->H x=some o->H' x=some o)(kt:∀ t xs,H t=some (.tup xs)->H' t=some (.tup xs)):∀ {vs:List V} {ss:List (U4×Option Zt)},Uw C ok H vs ss->Uw C ok H' vs ss
 | _,_,.nil=>.nil
 | _,_,.cons h hu hs r=>.cons (kt _ _ h) (kt _ _ hu) (hs.keep k kt) (Uw.keep k kt r)
theorem Uw.length{C:Addr}{ok:Addr->Prop}{H:Hp}:∀ {vs:List V} {ss:List (U4×Option Zt)},Uw C ok H vs ss->vs.length=ss.length
 | _,_,.nil=>rfl
 | _,_,.cons _ _ _ r=>by simp[Uw.length r]
theorem Uw.snoc{C:Addr}{ok:Addr->Prop}{H:Hp}{t u:Addr}{v:V}{d:U4}{s:Option Zt}(h:H t=some (.tup [.ref u,v]))(hu:H u=some (.tup (Pm d)))(hs:ShO C ok H v s):∀ {vs:List V} {ss:List (U4×Option Zt)},Uw C ok H vs ss->Uw C ok H (vs++[.ref t]) (ss++[(d,s)])
 | _,_,.nil=>.cons h hu hs .nil
 | _,_,.cons h' hu' hs' r=>.cons h' hu' hs' (Uw.snoc h hu hs r)
theorem Uw.unsnoc{C:Addr}{ok:Addr->Prop}{H:Hp}{d:U4}{s:Option Zt}:∀ {vs:List V} {ss:List (U4×Option Zt)},Uw C ok H vs (ss++[(d,s)])->∃ vs' t u v,vs=vs'++[.ref t]/\H t=some (.tup [.ref u,v])/\H u=some (.tup (Pm d))/\ShO C ok H v s/\Uw C ok H vs' ss
 | _,[],.cons h hu hs .nil=>⟨[],_,_,_,rfl,h,hu,hs,.nil⟩
 | _,_ :: _,.cons h hu hs r=>by
   obtain⟨vs',t,u,v,e,a1,a2,a3,a4⟩:=Uw.unsnoc r;exact⟨_ :: vs',t,u,v,by rw[e];rfl,a1,a2,a3,.cons h hu hs a4⟩
structure Sea where
 len:Nat
 rest:Nat
 ppl:RL
 led:List (List Row)
 out:List (Int×Int)
 old:List Zt
 cur:Option Zt
 std:List (U4×Option Zt)
structure SAd where
 p:Addr
 pr:Addr
 dr:Addr
 pl:Addr
 lr:Addr
 ld:Addr
 da:Addr
 ls:Addr
 lt:Addr
noncomputable def SAd.fp(A:SAd):List Addr:=[A.p,A.dr,A.lr,A.ld,A.da,A.ls,A.lt]
noncomputable def seaF(A:SAd)(len rest:Nat)(v:V):List (Str×V):=[("length",.int len),("rest",.int rest),("roster",.ref A.pr),("ledger",.ref A.pl),("absent",.ref A.da),("sheets",.ref A.ls),("sheet",v),("standing",.ref A.lt)]
noncomputable def R9(kvs:List (List Key×V))(out:List (Int×Int)):Prop:=(∀ at_ n:Int,(valV kvs [Sum.inl at_,Sum.inl n]).isSome=decide ((at_,n)∈out))/\kvs.length<=out.length
structure Zy(ca:CA)(H:Hp)(A:SAd)(S:Sea):Prop where
 obj:∃ dx v,H A.p=some (.ins ca.season dx (seaF A S.len S.rest v))/\ShO ca.sheet (·∉A.fp) H v S.cur
 ros:Xj ca.roster H A.pr A.dr S.ppl
 led:Ur ca.ledger H A.pl A.lr A.ld S.led
 out:∃ kvs,H A.da=some (.dT kvs)/\R9 kvs S.out
 old:∃ vs,H A.ls=some (.lst vs)/\ShL ca.sheet (·∉A.fp) H vs S.old
 std:∃ vs,H A.lt=some (.lst vs)/\Uw ca.sheet (·∉A.fp) H vs S.std
 nd:A.fp.Nodup
 np:A.pr∉A.fp/\A.pl∉A.fp
noncomputable def FrS(A:SAd)(H H':Hp):Prop:=∀ b o,H b=some o->b∉A.fp->H' b=some o
end G

namespace L2
open PySem PySem.Spec PyProof.Rows
theorem Dj{X:Cx}{K:PySem.W.Frag}(hK:X.K=K):OpR X (binaryOp .Add) (zgp K):=hK▸zfg
end L2
namespace G
open PySem PySem.Spec PyProof.Rows L2
theorem it2{p:Prop}[Decidable p]{A B A' B':Prop}(h:if p then A else B)(h1:p->A->A')(h2:¬ p->B->B'):if p then A' else B':=by
 by_cases z:p
 ·rw[if_pos z] at h ⊢;exact h1 z h
 ·rw[if_neg z] at h ⊢;exact h2 z h
theorem zbp{κ:Type}[DecidableEq κ]{kvs:List (κ×V)}{k:κ}{v:V}(h:valV kvs k=none):putK kvs k v=kvs++[(k,v)]:=by
 unfold putK;rw[if_neg];intro z;rw[Si,h] at z
 cases z
inductive Dk(C:Addr)(vs:List V)(H:Hp)(Q:VK)(_:XK):Prop where
 | mk(p lr ld:Addr)(Rs:List (List Row))(b:Addr)(ts:List V)(rs:List Row)(_:vs=[.ref p,.ref b])(_:Ur C H p lr ld Rs)(_:H b=some (.lst ts))(_:b≠lr)(_:TupL H ts (rs.map Fg))(_:2*(tot Rs+rs.length)<=100000)(_:Rs.length<=1000)(_:∀ H',Ur C H' p lr ld (Rs++[rs])->(∀ b o,H b=some o->b≠lr->b≠ld->H' b=some o)->Q .non H')
noncomputable def zac(ok:Addr->Prop)(H:Hp):Prop:=∀ x,H x=none->ok x
inductive O3(ca:CA)(vs:List V)(H:Hp)(Q:VK)(_:XK):Prop where
 | mk(q)(dx)(l1)(l2)(l3)(l4)(_:vs=[.ref q,.ref l1,.ref l2,.ref l3,.ref l4])(_:H q=some (.ins ca.sheet dx []))(_:∀ H',H'=upd H q (.ins ca.sheet dx (shF l1 l2 l3 l4))->Q .non H')
theorem Qv{l1 l2 l3 l4:Addr}:List.lookup ("listed":Str) (shF l1 l2 l3 l4)=some (.ref l1):=by unfold shF;simp only[zz1,beq_self_eq_true]
theorem Qa{l1 l2 l3 l4:Addr}:List.lookup ("given":Str) (shF l1 l2 l3 l4)=some (.ref l3):=by
 have e:(("given":Str) == "listed")=false:=by decide +kernel
 have e2:(("given":Str) == "lists")=false:=by decide +kernel
 unfold shF;simp only[zz1,e,e2,beq_self_eq_true]
theorem Fj{l1 l2 l3 l4:Addr}:List.lookup ("gaps":Str) (shF l1 l2 l3 l4)=some (.ref l4):=by
 have e:(("gaps":Str) == "listed")=false:=by decide +kernel
 have e2:(("gaps":Str) == "lists")=false:=by decide +kernel
 have e3:(("gaps":Str) == "given")=false:=by decide +kernel
 unfold shF;simp only[zz1,e,e2,e3,beq_self_eq_true]
theorem S5{l1 l2 l3 l4:Addr}{m:Str}(h1:¬ m="listed")(h2:¬ m="lists")(h3:¬ m="given")(h4:¬ m="gaps"):List.lookup m (shF l1 l2 l3 l4)=none:=by
 have e1:(m == "listed")=false:=zzn.mpr h1;have e2:(m == "lists")=false:=zzn.mpr h2;have e3:(m == "given")=false:=zzn.mpr h3;have e4:(m == "gaps")=false:=zzn.mpr h4;unfold shF;simp only[zz1,e1,e2,e3,e4,List.lookup_nil]
theorem zkg{x y:V}:putF "lists" y [(("listed":Str),x)]=([("listed",x),("lists",y)]:List (Str×V)):=by
 have n1:¬ (("listed":Str)="lists"):=by decide +kernel
 simp only[putF,if_neg n1]
theorem zkh{x y z:V}:putF "given" z [(("listed":Str),x),("lists",y)]=([("listed",x),("lists",y),("given",z)]:List (Str×V)):=by
 have n1:¬ (("listed":Str)="given"):=by decide +kernel
 have n2:¬ (("lists":Str)="given"):=by decide +kernel
 simp only[putF,if_neg n1,if_neg n2]
theorem zki{x y z w:V}:putF "gaps" w [(("listed":Str),x),("lists",y),("given",z)]=([("listed",x),("lists",y),("given",z),("gaps",w)]:List (Str×V)):=by
 have n1:¬ (("listed":Str)="gaps"):=by decide +kernel
 have n2:¬ (("lists":Str)="gaps"):=by decide +kernel
 have n3:¬ (("given":Str)="gaps"):=by decide +kernel
 simp only[putF,if_neg n1,if_neg n2,if_neg n3]
theorem P6{C:Addr}{H1:Hp}{q dx l1 l2 l3 l4:Addr}(hq:H1 q=none)(hdx:H1 dx=none)(ne:dx≠q):Same H1 (upd (upd (upd H1 dx (.own q)) q (.ins C dx [])) q (.ins C dx (shF l1 l2 l3 l4)))/\upd (upd (upd H1 dx (.own q)) q (.ins C dx [])) q (.ins C dx (shF l1 l2 l3 l4)) q=some (.ins C dx (shF l1 l2 l3 l4)):=by
 refine⟨fun b o e=>?_,Zb⟩
 rw[Zh (Zg e hq),Zh (Zg e hq),Zh (Zg e hdx)];exact e
inductive Dl(ca:CA)(vs:List V)(H:Hp)(Q:VK)(_:XK):Prop where
 | mk(ok:Addr->Prop)(q l2:Addr)(ls:List Addr)(rows:List (List Int))(s:Zt)(_:vs=[.ref q,.ref l2])(_:ShAt ca.sheet ok H q s)(_:H l2=some (.lst (ls.map V.ref)))(_:ILs H ls rows)(_:ok l2)(_:(∀ x∈ls,ok x))(_:zac ok H)(_:∀ q' H',ShAt ca.sheet ok H' q' { s with may:=rows }->Same H H'->H q'=none->Q (.ref q') H')
inductive Dm(ca:CA)(vs:List V)(H:Hp)(Q:VK)(_:XK):Prop where
 | mk(ok:Addr->Prop)(q l2:Addr)(ls:List Addr)(rows:List (List Int))(nu:List Int)(s:Zt)(n:Int)(p:Nat)(_:vs=[.ref q,.int n,.ref l2])(_:ShAt ca.sheet ok H q s)(_:H l2=some (.lst (ls.map V.ref)))(_:ILs H ls rows)(_:ok l2)(_:(∀ x∈ls,ok x))(_:zac ok H)(_:Kt rows nu)(_:(∀ x∈s.gv,oneV x))(_:s.gv[p]?=some (.int n))(_:(∀ j:Nat,s.gv[j]?=some (.int n)->j=p))(_:Yh rows (s.gv.set p .non))(_:s.gaps.length<=1000)(_:∀ q' st e w H',ShAt ca.sheet ok H' q' ⟨s.ms,rows,Yq st (s.gv.set p .non),s.gaps++[(n,st)]⟩->Xi rows (s.gv.set p .non) p st e w->Same H H'->H q'=none->Q (.ref q') H')
inductive zad(ca:CA)(vs:List V)(H:Hp)(Q:VK)(_:XK):Prop where
 | mk(ok:Addr->Prop)(l1 l2:Addr)(ts:List V)(ls:List Addr)(ms:List (Int×Int×Int))(rows:List (List Int))(nu:List Int)(_:vs=[.ref l1,.ref l2])(_:H l1=some (.lst ts))(_:TupL H ts (ms.map pV))(_:H l2=some (.lst (ls.map V.ref)))(_:ILs H ls rows)(_:ok l1)(_:ok l2)(_:(∀ x∈ls,ok x))(_:zac ok H)(_:Kt rows nu)(_:∀ q gv H',ShAt ca.sheet ok H' q ⟨ms,rows,gv,[]⟩->Yh rows gv->Vc rows gv->Same H H'->H q=none->Q (.ref q) H')
inductive Mz(ca:CA)(vs:List V)(H:Hp)(Q:VK)(_:XK):Prop where
 | mk(ok:Addr->Prop)(q:Addr)(s:Zt)(_:vs=[.ref q])(_:ShAt ca.sheet ok H q s)(_:∀ l ts H',H' l=some (.lst ts)->TupL H' ts (s.ms.map pV)->Same H H'->H l=none->Q (.ref l) H')
inductive Ky(ca:CA)(vs:List V)(H:Hp)(Q:VK)(_:XK):Prop where
 | mk(ok:Addr->Prop)(q:Addr)(s:Zt)(_:vs=[.ref q])(_:ShAt ca.sheet ok H q s)(_:∀ l H',H' l=some (.lst s.gv)->Same H H'->H l=none->Q (.ref l) H')
inductive N6(ca:CA)(vs:List V)(H:Hp)(Q:VK)(_:XK):Prop where
 | mk(ok:Addr->Prop)(q:Addr)(s:Zt)(n:Int)(_:vs=[.ref q,.int n])(_:ShAt ca.sheet ok H q s)(_:(∀ x∈s.gv,oneV x))(_:s.gv.length<=100)(_:∀ H',Same H H'->Q (oN (Wr s.gv n)) H')
noncomputable def Dp(m:Int×Int×Int)(x:V):Row:=⟨m.1,m.2.1,m.2.2,zjv (some x)⟩
noncomputable def Ye(s:Zt):List Row:=List.zipWith Dp s.ms s.gv
inductive Dq(ca:CA)(vs:List V)(H:Hp)(Q:VK)(_:XK):Prop where
 | mk(ok:Addr->Prop)(q:Addr)(s:Zt)(_:vs=[.ref q])(_:ShAt ca.sheet ok H q s)(_:(∀ x∈s.gv,oneV x))(_:s.gv.length=s.ms.length)(_:s.ms.length<=1000)(_:∀ l ts H',H' l=some (.lst ts)->TupL H' ts ((Ye s).map Fg)->Same H H'->H l=none->Q (.ref l) H')
inductive Kz(ca:CA)(vs:List V)(H:Hp)(Q:VK)(_:XK):Prop where
 | mk(ok:Addr->Prop)(q:Addr)(s:Zt)(_:vs=[.ref q])(_:ShAt ca.sheet ok H q s)(_:s.gaps.length<=1000)(_:∀ l ts H',H' l=some (.lst ts)->Wn (fun x=>H x=none/\x≠l) H' ts s.gaps->Same H H'->H l=none->Q (.ref l) H')
theorem K0{K:PySem.W.Frag}{a:Addr}{xs:List V}{xo:List Str}{js:List Nat}{g:TG}{tt:TT}{te:TE}{σ:L2.St}{H:Hp}{Q:VK}(Pv:Nat->List V->Hp->Prop)(h0:Pv 0 [] H)(hl:∀ i ys H,i<=xs.length->Pv i ys H->SqL K H a xs)(hz:xs.length<=sizeLine)(hy:∀ i ys H,Pv i ys H->ys.length<=i)
  (hs:∀ i x ys H,xs[i]?=some x->Pv i ys H->g x (cs0 xo js σ) H fun σ2 H1=>Qu xo js σ σ2/\tt σ2 H1 fun b H2=>if b=true then te σ2 H2 fun y H3=>Pv (i+1) (ys++[y]) H3 else Pv (i+1) ys H2)
  (hd:∀ ys H,Pv xs.length ys H->∀ p,H p=none->Q (.ref p) (upd H p (.lst ys))):Bq (Itl K a) xo js g tt te σ H Q:=by
 refine⟨fun i m ys H=>m=xs.length-i/\i<=xs.length/\Pv i ys H,⟨xs.length,by simp,zzs _,h0⟩,?_⟩
 rintro i m ys H ⟨rfl,hi,p⟩;have q:=hl i ys H hi p;have ly:=hy i ys H p;by_cases hlt:i<xs.length
 ·refine .inr ⟨⟨xs,xs[i],q,by simp[hlt]⟩,by omega,Pv (i+1),fun ys' H' p'=>⟨xs.length-(i+1),by omega,rfl,hlt,p'⟩,fun x H' y=>?_⟩
  obtain⟨e,y⟩:=y;subst e;exact hs i x ys _ (y xs q) p
 ·have e:i=xs.length:=by omega
  subst e;exact .inl ⟨⟨xs,q,zza _⟩,by omega,hd ys H p⟩
theorem zbq{K:PySem.W.Frag}{a b:Addr}{xs zs:List V}{xo:List Str}{js:List Nat}{g:TG}{tt:TT}{te:TE}{σ:L2.St}{H:Hp}{Q:VK}(Pv:Nat->List V->Hp->Prop)(h0:Pv 0 [] H)(he:xs.length=zs.length)(hl:∀ i ys H,i<=xs.length->Pv i ys H->SqL K H a xs/\SqL K H b zs)(hz:xs.length<=sizeLine)(hy:∀ i ys H,Pv i ys H->ys.length<=i)
  (hs:∀ i x z t ys H,xs[i]?=some x->zs[i]?=some z->Pv i ys H->H t=none->g (.ref t) (cs0 xo js σ) (upd H t (.tup [x,z])) fun σ2 H1=>Qu xo js σ σ2/\tt σ2 H1 fun b H2=>if b=true then te σ2 H2 fun y H3=>Pv (i+1) (ys++[y]) H3 else Pv (i+1) ys H2)
  (hd:∀ ys H,Pv xs.length ys H->∀ p,H p=none->Q (.ref p) (upd H p (.lst ys))):Bq (Itz K a b) xo js g tt te σ H Q:=by
 refine⟨fun i m ys H=>m=xs.length-i/\i<=xs.length/\Pv i ys H,⟨xs.length,by simp,zzs _,h0⟩,?_⟩
 rintro i m ys H ⟨rfl,hi,p⟩;obtain⟨q1,q2⟩:=hl i ys H hi p;have ly:=hy i ys H p;by_cases hlt:i<xs.length
 ·refine .inr ⟨⟨xs,zs,xs[i],zs[i]'(by omega),q1,q2,by simp[hlt],by rw[zy1 (by omega)]⟩,by omega,Pv (i+1),fun ys' H' p'=>⟨xs.length-(i+1),by omega,rfl,hlt,p'⟩,fun x H' y=>?_⟩
  obtain⟨t,y,z,h1,h2,h3,rfl,rfl⟩:=y;exact hs i y z t ys _ (h2 xs q1) (h3 zs q2) p h1
 ·have e:i=xs.length:=by omega
  subst e;exact .inl ⟨⟨xs,zs,q1,q2,.inl (zza _)⟩,by omega,hd ys H p⟩
theorem zh8(m:Int×Int×Int){x:V}(h:oneV x):Fg (Dp m x)=[V.int m.1,V.int m.2.1,V.int m.2.2,x]:=by
 rcases h with rfl|⟨i,rfl⟩<;>rfl
theorem zbr{s:Zt}{i:Nat}{m:Int×Int×Int}{x:V}(hm:s.ms[i]?=some m)(hx:s.gv[i]?=some x):(Ye s).take (i+1)=(Ye s).take i++[Dp m x]:=by
 have:(Ye s)[i]?=some (Dp m x):=by
  unfold Ye;rw[List.getElem?_zipWith,hm,hx]
 rw[zz6,this];rfl
theorem Dr{s:Zt}(h:s.gv.length=s.ms.length):(Ye s).length=s.ms.length:=by
 unfold Ye;rw[List.length_zipWith,h,Nat.min_self]
section
variable{ca:CA}{H H':Hp}{A:SAd}{S:Sea}{l:Nat}{r:Nat}{v:V}
theorem Ds(A:SAd)(l r:Nat)(v:V):List.lookup ("length":Str) (seaF A l r v)=some (.int l)/\List.lookup ("rest":Str) (seaF A l r v)=some (.int r)/\List.lookup ("roster":Str) (seaF A l r v)=some (.ref A.pr)/\List.lookup ("ledger":Str) (seaF A l r v)=some (.ref A.pl)/\List.lookup ("absent":Str) (seaF A l r v)=some (.ref A.da)/\List.lookup ("sheets":Str) (seaF A l r v)=some (.ref A.ls)/\List.lookup ("sheet":Str) (seaF A l r v)=some v/\List.lookup ("standing":Str) (seaF A l r v)=some (.ref A.lt):=by
 have d:∀ a b:Str,decide (a=b)=false->(a == b)=false:=fun a b h=>zzn.mpr (of_decide_eq_false h)
 have e1:=d "rest" "length" (by decide +kernel)
 have e2:=d "roster" "length" (by decide +kernel)
 have e3:=d "roster" "rest" (by decide +kernel)
 have f1:=d "ledger" "length" (by decide +kernel)
 have f2:=d "ledger" "rest" (by decide +kernel)
 have f3:=d "ledger" "roster" (by decide +kernel)
 have g1:=d "absent" "length" (by decide +kernel)
 have g2:=d "absent" "rest" (by decide +kernel)
 have g3:=d "absent" "roster" (by decide +kernel)
 have g4:=d "absent" "ledger" (by decide +kernel)
 have h1:=d "sheets" "length" (by decide +kernel)
 have h2:=d "sheets" "rest" (by decide +kernel)
 have h3:=d "sheets" "roster" (by decide +kernel)
 have h4:=d "sheets" "ledger" (by decide +kernel)
 have h5:=d "sheets" "absent" (by decide +kernel)
 have i1:=d "sheet" "length" (by decide +kernel)
 have i2:=d "sheet" "rest" (by decide +kernel)
 have i3:=d "sheet" "roster" (by decide +kernel)
 have i4:=d "sheet" "ledger" (by decide +kernel)
 have i5:=d "sheet" "absent" (by decide +kernel)
 have i6:=d "sheet" "sheets" (by decide +kernel)
 have j1:=d "standing" "length" (by decide +kernel)
 have j2:=d "standing" "rest" (by decide +kernel)
 have j3:=d "standing" "roster" (by decide +kernel)
 have j4:=d "standing" "ledger" (by decide +kernel)
 have j5:=d "standing" "absent" (by decide +kernel)
 have j6:=d "standing" "sheets" (by decide +kernel)
 have j7:=d "standing" "sheet" (by decide +kernel)
 unfold seaF;refine⟨?_,?_,?_,?_,?_,?_,?_,?_⟩<;>simp only[zz1,beq_self_eq_true,e1,e2,e3,f1,f2,f3,g1,g2,g3,g4,h1,h2,h3,h4,h5,i1,i2,i3,i4,i5,i6,j1,j2,j3,j4,j5,j6,j7]
theorem Gs:List.lookup ("length":Str) (seaF A l r v)=some (.int l):=(Ds A l r v).1
theorem zfu:List.lookup ("rest":Str) (seaF A l r v)=some (.int r):=(Ds A l r v).2.1
theorem V9:List.lookup ("roster":Str) (seaF A l r v)=some (.ref A.pr):=(Ds A l r v).2.2.1
theorem Tj:List.lookup ("ledger":Str) (seaF A l r v)=some (.ref A.pl):=(Ds A l r v).2.2.2.1
theorem Qw:List.lookup ("absent":Str) (seaF A l r v)=some (.ref A.da):=(Ds A l r v).2.2.2.2.1
theorem Gu:List.lookup ("sheets":Str) (seaF A l r v)=some (.ref A.ls):=(Ds A l r v).2.2.2.2.2.1
theorem Wt:List.lookup ("sheet":Str) (seaF A l r v)=some v:=(Ds A l r v).2.2.2.2.2.2.1
theorem T1:List.lookup ("standing":Str) (seaF A l r v)=some (.ref A.lt):=(Ds A l r v).2.2.2.2.2.2.2
theorem Yo{m:Str}(h:(["length","rest","roster","ledger","absent","sheets","sheet","standing"]:List Str).all (fun x=>!decide (m=x))=true):List.lookup m (seaF A l r v)=none:=by
 simp only[List.all_cons,List.all_nil,Bool.and_true,z0f,Bool.not_eq_true',decide_eq_false_iff_not] at h
 obtain⟨h1,h2,h3,h4,h5,h6,h7,h8⟩:=h;have e:∀ x:Str,¬ m=x->(m == x)=false:=fun x z=>zzn.mpr z
 unfold seaF;simp only[zz1,e _ h1,e _ h2,e _ h3,e _ h4,e _ h5,e _ h6,e _ h7,e _ h8,List.lookup_nil]
theorem Zy.same(h:Zy ca H A S)(e:Same H H'):Zy ca H' A S:=by
 obtain⟨⟨dx,v,a1,a2⟩,b,c,⟨kvs,d1,d2⟩,⟨vs,f1,f2⟩,⟨us,g1,g2⟩,nd,np⟩:=h;have k:∀ x o,x∉A.fp->H x=some o->H' x=some o:=fun _ _ _ q=>e _ _ q
 have kt:∀ t xs,H t=some (.tup xs)->H' t=some (.tup xs):=fun _ _ q=>e _ _ q
 exact⟨⟨dx,v,e _ _ a1,a2.keep k kt⟩,b.same e,c.same e,⟨kvs,e _ _ d1,d2⟩,⟨vs,e _ _ f1,f2.keep k kt⟩,⟨us,e _ _ g1,g2.keep k kt⟩,nd,np⟩
theorem FrS.of(A:SAd)(e:Same H H'):FrS A H H':=fun b o q _=>e b o q
theorem FrS.trans{H2:Hp}(h1:FrS A H H')(h2:FrS A H' H2):FrS A H H2:=fun b o e n=>h2 b o (h1 b o e n) n
theorem Zy.there(h:Zy ca H A S):∀ x∈A.fp,∃ o,H x=some o:=by
 obtain⟨⟨dx,v,a1,_⟩,⟨⟨_,_,_,b2,_⟩,_⟩,⟨_,⟨rs,c2,_⟩,⟨ks,c3,_⟩⟩,⟨kvs,d1,_⟩,⟨vs,f1,_⟩,⟨us,g1,_⟩,nd,np⟩:=h;intro x hx;simp only[SAd.fp,zy8,zzz,or_false] at hx
 rcases hx with rfl|rfl|rfl|rfl|rfl|rfl|rfl
 ·exact⟨_,a1⟩
 ·exact⟨_,b2⟩
 ·exact⟨_,c2⟩
 ·exact⟨_,c3⟩
 ·exact⟨_,d1⟩
 ·exact⟨_,f1⟩
 ·exact⟨_,g1⟩
theorem Zy.newOk(h:Zy ca H A S):zac (·∉A.fp) H:=fun x hx hm=>by
 obtain⟨o,e⟩:=h.there x hm;rw[e] at hx;cases hx
theorem Zy.tups(h:Zy ca H A S)(f:FrS A H H'):∀ t xs,H t=some (.tup xs)->H' t=some (.tup xs):=fun t xs e=>f t _ e fun hm=>by
 obtain⟨⟨dx,v,a1,_⟩,⟨⟨_,_,_,b2,_⟩,_⟩,⟨_,⟨rs,c2,_⟩,⟨ks,c3,_⟩⟩,⟨kvs,d1,_⟩,⟨vs,f1,_⟩,⟨us,g1,_⟩,nd,np⟩:=h;simp only[SAd.fp,zy8,zzz,or_false] at hm
 rcases hm with rfl|rfl|rfl|rfl|rfl|rfl|rfl
 ·rw[a1] at e;cases e
 ·rw[b2] at e;cases e
 ·rw[c2] at e;cases e
 ·rw[c3] at e;cases e
 ·rw[d1] at e;cases e
 ·rw[f1] at e;cases e
 ·rw[g1] at e;cases e
end
noncomputable def atV(S:Sea):Int:=(S.led.length:Int)+1
inductive Us(ca:CA)(vs:List V)(H:Hp)(Q:VK)(_:XK):Prop where
 | mk(A:SAd)(S:Sea)(_:vs=[.ref A.p])(_:Zy ca H A S)(_:Q (.int (atV S)) H)
inductive N7(ca:CA)(vs:List V)(H:Hp)(Q:VK)(E:XK):Prop where
 | mk(A:SAd)(S:Sea)(_:vs=[.ref A.p])(_:Zy ca H A S)(_:if S.len<=S.led.length then E (.ref ca.seaOver) none H else Q .non H)
inductive N8(ca:CA)(vs:List V)(H:Hp)(Q:VK)(E:XK):Prop where
 | mk(A:SAd)(S:Sea)(_:vs=[.ref A.p])(_:Zy ca H A S)(_:if S.len<=S.led.length then E (.ref ca.seaOver) none H else if S.cur.isSome then E (.ref ca.drawn) none H else Q .non H)
inductive Fl(ca:CA)(vs:List V)(H:Hp)(Q:VK)(E:XK):Prop where
 | mk(A:SAd)(S:Sea)(at_:Int)(_:vs=[.ref A.p,.int at_])(_:Zy ca H A S)(_:Y1 at_)(_:if at_<1\/(S.len:Int)<at_ then E (.ref ca.noRound) none H else Q .non H)
inductive Fm(ca:CA)(vs:List V)(H:Hp)(Q:VK)(E:XK):Prop where
 | mk(A:SAd)(S:Sea)(_:vs=[.ref A.p])(_:Zy ca H A S)(_:if 100<=S.std.length then E (.ref ca.manyD) none H else Q .non H)
inductive Fn(ca:CA)(vs:List V)(H:Hp)(Q:VK)(_:XK):Prop where
 | mk(A:SAd)(S:Sea)(w:Str)(n at_:Int)(_:vs=[.ref A.p,.str w,.int n,.int at_])(_:Zy ca H A S)(_:S.std.length<=1000)(_:∀ H',Zy ca H' A { S with std:=S.std++[((w,n,at_),S.cur)] }->FrS A H H'->Q .non H')
inductive P8(ca:CA)(vs:List V)(H:Hp)(Q:VK)(E:XK):Prop where
 | mk(A:SAd)(S:Sea)(_:vs=[.ref A.p])(_:Zy ca H A S)(_:(S.cur=none->E (.ref ca.notDrawn) none H))(_:∀ s q,S.cur=some s->ShAt ca.sheet (·∉A.fp) H q s->Q (.ref q) H)
noncomputable def Vo(S:Sea)(at_:Int):Option Zt:=if at_<=S.led.length then S.old[(at_-1).toNat]? else if (S.led.length:Int)+1<at_ then none else S.cur
inductive Gv(ca:CA)(vs:List V)(H:Hp)(Q:VK)(E:XK):Prop where
 | mk(A:SAd)(S:Sea)(at_:Int)(_:vs=[.ref A.p,.int at_])(_:Zy ca H A S)(_:Y1 at_)(_:S.old.length=S.led.length)(_:if at_<1\/(S.len:Int)<at_ then E (.ref ca.noRound) none H else (Vo S at_=none->E (.ref ca.notDrawn) none H)/\∀ s q,Vo S at_=some s->ShAt ca.sheet (·∉A.fp) H q s->Q (.ref q) H)
noncomputable def pIn(out:List (Int×Int))(at_:Int)(m:P3):Bool:=decide ((at_,m.1)∈out)
noncomputable def K1(S:Sea)(m:P3):List Int:=(S.ppl.filter fun x=>(whyS S.led x.1 x.2.1 x.2.2 m.1 m.2.1 m.2.2 (pIn S.out (atV S) x) S.rest).isEmpty).map (·.1)
noncomputable def mayS(S:Sea)(ms:List P3):List (List Int):=ms.map (K1 S)
inductive P9(ca:CA)(vs:List V)(H:Hp)(Q:VK)(_:XK):Prop where
 | mk(A:SAd)(S:Sea)(l:Addr)(ts:List V)(ms:List P3)(_:vs=[.ref A.p,.ref l])(_:Zy ca H A S)(_:H l=some (.lst ts))(_:TupL H ts (ms.map pV))(_:ms.length<=100)(_:S.ppl.length<=100)(_:(∀ x∈S.ppl,Y1 x.1))(_:∀ l' ls H',H' l'=some (.lst (ls.map V.ref))->ILs H' ls (mayS S ms)->Same H H'->H l'=none->(∀ x∈ls,H x=none)->Q (.ref l') H')
noncomputable def badM(m:P3):Prop:=m.1<1\/99<m.1\/m.2.1<1\/99<m.2.1\/m.2.2<1\/9<m.2.2
noncomputable def S6(Ms:List P3):Prop:=∃ m∈Ms,badM m
noncomputable def S7(Ms:List P3):Prop:=∃ m∈Ms,m.1=m.2.1
noncomputable def Fo(m:P3):Prop:=Y1 m.1/\Y1 m.2.1/\Y1 m.2.2
theorem Gw{p:P3->Prop}{Ms:List P3}{i:Nat}{m:P3}(e:Ms[i]?=some m)(h:∀ x∈Ms.take i,¬ p x)(hm:¬ p m):∀ x∈Ms.take (i+1),¬ p x:=fun x hx=>by
 rw[zz6,e] at hx
 rcases zy6.mp hx with q|q
 ·exact h x q
 ·simp at q;subst q;exact hm
inductive Du(K:PySem.W.Frag)(ca:CA)(vs:List V)(H:Hp)(Q:VK)(E:XK):Prop where
 | mk(b)(ts)(_:vs=[.ref b])(_:SqL K H b ts)(_:ts.length<=1000)(_:(20<ts.length->E (.ref ca.manyM) none H))(_:(ts.length<=20->Q .non H))
inductive Gx(K:PySem.W.Frag)(ca:CA)(vs:List V)(H:Hp)(Q:VK)(E:XK):Prop where
 | mk(b:Addr)(ts:List V)(Ms:List P3)(_:vs=[.ref b])(_:SqL K H b ts)(_:TupL H ts (Ms.map pV))(_:(∀ m∈Ms,Fo m))(_:(S6 Ms->E (.ref ca.out) none H))(_:(¬ S6 Ms->Q .non H))
inductive Dv(K:PySem.W.Frag)(ca:CA)(vs:List V)(H:Hp)(Q:VK)(E:XK):Prop where
 | mk(b:Addr)(ts:List V)(Ms:List P3)(_:vs=[.ref b])(_:SqL K H b ts)(_:TupL H ts (Ms.map pV))(_:(∀ m∈Ms,Fo m))(_:(S7 Ms->E (.ref ca.same) none H))(_:(¬ S7 Ms->Q .non H))
inductive K2(K:PySem.W.Frag)(ca:CA)(vs:List V)(H:Hp)(Q:VK)(E:XK):Prop where
 | mk(b:Addr)(ts:List V)(Ms:List P3)(_:vs=[.ref b])(_:SqL K H b ts)(_:TupL H ts (Ms.map pV))(_:(∀ m∈Ms,Fo m))(_:Ms.length<=1000)(_:(20<Ms.length->E (.ref ca.manyM) none H))(_:(Ms.length<=20->S6 Ms->E (.ref ca.out) none H))(_:(Ms.length<=20->¬ S6 Ms->S7 Ms->E (.ref ca.same) none H))(_:(Ms.length<=20->¬ S6 Ms->¬ S7 Ms->∀ l,H l=none->Q (.ref l) (upd H l (.lst ts))))
theorem R9.isSome{kvs:List (List Key×V)}{out:List (Int×Int)}(h:R9 kvs out)(i n:Int):(valV kvs [Sum.inl i,Sum.inl n]).isSome=decide ((i,n)∈out):=h.1 i n
theorem K3{A:SAd}(nd:A.fp.Nodup):(A.p≠A.dr/\A.p≠A.lr/\A.p≠A.ld/\A.p≠A.da/\A.p≠A.ls/\A.p≠A.lt)/\(A.dr≠A.lr/\A.dr≠A.ld/\A.dr≠A.da/\A.dr≠A.ls/\A.dr≠A.lt)/\(A.lr≠A.ld/\A.lr≠A.da/\A.lr≠A.ls/\A.lr≠A.lt)/\(A.ld≠A.da/\A.ld≠A.ls/\A.ld≠A.lt)/\(A.da≠A.ls/\A.da≠A.lt)/\A.ls≠A.lt:=by
 simp only[SAd.fp,zzo,zy8,zzz,or_false,not_or] at nd
 obtain⟨⟨n1,n2,n3,n4,n5,n6⟩,⟨n7,n8,n9,n10,n11⟩,⟨n12,n13,n14,n15⟩,⟨n16,n17,n18⟩,⟨n19,n20⟩,n21,_⟩:=nd;exact⟨⟨n1,n2,n3,n4,n5,n6⟩,⟨n7,n8,n9,n10,n11⟩,⟨n12,n13,n14,n15⟩,⟨n16,n17,n18⟩,⟨n19,n20⟩,n21⟩
theorem zfv{R:RL}(nd:(R.map (·.1)).Nodup){x y:P3}(hx:x∈R)(hy:y∈R)(h:x.1=y.1):x=y:=by
 induction R with
 | nil=>cases hx
 | cons z R ih =>
   rw[zzc,zzo] at nd
   rcases zy8.mp hx with e|e<;>rcases zy8.mp hy with e'|e'
   ·rw[e,e']
   ·exact absurd (zy9.mpr ⟨y,e',by rw[<- h,e]⟩) nd.1
   ·exact absurd (zy9.mpr ⟨x,e,by rw[h,e']⟩) nd.1
   ·exact ih nd.2 e e'
noncomputable def outV(S:Sea):List V:=(S.ppl.filter (pIn S.out (atV S))).map fun x=>V.int x.1
theorem zd4(S:Sea):∀ x∈outV S,oneV x:=fun x hx=>by
 unfold outV at hx
 obtain⟨m,_,rfl⟩:=zy9.mp hx;exact .inr ⟨_,rfl⟩
theorem zfw{S:Sea}{x:P3}(hx:x∈S.ppl):inV (.int x.1) (outV S)=pIn S.out (atV S) x:=by
 unfold outV;rw[show ((S.ppl.filter (pIn S.out (atV S))).map fun x=>V.int x.1)=((S.ppl.filter (pIn S.out (atV S))).map (·.1)).map V.int by rw[z0o];rfl,Kc]
 unfold pIn;by_cases h:(atV S,x.1)∈S.out
 ·rw[zy4 h,zy4]
  exact zy9.mpr ⟨x,zzq.mpr ⟨hx,zy4 h⟩,rfl⟩
 ·rw[zzb h,zzb]
  intro z;obtain⟨y,h1,h2⟩:=zy9.mp z;have:=of_decide_eq_true (zzq.mp h1).2;rw[h2] at this;exact h this
theorem zh9(S:Sea)(m:P3):((S.ppl.filter (R8 S.led m.1 m.2.1 m.2.2 (outV S) S.rest)).map fun x=>V.int x.1)=(K1 S m).map V.int:=by
 unfold K1;rw[z0o];have:S.ppl.filter (R8 S.led m.1 m.2.1 m.2.2 (outV S) S.rest)=S.ppl.filter fun x=>(whyS S.led x.1 x.2.1 x.2.2 m.1 m.2.1 m.2.2 (pIn S.out (atV S) x) S.rest).isEmpty:=by
  refine List.filter_congr fun x hx=>?_
  unfold R8;rw[zfw hx]
 rw[this];rfl
theorem atI_last{xs:List V}{x:V}:atI (xs++[x]) (-1)=some x:=by
 have hl:(xs++[x]).length=xs.length+1:=by rw[zy2];rfl
 unfold atI ixN;rw[if_neg (by decide),if_pos (by omega)]
 show (xs++[x])[((-1:Int)+(xs++[x]).length).toNat]?=_;rw[show ((-1:Int)+(xs++[x]).length).toNat=xs.length by omega,zzy (zza _),Nat.sub_self];rfl
theorem Wn.unsnoc{ok:Addr->Prop}{H:Hp}{n:Int}{st:List (Nat×Option Int)}:∀ {vs:List V} {G:List (Int×List (Nat×Option Int))},Wn ok H vs (G++[(n,st)])->∃ vs' t l us,vs=vs'++[.ref t]/\H t=some (.tup [.int n,.ref l])/\H l=some (.lst us)/\TupL H us (st.map V5)/\ok l
 | _,[],.cons h hl tl o .nil=>⟨[],_,_,_,rfl,h,hl,tl,o⟩
 | _,_ :: _,.cons h hl tl o r=>by
   obtain⟨vs',t,l,us,e,a⟩:=Wn.unsnoc r;exact⟨_ :: vs',t,l,us,by rw[e];rfl,a⟩
noncomputable def Qb(S:Sea):Prop:=(∀ x∈S.ppl,¬ badI x.1 x.2.1 x.2.2)/\S.ppl.length<=30
theorem Qb.small{S:Sea}(h:Qb S):∀ x∈S.ppl,Y1 x.1:=fun x hx=>by
 have:=h.1 x hx;unfold badI at this
 exact Yx (by omega) (by omega)
theorem Qb.may{S:Sea}{ms:List P3}(h:Qb S)(nd:(S.ppl.map (·.1)).Nodup)(hm:ms.length<=20):Kt (mayS S ms) (S.ppl.map (·.1)):=by
 refine⟨by unfold mayS;rw[zyz];exact hm,by rw[zyz];exact h.2,nd,fun n hn=>?_,fun r hr=>?_⟩
 ·obtain⟨x,hx,rfl⟩:=zy9.mp hn
  have:=h.1 x hx;unfold badI at this
  omega
 ·unfold mayS at hr
  obtain⟨m,_,rfl⟩:=zy9.mp hr;unfold K1;exact⟨nd.sublist (List.Sublist.map _ List.filter_sublist),fun n hn=>by
   obtain⟨x,hx,rfl⟩:=zy9.mp hn;exact zy9.mpr ⟨x,(zzq.mp hx).1,rfl⟩⟩
section
variable{ca:CA}{H H':Hp}{A:SAd}{S:Sea}
theorem M0(h:Zy ca H A S){x:Addr}(hx:x∈A.fp):A.pr≠x/\A.pl≠x:=⟨fun z=>h.np.1 (by rw[z];exact hx),fun z=>h.np.2 (by rw[z];exact hx)⟩
theorem FrS.one{x:Addr}(hx:x∈A.fp)(k:∀ b o,H b=some o->b≠x->H' b=some o):FrS A H H':=fun b o e hb=>k b o e fun z=>hb (by rw[z];exact hx)
theorem Zy.setRos{R:RL}(h:Zy ca H A S)(r:Xj ca.roster H' A.pr A.dr R)(k:∀ b o,H b=some o->b≠A.dr->H' b=some o):Zy ca H' A { S with ppl:=R }/\FrS A H H':=by
 have f:FrS A H H':=.one (by simp[SAd.fp]) k
 have kt:=h.tups f;have ko:∀ x o,x∉A.fp->H x=some o->H' x=some o:=fun x o hx e=>f x o e hx
 obtain⟨⟨n1,n2,n3,n4,n5,n6⟩,⟨n7,n8,n9,n10,n11⟩,⟨n12,n13,n14,n15⟩,⟨n16,n17,n18⟩,⟨n19,n20⟩,n21⟩:=K3 h.nd;have np:=M0 h (show A.dr∈A.fp by simp[SAd.fp])
 obtain⟨⟨dx,v,a1,a2⟩,b,c,⟨kvs,d1,d2⟩,⟨vs,f1,f2⟩,⟨us,g1,g2⟩,nd,np'⟩:=h;exact⟨⟨⟨dx,v,k _ _ a1 n1,a2.keep ko kt⟩,r,c.keep (fun o e=>k _ o e np.2) (fun o e=>k _ o e (Ne.symm n7)) (fun o e=>k _ o e (Ne.symm n8)) kt,⟨kvs,k _ _ d1 (Ne.symm n9),d2⟩,⟨vs,k _ _ f1 (Ne.symm n10),f2.keep ko kt⟩,⟨us,k _ _ g1 (Ne.symm n11),g2.keep ko kt⟩,nd,np'⟩,f⟩
theorem Zy.setOut{out:List (Int×Int)}{kvs:List (List Key×V)}(h:Zy ca H A S)(hd:H' A.da=some (.dT kvs))(ok:R9 kvs out)(k:∀ b o,H b=some o->b≠A.da->H' b=some o):Zy ca H' A { S with out:=out }/\FrS A H H':=by
 have f:FrS A H H':=.one (by simp[SAd.fp]) k
 have kt:=h.tups f;have ko:∀ x o,x∉A.fp->H x=some o->H' x=some o:=fun x o hx e=>f x o e hx
 obtain⟨⟨n1,n2,n3,n4,n5,n6⟩,⟨n7,n8,n9,n10,n11⟩,⟨n12,n13,n14,n15⟩,⟨n16,n17,n18⟩,⟨n19,n20⟩,n21⟩:=K3 h.nd;have np:=M0 h (show A.da∈A.fp by simp[SAd.fp])
 obtain⟨⟨dx,v,a1,a2⟩,b,c,⟨kvs',d1,d2⟩,⟨vs,f1,f2⟩,⟨us,g1,g2⟩,nd,np'⟩:=h;exact⟨⟨⟨dx,v,k _ _ a1 n4,a2.keep ko kt⟩,b.keep (fun o e=>k _ o e np.1) (fun o e=>k _ o e n9) kt,c.keep (fun o e=>k _ o e np.2) (fun o e=>k _ o e n13) (fun o e=>k _ o e n16) kt,⟨kvs,hd,ok⟩,⟨vs,k _ _ f1 (Ne.symm n19),f2.keep ko kt⟩,⟨us,k _ _ g1 (Ne.symm n20),g2.keep ko kt⟩,nd,np'⟩,f⟩
theorem Zy.setCur{cur:Option Zt}{v:V}(h:Zy ca H A S)(hp:∃ dx,H' A.p=some (.ins ca.season dx (seaF A S.len S.rest v)))(sh:ShO ca.sheet (·∉A.fp) H' v cur)(k:∀ b o,H b=some o->b≠A.p->H' b=some o):Zy ca H' A { S with cur:=cur }/\FrS A H H':=by
 have f:FrS A H H':=.one (by simp[SAd.fp]) k
 have kt:=h.tups f;have ko:∀ x o,x∉A.fp->H x=some o->H' x=some o:=fun x o hx e=>f x o e hx
 obtain⟨⟨n1,n2,n3,n4,n5,n6⟩,⟨n7,n8,n9,n10,n11⟩,⟨n12,n13,n14,n15⟩,⟨n16,n17,n18⟩,⟨n19,n20⟩,n21⟩:=K3 h.nd;have np:=M0 h (show A.p∈A.fp by simp[SAd.fp])
 obtain⟨⟨dx,v',a1,a2⟩,b,c,⟨kvs',d1,d2⟩,⟨vs,f1,f2⟩,⟨us,g1,g2⟩,nd,np'⟩:=h;obtain⟨dx',hp⟩:=hp;exact⟨⟨⟨dx',v,hp,sh⟩,b.keep (fun o e=>k _ o e np.1) (fun o e=>k _ o e (Ne.symm n1)) kt,c.keep (fun o e=>k _ o e np.2) (fun o e=>k _ o e (Ne.symm n2)) (fun o e=>k _ o e (Ne.symm n3)) kt,⟨kvs',k _ _ d1 (Ne.symm n4),d2⟩,⟨vs,k _ _ f1 (Ne.symm n5),f2.keep ko kt⟩,⟨us,k _ _ g1 (Ne.symm n6),g2.keep ko kt⟩,nd,np'⟩,f⟩
theorem Zy.setStd{std:List (U4×Option Zt)}{us:List V}(h:Zy ca H A S)(hd:H' A.lt=some (.lst us))(ok:Uw ca.sheet (·∉A.fp) H' us std)(k:∀ b o,H b=some o->b≠A.lt->H' b=some o):Zy ca H' A { S with std:=std }/\FrS A H H':=by
 have f:FrS A H H':=.one (by simp[SAd.fp]) k
 have kt:=h.tups f;have ko:∀ x o,x∉A.fp->H x=some o->H' x=some o:=fun x o hx e=>f x o e hx
 obtain⟨⟨n1,n2,n3,n4,n5,n6⟩,⟨n7,n8,n9,n10,n11⟩,⟨n12,n13,n14,n15⟩,⟨n16,n17,n18⟩,⟨n19,n20⟩,n21⟩:=K3 h.nd;have np:=M0 h (show A.lt∈A.fp by simp[SAd.fp])
 obtain⟨⟨dx,v,a1,a2⟩,b,c,⟨kvs,d1,d2⟩,⟨vs,f1,f2⟩,⟨us',g1,g2⟩,nd,np'⟩:=h;exact⟨⟨⟨dx,v,k _ _ a1 n6,a2.keep ko kt⟩,b.keep (fun o e=>k _ o e np.1) (fun o e=>k _ o e n11) kt,c.keep (fun o e=>k _ o e np.2) (fun o e=>k _ o e n15) (fun o e=>k _ o e n18) kt,⟨kvs,k _ _ d1 n20,d2⟩,⟨vs,k _ _ f1 n21,f2.keep ko kt⟩,⟨us,hd,ok⟩,nd,np'⟩,f⟩
theorem Zy.setOld{old:List Zt}{us:List V}(h:Zy ca H A S)(hd:H' A.ls=some (.lst us))(ok:ShL ca.sheet (·∉A.fp) H' us old)(k:∀ b o,H b=some o->b≠A.ls->H' b=some o):Zy ca H' A { S with old:=old }/\FrS A H H':=by
 have f:FrS A H H':=.one (by simp[SAd.fp]) k
 have kt:=h.tups f;have ko:∀ x o,x∉A.fp->H x=some o->H' x=some o:=fun x o hx e=>f x o e hx
 obtain⟨⟨n1,n2,n3,n4,n5,n6⟩,⟨n7,n8,n9,n10,n11⟩,⟨n12,n13,n14,n15⟩,⟨n16,n17,n18⟩,⟨n19,n20⟩,n21⟩:=K3 h.nd;have np:=M0 h (show A.ls∈A.fp by simp[SAd.fp])
 obtain⟨⟨dx,v,a1,a2⟩,b,c,⟨kvs,d1,d2⟩,⟨vs,f1,f2⟩,⟨us',g1,g2⟩,nd,np'⟩:=h;exact⟨⟨⟨dx,v,k _ _ a1 n5,a2.keep ko kt⟩,b.keep (fun o e=>k _ o e np.1) (fun o e=>k _ o e n10) kt,c.keep (fun o e=>k _ o e np.2) (fun o e=>k _ o e n14) (fun o e=>k _ o e n17) kt,⟨kvs,k _ _ d1 n19,d2⟩,⟨us,hd,ok⟩,⟨us',k _ _ g1 (Ne.symm n21),g2.keep ko kt⟩,nd,np'⟩,f⟩
theorem Zy.setLed{Rs:List (List Row)}(h:Zy ca H A S)(l:Ur ca.ledger H' A.pl A.lr A.ld Rs)(k:∀ b o,H b=some o->b≠A.lr->b≠A.ld->H' b=some o):Zy ca H' A { S with led:=Rs }/\FrS A H H':=by
 have f:FrS A H H':=fun b o e hb=>k b o e (fun z=>hb (by rw[z];simp[SAd.fp])) (fun z=>hb (by rw[z];simp[SAd.fp]))
 have kt:=h.tups f;have ko:∀ x o,x∉A.fp->H x=some o->H' x=some o:=fun x o hx e=>f x o e hx
 obtain⟨⟨n1,n2,n3,n4,n5,n6⟩,⟨n7,n8,n9,n10,n11⟩,⟨n12,n13,n14,n15⟩,⟨n16,n17,n18⟩,⟨n19,n20⟩,n21⟩:=K3 h.nd;have np:=M0 h (show A.lr∈A.fp by simp[SAd.fp])
 have np2:=M0 h (show A.ld∈A.fp by simp[SAd.fp])
 obtain⟨⟨dx,v,a1,a2⟩,b,c,⟨kvs,d1,d2⟩,⟨vs,f1,f2⟩,⟨us',g1,g2⟩,nd,np'⟩:=h;exact⟨⟨⟨dx,v,k _ _ a1 n2 n3,a2.keep ko kt⟩,b.keep (fun o e=>k _ o e np.1 np2.1) (fun o e=>k _ o e n7 n8) kt,l,⟨kvs,k _ _ d1 (Ne.symm n13) (Ne.symm n16),d2⟩,⟨vs,k _ _ f1 (Ne.symm n14) (Ne.symm n17),f2.keep ko kt⟩,⟨us',k _ _ g1 (Ne.symm n15) (Ne.symm n18),g2.keep ko kt⟩,nd,np'⟩,f⟩
theorem Oa{l r:Nat}{v v':V}:putF "sheet" v' (seaF A l r v)=seaF A l r v':=by
 have n1:¬ (("length":Str)="sheet"):=by decide +kernel
 have n2:¬ (("rest":Str)="sheet"):=by decide +kernel
 have n3:¬ (("roster":Str)="sheet"):=by decide +kernel
 have n4:¬ (("ledger":Str)="sheet"):=by decide +kernel
 have n5:¬ (("absent":Str)="sheet"):=by decide +kernel
 have n6:¬ (("sheets":Str)="sheet"):=by decide +kernel
 simp only[putF,seaF,if_neg n1,if_neg n2,if_neg n3,if_neg n4,if_neg n5,if_neg n6,if_true]
theorem FrS.free{S':Sea}(f:FrS A H H')(h:Zy ca H' A S'){l:Addr}(hl:H' l=none):H l=none:=by
 cases e:H l with
 | none=>rfl
 | some o =>
   by_cases hm:l∈A.fp
   ·obtain⟨o',e'⟩:=h.there l hm
    rw[e'] at hl;cases hl
   ·rw[f l o e hm] at hl;cases hl
theorem ShAt.ins{q:Addr}{s:Zt}(h:ShAt ca.sheet (·∉A.fp) H q s):∃ dx l1 l2 l3 l4,H q=some (.ins ca.sheet dx (shF l1 l2 l3 l4)):=by
 obtain⟨dx,l1,l2,l3,l4,_,_,_,a1,_⟩:=h;exact⟨dx,l1,l2,l3,l4,a1⟩
theorem Zy.newSheet{q dx:Addr}{v:V}{s:Zt}(h:Zy ca H A S)(hp:H A.p=some (.ins ca.season dx (seaF A S.len S.rest v)))(sh:ShAt ca.sheet (·∉A.fp) H q s) :
  Zy ca (upd H A.p (.ins ca.season dx (putF "sheet" (.ref q) (seaF A S.len S.rest v)))) A { S with cur:=some s }/\FrS A H (upd H A.p (.ins ca.season dx (putF "sheet" (.ref q) (seaF A S.len S.rest v))))/\ShAt ca.sheet (·∉A.fp) (upd H A.p (.ins ca.season dx (putF "sheet" (.ref q) (seaF A S.len S.rest v)))) q s:=by
 have k:∀ b o,H b=some o->b≠A.p->upd H A.p (.ins ca.season dx (putF "sheet" (.ref q) (seaF A S.len S.rest v))) b=some o:=fun b o e n=>by rw[Zh n];exact e
 have sh':=sh.keep (H':=upd H A.p (.ins ca.season dx (putF "sheet" (.ref q) (seaF A S.len S.rest v)))) (fun x o hx e=>k x o e fun z=>hx (by rw[z];simp[SAd.fp])) (fun t xs e=>k t _ e (Ym e hp (fun z=>nomatch z)))
 obtain⟨h1,h2⟩:=h.setCur (cur:=some s) (v:=.ref q) ⟨dx,by rw[Zb];exact congrArg (fun x=>some (HO.ins ca.season dx x)) Oa⟩ ⟨q,rfl,sh'⟩ k
 exact⟨h1,h2,sh'⟩
theorem Ij{l r:Nat}{v:V}{x:Addr}:putF "standing" (.ref x) (seaF A l r v)=seaF { A with lt:=x } l r v:=by
 have n1:¬ (("length":Str)="standing"):=by decide +kernel
 have n2:¬ (("rest":Str)="standing"):=by decide +kernel
 have n3:¬ (("roster":Str)="standing"):=by decide +kernel
 have n4:¬ (("ledger":Str)="standing"):=by decide +kernel
 have n5:¬ (("absent":Str)="standing"):=by decide +kernel
 have n6:¬ (("sheets":Str)="standing"):=by decide +kernel
 have n7:¬ (("sheet":Str)="standing"):=by decide +kernel
 simp only[putF,seaF,if_neg n1,if_neg n2,if_neg n3,if_neg n4,if_neg n5,if_neg n6,if_neg n7,if_true]
end
noncomputable def zd5(r q:Nat):Sea:=⟨r,q,[],[],[],[],none,[]⟩
inductive zae(ca:CA)(vs:List V)(H:Hp)(Q:VK)(E:XK):Prop where
 | mk(p dx:Addr)(r q:Int)(_:vs=[.ref p,.int r,.int q])(_:H p=some (.ins ca.season dx []))(_:Y1 r)(_:Y1 q)(_:if r<0\/60<r then E (.ref ca.out) none H else if q<0\/10<q then E (.ref ca.out) none H else ∀ A H',A.p=p->Zy ca H' A (zd5 r.toNat q.toNat)->(∀ b o,H b=some o->b≠p->H' b=some o)->(∀ x∈A.fp,x≠p->H x=none)->Q .non H')
inductive zaf(ca:CA)(vs:List V)(H:Hp)(Q:VK)(E:XK):Prop where
 | mk(A:SAd)(S:Sea)(n g c:Int)(_:vs=[.ref A.p,.int n,.int g,.int c])(_:Zy ca H A S)(_:Bt n g c)(_:S.std.length<=1000)(_:S.ppl.length<=1000)(_:if S.len<=S.led.length then E (.ref ca.seaOver) none H else if S.cur.isSome then E (.ref ca.drawn) none H else if badI n g c then E (.ref ca.out) none H else if n∈S.ppl.map (·.1) then E (.ref ca.known) none H else if 30<=S.ppl.length then E (.ref ca.many) none H else if 100<=S.std.length then E (.ref ca.manyD) none H else ∀ H',Zy ca H' A { S with ppl:=S.ppl++[(n,g,c)],std:=S.std++[(((("enrol":Str),n,atV S):U4),S.cur)] }->FrS A H H'->Q .non H')
noncomputable def zd6(S:Sea)(ms:List P3)(gv:List V):Sea:={ S with cur:=some ⟨ms,mayS S ms,gv,[]⟩,std:=S.std++[(((("draw up":Str),(ms.length:Int),atV S):U4),S.cur)] }
inductive Dw(K:PySem.W.Frag)(ca:CA)(vs:List V)(H:Hp)(Q:VK)(E:XK):Prop where
 | mk(A:SAd)(S:Sea)(b:Addr)(ts:List V)(ms:List P3)(_:vs=[.ref A.p,.ref b])(_:Zy ca H A S)(_:SqL K H b ts)(_:TupL H ts (ms.map pV))(_:(∀ m∈ms,Fo m))(_:ms.length<=1000)(_:S.std.length<=1000)(_:Qb S)(_:if S.len<=S.led.length then E (.ref ca.seaOver) none H else if S.cur.isSome then E (.ref ca.drawn) none H else (20<ms.length->E (.ref ca.manyM) none H)/\(ms.length<=20->S6 ms->E (.ref ca.out) none H)/\(ms.length<=20->¬ S6 ms->S7 ms->E (.ref ca.same) none H)/\(ms.length<=20->¬ S6 ms->¬ S7 ms->(100<=S.std.length->∀ H',Same H H'->E (.ref ca.manyD) none H')/\(S.std.length<100->∀ l gv H',H' l=some (.lst gv)->Zy ca H' A (zd6 S ms gv)->Yh (mayS S ms) gv->Vc (mayS S ms) gv->FrS A H H'->H l=none->Q (.ref l) H')))
inductive Dx(ca:CA)(vs:List V)(H:Hp)(Q:VK)(_:XK):Prop where
 | mk(A:SAd)(S:Sea)(n:Int)(s:Zt)(nu:List Int)(_:vs=[.ref A.p,.int n])(_:Zy ca H A S)(_:S.cur=some s)(_:Qb S)(_:s.ms.length<=20)(_:(∀ x∈s.gv,oneV x))(_:s.gv.length<=100)(_:s.gaps.length<=500)(_:Kt (mayS S s.ms) nu)(_:(Wr s.gv n=none->∀ l H',H' l=some (.lst [])->Zy ca H' A { S with cur:=some { s with may:=mayS S s.ms } }->FrS A H H'->H l=none->Q (.ref l) H'))(_:∀ p,Wr s.gv n=some p->s.gv[p]?=some (.int n)/\(∀ j:Nat,s.gv[j]?=some (.int n)->j=p)/\Yh (mayS S s.ms) (s.gv.set p .non)/\∀ l us st e w H',H' l=some (.lst us)->TupL H' us (st.map V5)->Xi (mayS S s.ms) (s.gv.set p .non) p st e w->Zy ca H' A { S with cur:=some ⟨s.ms,mayS S s.ms,Yq st (s.gv.set p .non),s.gaps++[(n,st)]⟩ }->FrS A H H'->H l=none->Q (.ref l) H')
noncomputable def Xn(S:Sea)(i n:Int):Sea:={ S with out:=S.out++[(i,n)],std:=S.std++[((("away":Str),n,i),S.cur)] }
inductive zd7(ca:CA)(vs:List V)(H:Hp)(Q:VK)(E:XK):Prop where
 | mk(A:SAd)(S:Sea)(i n:Int)(_:vs=[.ref A.p,.int i,.int n])(_:Zy ca H A S)(_:Y1 i)(_:Y1 n)(_:S.std.length<=1000)(_:S.out.length<=100000)(_:Qb S)(_:(∀ s,S.cur=some s->s.ms.length<=20/\Yh s.may s.gv/\s.may=mayS S s.ms/\s.gaps.length<=500))(_:if i<1\/(S.len:Int)<i then E (.ref ca.noRound) none H else if i<=S.led.length then E (.ref ca.over) none H else if n∈S.ppl.map (·.1) then (if (i,n)∈S.out then ∀ H',Same H H'->E (.ref ca.away) none H' else if 100<=S.std.length then ∀ H',Same H H'->E (.ref ca.manyD) none H' else (S.cur=none\/atV S<i->∀ l H',H' l=some (.lst [])->Zy ca H' A (Xn S i n)->FrS A H H'->H l=none->Q (.ref l) H')/\(∀ s,i=atV S->S.cur=some s->Wr s.gv n=none->∀ l H',H' l=some (.lst [])->Zy ca H' A { Xn S i n with cur:=some { s with may:=mayS (Xn S i n) s.ms } }->FrS A H H'->H l=none->Q (.ref l) H')/\(∀ s p,i=atV S->S.cur=some s->Wr s.gv n=some p->∀ l us st e w H',H' l=some (.lst us)->TupL H' us (st.map V5)->Xi (mayS (Xn S i n) s.ms) (s.gv.set p .non) p st e w->Zy ca H' A { Xn S i n with cur:=some ⟨s.ms,mayS (Xn S i n) s.ms,Yq st (s.gv.set p .non),s.gaps++[(n,st)]⟩ }->FrS A H H'->H l=none->Q (.ref l) H')) else E (.ref ca.unk) none H)
theorem R9.put{kvs:List (List Key×V)}{out:List (Int×Int)}(h:R9 kvs out)(i n:Int):R9 (putK kvs [Sum.inl i,Sum.inl n] (.bl true)) (out++[(i,n)]):=by
 refine⟨fun j m=>?_,?_⟩
 ·rw[Vj]
  by_cases e:j=i/\m=n
  ·rw[if_pos (Qs.mpr e),zy4 (by rw[e.1,e.2];simp)];rfl
  ·rw[if_neg (fun z=>e (Qs.mp z)),h.1 j m]
   by_cases hm:(j,m)∈out
   ·rw[zy4 hm,zy4 (zzu _ hm)]
   ·rw[zzb hm,zzb]
    intro z;rcases zy6.mp z with q|q
    ·exact hm q
    ·have:=zy3.mp q;exact e (by cases this;exact⟨rfl,rfl⟩)
 ·have:=Y7 kvs ([Sum.inl i,Sum.inl n]:List Key) (.bl true)
  have:=h.2;rw[zy2];show _<=out.length+1;omega
theorem R9.drop{kvs:List (List Key×V)}{out:List (Int×Int)}{i n:Int}(h:R9 kvs (out++[(i,n)]))(hn:(i,n)∉out):R9 (X0 kvs [Sum.inl i,Sum.inl n]) out:=by
 have hv:∀ k:List Key,valV (X0 kvs [Sum.inl i,Sum.inl n]) k=if k=[Sum.inl i,Sum.inl n] then none else valV kvs k:=fun k=>by
  clear h
  induction kvs with
  | nil=>unfold X0;simp[valV]
  | cons x kvs ih =>
    by_cases ex:x.1=[Sum.inl i,Sum.inl n]
    ·rw[za8 ex,ih]
     by_cases e:k=[Sum.inl i,Sum.inl n]
     ·rw[if_pos e,if_pos e]
     ·rw[if_neg e,if_neg e,Y6 (fun z=>e (z.symm.trans ex))]
    ·rw[za9 ex]
     by_cases ek:x.1=k
     ·rw[Xc ek,Xc ek,if_neg (fun z=>ex (ek.trans z))]
     ·rw[Y6 ek,Y6 ek,ih]
 refine⟨fun j m=>?_,?_⟩
 ·rw[hv]
  by_cases e:j=i/\m=n
  ·rw[if_pos (Qs.mpr e),zzb (by rw[e.1,e.2];exact hn)];rfl
  ·rw[if_neg (fun z=>e (Qs.mp z)),h.1 j m]
   by_cases hm:(j,m)∈out
   ·rw[zy4 hm,zy4 (zzu _ hm)]
   ·rw[zzb hm,zzb]
    intro z;rcases zy6.mp z with q|q
    ·exact hm q
    ·have:=zy3.mp q;exact e (by cases this;exact⟨rfl,rfl⟩)
 ·have h1:=h.1 i n
  rw[zy4 (show (i,n)∈out++[(i,n)] by simp)] at h1
  have h2:=h.2;rw[zy2] at h2
  have h2:kvs.length<=out.length+1:=h2;have h3:(X0 kvs [Sum.inl i,Sum.inl n]).length<kvs.length:=by
   unfold X0;rw[List.length_filter_lt_length_iff_exists];obtain⟨v,hv'⟩:=z0d.mp h1;unfold valV at hv'
   obtain⟨x,hx,_⟩:=z0w.mp hv';refine⟨x,List.mem_of_find?_eq_some hx,?_⟩;have:=List.find?_some hx;intro z;exact of_decide_eq_true z (of_decide_eq_true this)
  omega
theorem Ob{gv:List V}{n:Int}{p:Nat}(h:Wr gv n=some p):gv[p]?=some (.int n):=by
 unfold Wr at h
 have h2:decide (gv[p]?=some (V.int n))=true:=List.find?_some (p:=fun i=>decide (gv[i]?=some (V.int n))) h
 exact of_decide_eq_true h2
theorem Tq{S:Sea}{n:Int}{ms:List P3}:mayS (Xn S (atV S) n) ms=without (mayS S ms) n:=by
 unfold mayS without;rw[z0o];refine z0m fun m _=>?_
 show K1 (Xn S (atV S) n) m=(K1 S m).filter fun x=>decide (x≠n)
 unfold K1;rw[List.filter_map,List.filter_filter]
 congr 1
 refine List.filter_congr fun x _=>?_
 show (whyS S.led x.1 x.2.1 x.2.2 m.1 m.2.1 m.2.2 (pIn (S.out++[(atV S,n)]) (atV S) x) S.rest).isEmpty=(decide (x.1≠n)&&(whyS S.led x.1 x.2.1 x.2.2 m.1 m.2.1 m.2.2 (pIn S.out (atV S) x) S.rest).isEmpty);unfold pIn;by_cases e:x.1=n
 ·have h1:decide ((atV S,x.1)∈S.out++[(atV S,n)])=true:=zy4 (by rw[e];simp)
  rw[h1,zzb (fun z=>z e),Bool.false_and]
  unfold whyS bw;simp
 ·have h1:decide ((atV S,x.1)∈S.out++[(atV S,n)])=decide ((atV S,x.1)∈S.out):=by
   by_cases hm:(atV S,x.1)∈S.out
   ·rw[zy4 hm,zy4 (zzu _ hm)]
   ·rw[zzb hm,zzb]
    intro z;rcases zy6.mp z with q|q
    ·exact hm q
    ·have:=zy3.mp q;cases this;exact e rfl
  rw[h1,zy4 e,Bool.true_and]
noncomputable def Fp(S:Sea)(s:Zt):Sea:={ S with led:=S.led++[Ye s],old:=S.old++[s],cur:=none,std:=[] }
inductive zag(ca:CA)(vs:List V)(H:Hp)(Q:VK)(E:XK):Prop where
 | mk(A:SAd)(S:Sea)(_:vs=[.ref A.p])(_:Zy ca H A S)(_:2*(tot S.led+1000)<=100000)(_:S.led.length<=1000)(_:S.old.length<=1000)(_:(∀ s,S.cur=some s->(∀ x∈s.gv,oneV x)/\s.gv.length=s.ms.length/\s.ms.length<=1000))(_:if S.len<=S.led.length then E (.ref ca.seaOver) none H else (S.cur=none->E (.ref ca.notDrawn) none H)/\∀ s x H',S.cur=some s->Zy ca H' { A with lt:=x } (Fp S s)->FrS A H H'->H x=none->Q (.int (atV S)) H')
theorem Zy.freshStd{ca:CA}{H H':Hp}{A:SAd}{S:Sea}{x dx:Addr}{v:V}(h:Zy ca H A S)(hx:H x=none)(hp:H A.p=some (.ins ca.season dx (seaF A S.len S.rest v)))(hv:ShO ca.sheet (·∉A.fp) H v S.cur)
  (e:H'=upd (upd H x (.lst [])) A.p (.ins ca.season dx (putF "standing" (.ref x) (seaF A S.len S.rest v)))):Zy ca H' { A with lt:=x } { S with std:=[] }/\FrS A H H':=by
 have hpx:A.p≠x:=Zg hp hx;have k:∀ b o,H b=some o->b≠A.p->H' b=some o:=fun b o q n=>by rw[e,Zh n,Zh (Zg q hx)];exact q
 have f:FrS A H H':=.one (by simp[SAd.fp]) k
 have kt:=h.tups f;have hnx:∀ y,(∃ o,H y=some o)->y≠x:=fun y ⟨o,q⟩=>Zg q hx
 have okk:∀ y,(∃ o,H' y=some o)->y∉A.fp->(∃ o,H y=some o)->y∉({ A with lt:=x }:SAd).fp:=fun y _ hy hH hm=>by
  simp only[SAd.fp,zy8,zzz,or_false] at hm hy
  rcases hm with q|q|q|q|q|q|q
  ·exact hy (.inl q)
  ·exact hy (.inr (.inl q))
  ·exact hy (.inr (.inr (.inl q)))
  ·exact hy (.inr (.inr (.inr (.inl q))))
  ·exact hy (.inr (.inr (.inr (.inr (.inl q)))))
  ·exact hy (.inr (.inr (.inr (.inr (.inr (.inl q))))))
  ·exact hnx y hH q
 have ok2:∀ y,(∃ o,H y=some o)->y∉A.fp->y∉({ A with lt:=x }:SAd).fp:=fun y hH hy hm=>by
  simp only[SAd.fp,zy8,zzz,or_false] at hm hy
  rcases hm with q|q|q|q|q|q|q
  ·exact hy (.inl q)
  ·exact hy (.inr (.inl q))
  ·exact hy (.inr (.inr (.inl q)))
  ·exact hy (.inr (.inr (.inr (.inl q))))
  ·exact hy (.inr (.inr (.inr (.inr (.inl q)))))
  ·exact hy (.inr (.inr (.inr (.inr (.inr (.inl q))))))
  ·exact hnx y hH q
 have ko:∀ y o,y∉({ A with lt:=x }:SAd).fp->H y=some o->H' y=some o:=fun y o hy q=>k y o q fun z=>hy (by rw[z];simp[SAd.fp])
 have there:=h.there;obtain⟨⟨n1,n2,n3,n4,n5,n6⟩,⟨n7,n8,n9,n10,n11⟩,⟨n12,n13,n14,n15⟩,⟨n16,n17,n18⟩,⟨n19,n20⟩,n21⟩:=K3 h.nd;have np:=M0 h (show A.p∈A.fp by simp[SAd.fp])
 have npp:=h.np;obtain⟨⟨dx',v',a1,a2⟩,b,c,⟨kvs',d1,d2⟩,⟨vs,f1,f2⟩,⟨us,g1,g2⟩,nd,np'⟩:=h;have hpr:∃ o,H A.pr=some o:=by obtain⟨⟨_,_,q,_⟩,_⟩:=b;exact⟨_,q⟩
 have hpl:∃ o,H A.pl=some o:=by obtain⟨⟨_,q⟩,_⟩:=c;exact⟨_,q⟩
 refine⟨⟨⟨dx,v,?_,(hv.imp ok2).keep ko kt⟩,b.keep (fun o q=>k _ o q np.1) (fun o q=>k _ o q (Ne.symm n1)) kt,c.keep (fun o q=>k _ o q np.2) (fun o q=>k _ o q (Ne.symm n2)) (fun o q=>k _ o q (Ne.symm n3)) kt,⟨kvs',k _ _ d1 (Ne.symm n4),d2⟩,⟨vs,k _ _ f1 (Ne.symm n5),(f2.imp ok2).keep ko kt⟩,⟨[],?_,?_⟩,?_,⟨ok2 _ hpr npp.1,ok2 _ hpl npp.2⟩⟩,f⟩
 ·rw[e,Zb];exact congrArg (fun z=>some (HO.ins ca.season dx z)) Ij
 ·show H' x=some (.lst [])
  rw[e,Zh (Ne.symm hpx),Zb]
 ·exact .nil
 ·show [A.p,A.dr,A.lr,A.ld,A.da,A.ls,x].Nodup
  have m:∀ y∈A.fp,y≠x:=fun y hy=>hnx y (there y hy)
  simp only[zzo,zy8,zzz,or_false,not_or];exact⟨⟨n1,n2,n3,n4,n5,m _ (by simp[SAd.fp])⟩,⟨n7,n8,n9,n10,m _ (by simp[SAd.fp])⟩,⟨n12,n13,n14,m _ (by simp[SAd.fp])⟩,⟨n16,n17,m _ (by simp[SAd.fp])⟩,⟨n19,m _ (by simp[SAd.fp])⟩,m _ (by simp[SAd.fp]),by simp,z0p⟩
noncomputable def zd8(S:Sea)(d:U4)(ppl:RL)(out:List (Int×Int)):Prop:=(d.1="enrol"/\(∃ g c,S.ppl=ppl++[(d.2.1,g,c)])/\out=S.out)\/(d.1="away"/\ppl=S.ppl/\S.out=out++[(d.2.2,d.2.1)]/\(d.2.2,d.2.1)∉out)\/(d.1="draw up"/\ppl=S.ppl/\out=S.out)
inductive K4(ca:CA)(vs:List V)(H:Hp)(Q:VK)(E:XK):Prop where
 | mk(A:SAd)(S:Sea)(_:vs=[.ref A.p])(_:Zy ca H A S)(_:(S.std=[]->E (.ref ca.nothing) none H))(_:∀ std d s,S.std=std++[(d,s)]->∃ ppl out,zd8 S d ppl out/\∀ t H',H' t=some (.tup (Pm d))->Zy ca H' A { S with ppl:=ppl,out:=out,cur:=s,std:=std }->FrS A H H'->Q (.ref t) H')
noncomputable def zah(ca:CA)(H:Hp)(S:Sea)(i:Int)(E:XK)(k:Zt->Prop):Prop:=Y1 i/\S.old.length=S.led.length/\if i<1\/(S.len:Int)<i then E (.ref ca.noRound) none H else (Vo S i=none->E (.ref ca.notDrawn) none H)/\∀ s,Vo S i=some s->k s
inductive zd9(ca:CA)(vs:List V)(H:Hp)(Q:VK)(E:XK):Prop where
 | mk(A:SAd)(S:Sea)(i:Int)(_:vs=[.ref A.p,.int i])(_:Zy ca H A S)(_:zah ca H S i E fun s=>∀ l H',H' l=some (.lst s.gv)->Same H H'->H l=none->Q (.ref l) H')
theorem Tr{f:Str}{v:V}(ks:List Str):∀ {fs:List (Str×V)},fs.map (·.1)=ks->(ks.all fun x=>!decide (x=f))=true->putF f v fs=fs++[(f,v)]:=by
 intro fs hk h;subst hk
 induction fs with
 | nil=>rfl
 | cons x fs ih =>
   rw[zzc,List.all_cons,z0f,Bool.not_eq_true',decide_eq_false_iff_not] at h
   obtain⟨k,y⟩:=x;show (if k=f then _ else _)=_
   rw[if_neg h.1,ih h.2];rfl
noncomputable def sF1(l:V):List (Str×V):=[("length",l)]
noncomputable def sF2(l r:V):List (Str×V):=[("length",l),("rest",r)]
noncomputable def sF3(l r a:V):List (Str×V):=[("length",l),("rest",r),("roster",a)]
noncomputable def sF4(l r a b:V):List (Str×V):=[("length",l),("rest",r),("roster",a),("ledger",b)]
noncomputable def sF5(l r a b c:V):List (Str×V):=[("length",l),("rest",r),("roster",a),("ledger",b),("absent",c)]
noncomputable def sF6(l r a b c d:V):List (Str×V):=[("length",l),("rest",r),("roster",a),("ledger",b),("absent",c),("sheets",d)]
noncomputable def sF7(l r a b c d e:V):List (Str×V):=[("length",l),("rest",r),("roster",a),("ledger",b),("absent",c),("sheets",d),("sheet",e)]
noncomputable def sF8(l r a b c d e f:V):List (Str×V):=[("length",l),("rest",r),("roster",a),("ledger",b),("absent",c),("sheets",d),("sheet",e),("standing",f)]
theorem pF1{l:V}:putF "length" l []=sF1 l:=rfl
theorem pF2{l r:V}:putF "rest" r (sF1 l)=sF2 l r:=Tr ["length"] rfl (by decide +kernel)
theorem pF3{l r a:V}:putF "roster" a (sF2 l r)=sF3 l r a:=Tr ["length","rest"] rfl (by decide +kernel)
theorem pF4{l r a b:V}:putF "ledger" b (sF3 l r a)=sF4 l r a b:=Tr ["length","rest","roster"] rfl (by decide +kernel)
theorem pF5{l r a b c:V}:putF "absent" c (sF4 l r a b)=sF5 l r a b c:=Tr ["length","rest","roster","ledger"] rfl (by decide +kernel)
theorem pF6{l r a b c d:V}:putF "sheets" d (sF5 l r a b c)=sF6 l r a b c d:=Tr ["length","rest","roster","ledger","absent"] rfl (by decide +kernel)
theorem pF7{l r a b c d e:V}:putF "sheet" e (sF6 l r a b c d)=sF7 l r a b c d e:=Tr ["length","rest","roster","ledger","absent","sheets"] rfl (by decide +kernel)
theorem pF8{l r a b c d e f:V}:putF "standing" f (sF7 l r a b c d e)=sF8 l r a b c d e f:=Tr ["length","rest","roster","ledger","absent","sheets","sheet"] rfl (by decide +kernel)
theorem Vp.free{p:Addr}{H H':Hp}{x:Addr}(hb:∀ b o,H b=some o->b≠p->H' b=some o)(hp:∃ o,H' p=some o)(hx:H' x=none):H x=none:=by
 cases e:H x with
 | none=>rfl
 | some o =>
   by_cases z:x=p
   ·subst z;obtain⟨o',q⟩:=hp;rw[q] at hx;cases hx
   ·rw[hb x o e z] at hx;cases hx
noncomputable def Vp(p:Addr)(H H':Hp):Prop:=∀ b o,H b=some o->b≠p->H' b=some o
theorem Vp.trans{p:Addr}{H1 H2 H3:Hp}(a:Vp p H1 H2)(b:Vp p H2 H3):Vp p H1 H3:=fun x o e n=>b x o (a x o e n) n
theorem Vp.of{p:Addr}{H1 H2:Hp}(a:Same H1 H2):Vp p H1 H2:=fun x o e _=>a x o e
theorem Vp.put{p:Addr}{H:Hp}{o:HO}:Vp p H (upd H p o):=fun x o e n=>by rw[Zh n];exact e
end G

namespace L2
open PySem PySem.Spec PyProof.Rows
theorem Bu{X:Cx}:Vg X (.type "dict") (fun xs H Q=>∃ a kvs,xs=[.ref a]/\Rd H a (.dK kvs)/\∀ p,H p=none->Q (.ref p) (upd H p (.dK kvs))):=by
 intro pins s σ H xs us Q I r h;obtain⟨a,kvs,rfl,ha,q⟩:=h;obtain⟨u,rfl,ru⟩:=Sg r;cases (show u=Value.ref a from ru)
 exact zc6 I ha fun p s' hp I'=>⟨.ref p,_,I',rfl,q p hp⟩
end L2
namespace G
open PySem PySem.Spec PyProof.Rows L2
noncomputable def M3:List Int:=[0,1,2,3,4,5,6,7,8,9,10,0,0,0,1,1,1,2,2,0,1,3]
inductive Dy(K:PySem.W.Frag)(vs:List V)(H:Hp)(Q:VK)(_:XK):Prop where
 | mk(b:Addr)(ns:List Int)(_:vs=[.ref b])(_:SqL K H b (ns.map V.int))(_:∀ (q:Nat) H',q=(M3.getD (Y8 ns 1%22).toNat 0).toNat->q<=10->Same H H'->Q (.int q) H')
noncomputable def Qc(ns:List Int):Int:=if Y8 ns 0/2%2=0 then 60 else 1+Y8 ns 1/22%60
inductive K5(K:PySem.W.Frag)(vs:List V)(H:Hp)(Q:VK)(_:XK):Prop where
 | mk(b:Addr)(ns:List Int)(_:vs=[.ref b])(_:SqL K H b (ns.map V.int))(_:∀ (r:Nat) H',r=(Qc ns).toNat->1<=r->r<=60->Same H H'->Q (.int r) H')
inductive Dz(K:PySem.W.Frag)(vs:List V)(H:Hp)(Q:VK)(_:XK):Prop where
 | mk(b:Addr)(ns:List Int)(k:Nat)(_:vs=[.ref b,.int k])(_:SqL K H b (ns.map V.int))(_:k<ns.length)(_:∀ c H',Same H H'->Q (.int c) H')
structure Oc(H:Hp)(t lc ln:Addr)(cs nu:List Int):Prop where
 tup:H t=some (.tup [.ref lc,.ref ln])
 clubs:H lc=some (.lst (cs.map V.int))
 nums:H ln=some (.lst (nu.map V.int))
 few:3<=cs.length/\cs.length<=10
 cnd:cs.Nodup
 crng:∀ c∈cs,1<=c/\c<=99
 nfew:1<=nu.length/\nu.length<=30
 nnd:nu.Nodup
 nrng:∀ n∈nu,1<=n/\n<=999
theorem Oc.same{H H':Hp}{t lc ln:Addr}{cs nu:List Int}(h:Oc H t lc ln cs nu)(e:Same H H'):Oc H' t lc ln cs nu:=⟨e _ _ h.tup,e _ _ h.clubs,e _ _ h.nums,h.few,h.cnd,h.crng,h.nfew,h.nnd,h.nrng⟩
inductive D1(K:PySem.W.Frag)(vs:List V)(H:Hp)(Q:VK)(_:XK):Prop where
 | mk(b:Addr)(ns:List Int)(cr:Nat)(_:vs=[.ref b,.int cr])(_:SqL K H b (ns.map V.int))(_:1<=cr)(_:cr<=30)(_:∀ t lc ln cs nu H',Oc H' t lc ln cs nu->nu.length=cr->Same H H'->H t=none->H lc=none->H ln=none->Q (.ref t) H')
theorem D2(c:Int){i j:Nat}(hi:i<10)(hj:j<10)(h:Gg c i=Gg c j):i=j:=by
 unfold Gg at h
 have hs:Ff c=1\/Ff c=2\/Ff c=5\/Ff c=10\/Ff c=50\/Ff c=97\/Ff c=98:=by
  unfold Ff;have h0:0<=c%7:=by omega
  have h1:c%7<7:=by omega
  generalize c%7=r at h0 h1
  obtain⟨k,rfl⟩:∃ k:Nat,r=k:=⟨r.toNat,by omega⟩
  rw[zzm];have hk:k<7:=by omega
  match k,hk with
  | 0,_=>simp
  | 1,_=>simp
  | 2,_=>simp
  | 3,_=>simp
  | 4,_=>simp
  | 5,_=>simp
  | 6,_=>simp
 generalize c/7=x at h
 rcases hs with e|e|e|e|e|e|e<;>rw[e] at h<;>omega
theorem D3(c:Int){m:Nat}(hm:m<=10):(R6 c m).Nodup:=by
 unfold R6;rw[zz3,List.pairwise_map];refine List.Pairwise.imp_of_mem (fun {i j} hi hj (hne:i≠j) z=>?_) (zz3.mp List.nodup_range)
 exact hne (D2 c (by have:=zzx.mp hi;omega) (by have:=zzx.mp hj;omega) z)
theorem zbs(c:Int)(m:Nat):∀ n∈R6 c m,1<=n/\n<=99:=fun n hn=>by
 unfold R6 at hn
 obtain⟨j,_,rfl⟩:=zy9.mp hn;unfold Gg;omega
theorem D4(c:Int){m:Nat}(hm:m<=40):(Mw c m).Nodup:=by
 unfold Mw;rw[zz3,List.pairwise_map];refine List.Pairwise.imp_of_mem (fun {i j} hi hj (hne:i≠j) z=>?_) (zz3.mp List.nodup_range)
 exact hne (zdn c (by have:=zzx.mp hi;omega) (by have:=zzx.mp hj;omega) z)
theorem zbt(c:Int)(m:Nat):∀ n∈Mw c m,1<=n/\n<=999:=fun n hn=>by
 unfold Mw at hn
 obtain⟨j,_,rfl⟩:=zy9.mp hn;unfold zbb;omega
inductive Ts where
 | enrol (n g c:Int)|away (i n:Int)|draw (ms:List P3)|close|back
noncomputable def Ux(ok:Addr->Prop)(H:Hp)(t:Addr):Ts->Prop
 | .enrol n g c=>H t=some (.tup [.str "enrol",.int n,.int g,.int c])
 | .away i n=>H t=some (.tup [.str "away",.int i,.int n])
 | .draw ms=>∃ l ts,H t=some (.tup [.str "draw up",.ref l])/\H l=some (.lst ts)/\TupL H ts (ms.map pV)/\ok l
 | .close=>H t=some (.tup [.str "close"])
 | .back=>H t=some (.tup [.str "take back"])
noncomputable def zea(S:Sea):Prop:=∀ s,S.cur=some s->s.ms.length<=20/\Yh s.may s.gv/\Vc s.may s.gv/\s.may=mayS S s.ms/\s.gaps.length<=S.std.length
noncomputable def M4(S S':Sea):Prop:=∃ d:U4,S'.std=S.std++[(d,S.cur)]/\zd8 S' d S.ppl S.out/\S'.len=S.len/\S'.rest=S.rest/\S'.led=S.led/\S'.old=S.old
noncomputable def M5(S:Sea):Ts->Prop
 | .enrol n g c=>S.led.length<S.len/\S.cur=none/\¬ badI n g c/\n∉S.ppl.map (·.1)/\S.ppl.length<30
 | .away i n=>(S.led.length:Int)<i/\i<=S.len/\n∈S.ppl.map (·.1)/\(i,n)∉S.out
 | .draw ms=>S.led.length<S.len/\S.cur=none/\ms.length<=20/\(∀ m∈ms,¬ badM m)/\∀ m∈ms,m.1≠m.2.1
 | .close=>S.led.length<S.len/\S.cur≠none
 | .back=>S.std≠[]
inductive Rl(H':Hp)(S:Sea):Ts->Sea->V->Prop where
 | enrol (n g c:Int):Rl H' S (.enrol n g c) { S with ppl:=S.ppl++[(n,g,c)],std:=S.std++[(((("enrol":Str),n,atV S):U4),S.cur)] } .non
 | awayN {i n:Int} {l:Addr} (h:S.cur=none\/atV S<i) (hl:H' l=some (.lst [])):Rl H' S (.away i n) (Xn S i n) (.ref l)
 | awayF {n:Int} {s:Zt} {l:Addr} (h:S.cur=some s) (hp:Wr s.gv n=none) (hl:H' l=some (.lst [])):Rl H' S (.away (atV S) n) { Xn S (atV S) n with cur:=some { s with may:=mayS (Xn S (atV S) n) s.ms } } (.ref l)
 | awayC {n:Int} {s:Zt} {p e:Nat} {l:Addr} {us:List V} {st:List (Nat×Option Int)} {w:Option Int} (h:S.cur=some s) (hp:Wr s.gv n=some p) (hl:H' l=some (.lst us)) (tl:TupL H' us (st.map V5)) (CR:Xi (mayS (Xn S (atV S) n) s.ms) (s.gv.set p .non) p st e w) :
   Rl H' S (.away (atV S) n) { Xn S (atV S) n with cur:=some ⟨s.ms,mayS (Xn S (atV S) n) s.ms,Yq st (s.gv.set p .non),s.gaps++[(n,st)]⟩ } (.ref l)
 | draw {ms:List P3} {gv:List V} {l:Addr} (hl:H' l=some (.lst gv)) (F:Yh (mayS S ms) gv) (T:Vc (mayS S ms) gv):Rl H' S (.draw ms) (zd6 S ms gv) (.ref l)
 | close {s:Zt} (h:S.cur=some s):Rl H' S .close (Fp S s) (.int (atV S))
 | back {S0:Sea} {d:U4} {t:Addr} (h:S.std=S0.std++[(d,S0.cur)]) (ht:H' t=some (.tup (Pm d))) (hs:M4 S0 S):Rl H' S .back S0 (.ref t)
noncomputable def K6(A A':SAd)(H:Hp):Prop:=∃ x,A'={ A with lt:=x }/\(x=A.lt\/H x=none)
inductive zia(K:PySem.W.Frag)(ca:CA)(vs:List V)(H:Hp)(Q:VK)(_:XK):Prop where
 | mk(A:SAd)(S:Sea)(t:Addr)(d:Ts)(_:vs=[.ref A.p,.ref t])(_:Zy ca H A S)(_:Ux (·∉A.fp) H t d)(_:M5 S d)(_:zea S)(_:Qb S)(_:S.std.length<100)(_:S.out.length<=100000)(_:2*(tot S.led+1000)<=100000)(_:S.led.length<=1000)(_:S.old.length<=1000)(_:S.len<=1000)(_:(∀ i n,d=.away i n->Y1 n))(_:(d=.back->∃ S0,M4 S0 S))(_:∀ v A' S' H',Rl H' S d S' v->Zy ca H' A' S'->K6 A A' H->FrS A H H'->(∀ l,v=.ref l->(∃ xs,H' l=some (.lst xs))->H l=none)->Q v H')
noncomputable abbrev Xl(b:List Stmt)(i:Nat):Stmt:=b.getD i (.Pass ⟨0,0,0,0⟩)
noncomputable def zfx:Stmt->Expr|.Return (some e) _=>e|_=>.Constant .none 0 ⟨0,0,0,0⟩
noncomputable def stP:Stmt->Pos|.Return _ p=>p|.Assign _ _ p=>p|_=>⟨0,0,0,0⟩
noncomputable def zeb:Stmt->List Expr|.Assign ts _ _=>ts|_=>[]
noncomputable def Q9:Stmt->Expr|.Assign _ v _=>v|_=>.Constant .none 0 ⟨0,0,0,0⟩
noncomputable def D5:Expr->Expr|.Subscript a _ _=>a|e=>e
noncomputable def zfy:Expr->Expr|.Subscript _ b _=>b|e=>e
noncomputable def zfz:Expr->Pos|.Subscript _ _ p=>p|_=>⟨0,0,0,0⟩
noncomputable def zbu:Expr->List Expr|.List es _=>es|_=>[]
noncomputable def zbv:Expr->Pos|.List _ p=>p|_=>⟨0,0,0,0⟩
noncomputable def M6:List Int->TA
 | []=>C7
 | x :: xs=>zgm (tC (.int x)) (M6 xs)
theorem Gy:∀ (xs:List Int) (σ:L2.St) (H:Hp) (Q:List V->Hp->Prop),Q (xs.map V.int) H->M6 xs σ H Q
 | [],_,_,_,h=>h
 | x :: xs,σ,H,Q,h=>Gy xs σ H (fun ys H2=>Q (.int x :: ys) H2) h
structure K7(es:List Expr)(xs:List Int):Prop where
 len:es.length=xs.length
 same:List.zipWith (fun i (e:Expr)=>Expr.Constant (.int i) 0 e.pos) xs es=es
theorem Qx{X:Cx}(xs:List Int){es:List Expr}(h:K7 es xs):PA X es (M6 xs):=by
 obtain⟨h1,h2⟩:=h
 induction xs generalizing es with
 | nil =>
   have:=z0e.mp h1;subst this;exact Zd
 | cons x xs ih =>
   cases es with
   | nil=>cases h1
   | cons e es =>
     rw[List.zipWith_cons_cons] at h2
     obtain⟨e1,e2⟩:=List.cons.inj h2;rw[<- e1];exact Za Zi (ih (Nat.succ.inj h1) e2) rfl
theorem D6(xs:List Int){σ:L2.St}{H:Hp}{Q:VK}(hz:xs.length<=1000)(h:∀ l,H l=none->Q (.ref l) (upd H l (.lst (xs.map V.int)))):C8 (M6 xs) σ H Q:=by
 refine Gy xs σ H _ ⟨?_,h⟩;rw[zyz];exact szN hz
theorem zai{K:PySem.W.Frag}(xs:List Int){ti:TE}{σ:L2.St}{H:Hp}{Q:VK}(hz:xs.length<=1000)(h:∀ l H1,H1 l=some (.lst (xs.map V.int))->Same H H1->H l=none->ti σ H1 fun y H2=>J8 K (.ref l) y H2 Q):tOp (J8 K) (C8 (M6 xs)) ti σ H Q :=
 D6 xs hz fun l hl=>h l _ Zb (Ze hl) hl
theorem zib{K:PySem.W.Frag}(xs:List Int){ti:TE}{D:T9}{σ:L2.St}{H:Hp}(hz:xs.length<=1000)(h:∀ l H1,H1 l=some (.lst (xs.map V.int))->Same H H1->H l=none->ti σ H1 fun y H2=>J8 K (.ref l) y H2 D.rt):zir (tOp (J8 K) (C8 (M6 xs)) ti) D σ H:=zai (Q:=D.rt) xs hz h
theorem zic{K:PySem.W.Frag}(xs:List Int){ti:TE}{i:Nat}{u:TS}{D:T9}{σ:L2.St}{H:Hp}(hz:xs.length<=1000)(h:∀ l H1,H1 l=some (.lst (xs.map V.int))->Same H H1->H l=none->ti σ H1 fun y H2=>J8 K (.ref l) y H2 fun x H3=>u D (σ.set i (some x)) H3):Zz (zat (tOp (J8 K) (C8 (M6 xs)) ti) (Vh i)) u D σ H:=zai xs hz h
theorem D7(xs:List Int){i:Nat}{u:TS}{D:T9}{σ:L2.St}{H:Hp}(hz:xs.length<=1000)(h:∀ l H1,H1 l=some (.lst (xs.map V.int))->Same H H1->H l=none->u D (σ.set i (some (.ref l))) H1):Zz (zat (C8 (M6 xs)) (Vh i)) u D σ H :=
 D6 (σ:=σ) (H:=H) (Q:=fun x H3=>u D (σ.set i (some x)) H3) xs hz fun l hl=>h l _ Zb (Ze hl) hl
theorem D8{a:Str}:decide (V.str a=V.str a)=true:=zy4 rfl
theorem Sm{a b:Str}(h:decide (a=b)=false):decide (V.str a=V.str b)=false:=zzb fun z=>of_decide_eq_false h (V.str.inj z)
theorem K6.refl(A:SAd)(H:Hp):K6 A A H:=⟨A.lt,rfl,.inl rfl⟩
noncomputable abbrev zid:=List (Int×List (Nat×Option Int))
structure Pg where
 len:Nat
 rest:Nat
 ppl:RL
 out:List (Int×Int)
 over:List Zt
 deed:Option U4
 lis:Option (List P3)
 gv:List V
 mv:zid
noncomputable def pgF(len rest:Nat)(lp lo lv:Addr)(dv li:V)(lg lm:Addr):List (Key×V):=[(.inr "rounds",.int len),(.inr "rest",.int rest),(.inr "people",.ref lp),(.inr "out",.ref lo),(.inr "over",.ref lv),(.inr "deed",dv),(.inr "listed",li),(.inr "goes",.ref lg),(.inr "moves",.ref lm)]
noncomputable def oiV(x:Int×Int):List V:=[.int x.1,.int x.2]
noncomputable def N9(ok:Addr->Prop)(H:Hp)(v:V):Option (List P3)->Prop
 | none=>v=.non
 | some ms=>∃ l ts,v=.ref l/\H l=some (.lst ts)/\TupL H ts (ms.map pV)/\ok l
noncomputable def D9(H:Hp)(v:V):Option U4->Prop
 | none=>v=.non
 | some d=>∃ t,v=.ref t/\H t=some (.tup (Pm d))
inductive Xd(ok:Addr->Prop)(H:Hp):List V->List Zt->Prop where
 | nil:Xd ok H [] []
 | cons {t l g m y:Addr} {ts mts:List V} {ls:List Addr} {s:Zt} {vs:List V} {ss:List Zt} (h:H t=some (.tup [.ref l,.ref g,.ref m,.ref y])) (hl:H l=some (.lst ts)) (tl:TupL H ts (s.ms.map pV)) (hg:H g=some (.lst s.gv)) (hm:H m=some (.lst mts)) (gm:Wn ok H mts s.gaps)
   (hy:H y=some (.lst (ls.map V.ref))) (iy:ILs H ls s.may) (o:ok l/\ok g/\ok m/\ok y/\∀ x∈ls,ok x) (r:Xd ok H vs ss):Xd ok H (.ref t :: vs) (s :: ss)
theorem N9.keep{ok:Addr->Prop}{H H':Hp}{v:V}{x:Option (List P3)}(h:N9 ok H v x)(k:∀ x o,ok x->H x=some o->H' x=some o)(kt:∀ t xs,H t=some (.tup xs)->H' t=some (.tup xs)):N9 ok H' v x:=by
 cases x with
 | none=>exact h
 | some ms=>obtain⟨l,ts,e,a,b,o⟩:=h;exact⟨l,ts,e,k _ _ o a,b.mono kt,o⟩
theorem N9.imp{ok ok':Addr->Prop}{H:Hp}{v:V}{x:Option (List P3)}(h:N9 ok H v x)(k:∀ x,(∃ o,H x=some o)->ok x->ok' x):N9 ok' H v x:=by
 cases x with
 | none=>exact h
 | some ms=>obtain⟨l,ts,e,a,b,o⟩:=h;exact⟨l,ts,e,a,b,k _ ⟨_,a⟩ o⟩
theorem D9.keep{H H':Hp}{v:V}{x:Option U4}(h:D9 H v x)(kt:∀ t xs,H t=some (.tup xs)->H' t=some (.tup xs)):D9 H' v x:=by
 cases x with
 | none=>exact h
 | some d=>obtain⟨t,e,a⟩:=h;exact⟨t,e,kt _ _ a⟩
theorem Xd.keep{ok:Addr->Prop}{H H':Hp}(k:∀ x o,ok x->H x=some o->H' x=some o)(kt:∀ t xs,H t=some (.tup xs)->H' t=some (.tup xs)):∀ {vs:List V} {ss:List Zt},Xd ok H vs ss->Xd ok H' vs ss
 | _,_,.nil=>.nil
 | _,_,.cons h hl tl hg hm gm hy iy o r=>.cons (kt _ _ h) (k _ _ o.1 hl) (tl.mono kt) (k _ _ o.2.1 hg) (k _ _ o.2.2.1 hm) (gm.keep k kt) (k _ _ o.2.2.2.1 hy) (iy.keep fun x hx _ q=>k _ _ (o.2.2.2.2 x hx) q) o (Xd.keep k kt r)
theorem Xd.imp{ok ok':Addr->Prop}{H:Hp}(k:∀ x,(∃ o,H x=some o)->ok x->ok' x):∀ {vs:List V} {ss:List Zt},Xd ok H vs ss->Xd ok' H vs ss
 | _,_,.nil=>.nil
 | _,_,.cons h hl tl hg hm gm hy iy o r=>.cons h hl tl hg hm (gm.imp k) hy iy ⟨k _ ⟨_,hl⟩ o.1,k _ ⟨_,hg⟩ o.2.1,k _ ⟨_,hm⟩ o.2.2.1,k _ ⟨_,hy⟩ o.2.2.2.1,fun x hx=>k _ (let ⟨_,z⟩:=iy.has hx;⟨_,z⟩) (o.2.2.2.2 x hx)⟩ (Xd.imp k r)
theorem Xd.length{ok:Addr->Prop}{H:Hp}:∀ {vs:List V} {ss:List Zt},Xd ok H vs ss->vs.length=ss.length
 | _,_,.nil=>rfl
 | _,_,.cons _ _ _ _ _ _ _ _ _ r=>by simp[Xd.length r]
theorem Xd.snoc{ok:Addr->Prop}{H:Hp}{t l g m y:Addr}{ts mts:List V}{ls:List Addr}{s:Zt}(h:H t=some (.tup [.ref l,.ref g,.ref m,.ref y]))(hl:H l=some (.lst ts))(tl:TupL H ts (s.ms.map pV))(hg:H g=some (.lst s.gv))(hm:H m=some (.lst mts))(gm:Wn ok H mts s.gaps)
   (hy:H y=some (.lst (ls.map V.ref))) (iy:ILs H ls s.may) (o:ok l/\ok g/\ok m/\ok y/\∀ x∈ls,ok x):∀ {vs:List V} {ss:List Zt},Xd ok H vs ss->Xd ok H (vs++[.ref t]) (ss++[s])
 | _,_,.nil=>.cons h hl tl hg hm gm hy iy o .nil
 | _,_,.cons h' hl' tl' hg' hm' gm' hy' iy' o' r=>.cons h' hl' tl' hg' hm' gm' hy' iy' o' (Xd.snoc h hl tl hg hm gm hy iy o r)
theorem Xd.get{ok:Addr->Prop}{H:Hp}:∀ {vs:List V} {ss:List Zt} {i:Nat} {x:V},Xd ok H vs ss->vs[i]?=some x->∃ t l g m y ts s,x=.ref t/\ss[i]?=some s/\H t=some (.tup [.ref l,.ref g,.ref m,.ref y])/\H l=some (.lst ts)/\TupL H ts (s.ms.map pV)/\H g=some (.lst s.gv)/\ok l/\ok g
 | _,_,_,_,.nil,e=>by simp at e
 | _,_,0,_,.cons h hl tl hg _ _ _ _ o _,e=>by simp at e;subst e;exact⟨_,_,_,_,_,_,_,rfl,rfl,h,hl,tl,hg,o.1,o.2.1⟩
 | _,_,i+1,x,.cons _ _ _ _ _ _ _ _ _ r,e=>by
   obtain⟨t,l,g,m,y,ts,s,h1,h2,h3⟩:=Xd.get (i:=i) (x:=x) r (by simpa using e)
   exact⟨t,l,g,m,y,ts,s,h1,by simpa using h2,h3⟩
structure PgAt(ok:Addr->Prop)(H:Hp)(d:Addr)(P:Pg):Prop where
 ex:∃ lp lo lv dv li lg lm pts ots vts mts,H d=some (.dK (pgF P.len P.rest lp lo lv dv li lg lm))/\H lp=some (.lst pts)/\TupL H pts (P.ppl.map pV)/\H lo=some (.lst ots)/\TupL H ots (P.out.map oiV)/\H lv=some (.lst vts)/\Xd ok H vts P.over/\D9 H dv P.deed/\N9 ok H li P.lis/\H lg=some (.lst P.gv)/\H lm=some (.lst mts)/\Wn ok H mts P.mv /\
  (ok d/\ok lp/\ok lo/\ok lv/\ok lg/\ok lm)
theorem PgAt.keep{ok:Addr->Prop}{H H':Hp}{d:Addr}{P:Pg}(h:PgAt ok H d P)(k:∀ x o,ok x->H x=some o->H' x=some o)(kt:∀ t xs,H t=some (.tup xs)->H' t=some (.tup xs)):PgAt ok H' d P:=by
 obtain⟨lp,lo,lv,dv,li,lg,lm,pts,ots,vts,mts,a1,a2,a3,a4,a5,a6,a7,a8,a9,b1,b2,b3,o1,o2,o3,o4,o5,o6⟩:=h;exact⟨lp,lo,lv,dv,li,lg,lm,pts,ots,vts,mts,k _ _ o1 a1,k _ _ o2 a2,a3.mono kt,k _ _ o3 a4,a5.mono kt,k _ _ o4 a6,a7.keep k kt,a8.keep kt,a9.keep k kt,k _ _ o5 b1,k _ _ o6 b2,b3.keep k kt,o1,o2,o3,o4,o5,o6⟩
theorem PgAt.imp{ok ok':Addr->Prop}{H:Hp}{d:Addr}{P:Pg}(h:PgAt ok H d P)(k:∀ x,(∃ o,H x=some o)->ok x->ok' x):PgAt ok' H d P:=by
 obtain⟨lp,lo,lv,dv,li,lg,lm,pts,ots,vts,mts,a1,a2,a3,a4,a5,a6,a7,a8,a9,b1,b2,b3,o1,o2,o3,o4,o5,o6⟩:=h;exact⟨lp,lo,lv,dv,li,lg,lm,pts,ots,vts,mts,a1,a2,a3,a4,a5,a6,a7.imp k,a8,a9.imp k,b1,b2,b3.imp k,k _ ⟨_,a1⟩ o1,k _ ⟨_,a2⟩ o2,k _ ⟨_,a4⟩ o3,k _ ⟨_,a6⟩ o4,k _ ⟨_,b1⟩ o5,k _ ⟨_,b2⟩ o6⟩
theorem PgAt.same{ok:Addr->Prop}{H H':Hp}{d:Addr}{P:Pg}(h:PgAt ok H d P)(e:Same H H'):PgAt ok H' d P:=h.keep (fun _ _ _ q=>e _ _ q) fun _ _ q=>e _ _ q
section
variable{len rest:Nat}{lp lo lv lg lm:Addr}{dv li:V}
theorem Bv{x:Addr}:putK (pgF len rest lp lo lv dv li lg lm) (.inr "people") (.ref x)=pgF len rest x lo lv dv li lg lm:=rfl
theorem zf0{x:Addr}:putK (pgF len rest lp lo lv dv li lg lm) (.inr "out") (.ref x)=pgF len rest lp x lv dv li lg lm:=rfl
theorem zec{x:Addr}:putK (pgF len rest lp lo lv dv li lg lm) (.inr "over") (.ref x)=pgF len rest lp lo x dv li lg lm:=rfl
theorem K8{v:V}:putK (pgF len rest lp lo lv dv li lg lm) (.inr "deed") v=pgF len rest lp lo lv v li lg lm:=rfl
theorem K9{v:V}:putK (pgF len rest lp lo lv dv li lg lm) (.inr "listed") v=pgF len rest lp lo lv dv v lg lm:=rfl
theorem Ca{x:Addr}:putK (pgF len rest lp lo lv dv li lg lm) (.inr "goes") (.ref x)=pgF len rest lp lo lv dv li x lm:=rfl
theorem zbw{x:Addr}:putK (pgF len rest lp lo lv dv li lg lm) (.inr "moves") (.ref x)=pgF len rest lp lo lv dv li lg x:=rfl
end
theorem zed{len rest:Nat}{lp lo lv lg lm:Addr}{dv li:V}:(pgF len rest lp lo lv dv li lg lm).length<sizeLine:=by rw[sizeLine_eq];show 9<_;decide
noncomputable def pg6(len rest:Nat)(lp lo lv:Addr)(dv:V):List (Key×V):=[(.inr "rounds",.int len),(.inr "rest",.int rest),(.inr "people",.ref lp),(.inr "out",.ref lo),(.inr "over",.ref lv),(.inr "deed",dv)]
theorem zbx{len rest:Nat}{lp lo lv:Addr}{dv:V}:Sw [] (pg6 len rest lp lo lv dv)=pg6 len rest lp lo lv dv:=rfl
theorem zf1{len rest:Nat}{lp lo lv:Addr}{dv x y z:V}:putK (putK (putK (pg6 len rest lp lo lv dv) (.inr "listed") x) (.inr "goes") y) (.inr "moves") z=pg6 len rest lp lo lv dv++[(.inr "listed",x),(.inr "goes",y),(.inr "moves",z)]:=rfl
theorem Ma{len rest:Nat}{lp lo lv:Addr}{dv x y:V}:(pg6 len rest lp lo lv dv).length<sizeLine/\(putK (pg6 len rest lp lo lv dv) (.inr "listed") x).length<sizeLine/\(putK (putK (pg6 len rest lp lo lv dv) (.inr "listed") x) (.inr "goes") y).length<sizeLine:=by
 rw[sizeLine_eq];exact⟨by show 6<_;decide,by show 7<_;decide,by show 8<_;decide⟩
noncomputable def Bw(r q:Nat):Pg:=⟨r,q,[],[],[],none,none,[],[]⟩
inductive zaj(vs:List V)(H:Hp)(Q:VK)(_:XK):Prop where
 | mk(r q:Nat)(_:vs=[.int r,.int q])(_:∀ d H',PgAt (fun x=>H x=none) H' d (Bw r q)->Same H H'->H d=none->Q (.ref d) H')
noncomputable def Ja(P:Pg):Prop:=P.over.length<=100/\P.rest<=100/\∀ s∈P.over,s.ms.length<=20/\s.gv.length=s.ms.length/\∀ x∈s.gv,oneV x
noncomputable def zee(kvs:List (List Key×V))(P:Pg):Prop:=∀ n c:Int,(valV kvs [Sum.inl n,Sum.inl c]).isSome=Rj (P.over.map Ye) n c P.rest
inductive zak(K:PySem.W.Frag)(vs:List V)(H:Hp)(Q:VK)(_:XK):Prop where
 | mk(ok:Addr->Prop)(d:Addr)(P:Pg)(_:vs=[.ref d])(_:PgAt ok H d P)(_:Ja P)(_:∀ m kvs H',H' m=some (.dT kvs)->zee kvs P->Same H H'->H m=none->Q (.ref m) H')
theorem zef(xs:List V)(n r:Nat):J7 xs (some (if ((n:Int)-r)>0 then (n:Int)-r else 0)) none=xs.drop ((n:Int)-r).toNat:=by
 have e:(if ((n:Int)-r)>0 then (n:Int)-r else 0)=((((n:Int)-r).toNat:Nat):Int):=by split<;>omega
 rw[e];exact zbi xs _
theorem Xd.drop{ok:Addr->Prop}{H:Hp}:∀ (k:Nat) {vs:List V} {ss:List Zt},Xd ok H vs ss->Xd ok H (vs.drop k) (ss.drop k)
 | 0,_,_,h=>h
 | _+1,_,_,.nil=>.nil
 | k+1,_,_,.cons _ _ _ _ _ _ _ _ _ r=>Xd.drop k r
noncomputable def HitI(ss:List Zt)(i j:Nat)(n c:Int):Prop:=(∃ s∈ss.take i,∃ r∈Ye s,hit n c r=true)\/∃ s,ss[i]?=some s/\∃ r∈(Ye s).take j,hit n c r=true
noncomputable def Od(kvs:List (List Key×V))(ss:List Zt)(i j:Nat):Prop:=∀ n c:Int,(valV kvs [Sum.inl n,Sum.inl c]).isSome=true↔HitI ss i j n c
theorem Wf{α:Type}{l:List α}{j:Nat}{x:α}(h:l[j]?=some x):l.take (j+1)=l.take j++[x]:=by rw[zz6,h];rfl
theorem Od.zero(ss:List Zt):Od [] ss 0 0:=fun n c=>by
 unfold HitI;simp[zcz]
theorem Od.next{kvs:List (List Key×V)}{ss:List Zt}{i:Nat}{s:Zt}(h:Od kvs ss i (Ye s).length)(hs:ss[i]?=some s):Od kvs ss (i+1) 0:=fun n c=>by
 rw[h n c];unfold HitI;rw[Wf hs,hs];constructor
 ·rintro(⟨s',h1,h2⟩|⟨s',h1,r,h2,h3⟩)
  ·exact .inl ⟨s',zzu _ h1,h2⟩
  ·cases h1
   exact .inl ⟨s,zzj _ (z0t _),r,List.mem_of_mem_take h2,h3⟩
 ·rintro(⟨s',h1,r,h2,h3⟩|⟨s',h1,r,h2,h3⟩)
  ·rcases zy6.mp h1 with h1|h1
   ·exact .inl ⟨s',h1,r,h2,h3⟩
   ·cases zy3.mp h1
    exact .inr ⟨_,rfl,r,by rw[zzh];exact h2,h3⟩
  ·simp at h2
theorem HitI.succ{ss:List Zt}{i j:Nat}{n c:Int}{s:Zt}{r:Row}(hs:ss[i]?=some s)(hr:(Ye s)[j]?=some r):HitI ss i (j+1) n c↔HitI ss i j n c\/hit n c r=true:=by
 unfold HitI;rw[hs];constructor
 ·rintro(z|⟨s',h1,r',h2,h3⟩)
  ·exact .inl (.inl z)
  ·cases h1
   rw[Wf hr] at h2
   rcases zy6.mp h2 with h2|h2
   ·exact .inl (.inr ⟨_,rfl,r',h2,h3⟩)
   ·cases zy3.mp h2;exact .inr h3
 ·rintro((z|⟨s',h1,r',h2,h3⟩)|z)
  ·exact .inl z
  ·cases h1
   exact .inr ⟨_,rfl,r',by rw[Wf hr];exact zzu _ h2,h3⟩
  ·exact .inr ⟨_,rfl,r,by rw[Wf hr];exact zzj _ (z0t _),z⟩
theorem Od.none{kvs:List (List Key×V)}{ss:List Zt}{i j:Nat}{s:Zt}{r:Row}(h:Od kvs ss i j)(hs:ss[i]?=some s)(hr:(Ye s)[j]?=some r)(hw:r.w=none):Od kvs ss i (j+1):=fun n c=>by
 rw[h n c,HitI.succ hs hr];unfold hit;rw[hw];simp
theorem Od.some{kvs:List (List Key×V)}{ss:List Zt}{i j:Nat}{s:Zt}{r:Row}{w:Int}{v v':V}(h:Od kvs ss i j)(hs:ss[i]?=some s)(hr:(Ye s)[j]?=some r)(hw:r.w=some w):Od (putK (putK kvs [Sum.inl w,Sum.inl r.h] v) [Sum.inl w,Sum.inl r.g] v') ss i (j+1):=fun n c=>by
 rw[HitI.succ hs hr,<- h n c,Vj,Vj];unfold hit;rw[hw];by_cases e1:([Sum.inl n,Sum.inl c]:List Key)=[Sum.inl w,Sum.inl r.g]
 ·rw[if_pos e1]
  have:=e1;simp at this
  obtain⟨rfl,rfl⟩:=this;simp
 ·rw[if_neg e1]
  by_cases e2:([Sum.inl n,Sum.inl c]:List Key)=[Sum.inl w,Sum.inl r.h]
  ·rw[if_pos e2]
   have:=e2;simp at this
   obtain⟨rfl,rfl⟩:=this;simp
  ·rw[if_neg e2]
   constructor
   ·exact .inl
   ·rintro(z|z)
    ·exact z
    ·exfalso
     simp at z e1 e2
     obtain⟨z1,z2|z2⟩:=z
     ·exact e2 z1.symm z2.symm
     ·exact e1 z1.symm z2.symm
theorem Od.all{kvs:List (List Key×V)}{P:Pg}{k:Nat}(h:Od kvs (P.over.drop k) (P.over.drop k).length 0)(hk:k=((P.over.length:Int)-P.rest).toNat):zee kvs P:=fun n c=>by
 apply z0z.mpr;rw[h n c,zbh (Int.natCast_nonneg _),zyz,<- hk,<- List.map_drop];unfold HitI;rw[zzh];constructor
 ·rintro(⟨s,h1,h2⟩|⟨s,h1,r,h2,_⟩)
  ·exact⟨Ye s,zy9.mpr ⟨s,h1,rfl⟩,h2⟩
  ·simp at h2
 ·rintro⟨rs,h1,h2⟩
  obtain⟨s,h3,rfl⟩:=zy9.mp h1;exact .inl ⟨s,h3,h2⟩
end G

namespace L2
open PySem PySem.Spec PyProof.Rows G
noncomputable def V6(x:Int×Int):Dt:=.tup [.int x.1,.int x.2]
theorem Jb{K:PySem.W.Frag}{H:Hp}:∀ {ts:List V} {ps:List (Int×Int)},TupL H ts (ps.map oiV)->Wc K H ts (ps.map V6)
 | _,[],h=>by cases h;exact .nil
 | _,p :: ps,h=>by
   rw[zzc] at h
   cases h with
   | cons e r=>exact .cons (.tup (SqT.of e) (.cons (.int _) (.cons (.int _) .nil))) (Jb r)
theorem Mb:∀ ps:List (Int×Int),PyData.canLayAll0 (X3 (ps.map V6))=true
 | []=>rfl
 | p :: ps=>by
   rw[zzc,X3,PyData.canLayAll0,Mb ps];rfl
theorem Mc{a b:Int}:∀ ps:List (Int×Int),((X3 (ps.map V6)).any fun y=>PyData.eqv y (toPy (V6 (a,b))))=decide ((a,b)∈ps)
 | []=>by simp[X3]
 | p :: ps=>by
   rw[zzc,X3,z02,Mc ps,Ox];obtain⟨p1,p2⟩:=p;have e:eqD (V6 (p1,p2)) (V6 (a,b))=decide ((a,b)=(p1,p2)):=by
    rw[V6,V6,eqD,Q7,Q7,Q7,eqD,eqD];by_cases h1:p1=a
    ·by_cases h2:p2=b
     ·subst h1;subst h2;simp
     ·rw[zzb (fun z=>h2 (Prod.mk.inj z).2.symm)]
      simp[h2]
    ·rw[zzb (fun z=>h1 (Prod.mk.inj z).1.symm)]
     simp[h1]
   rw[e,<- Bool.decide_or];exact decide_eq_decide.mpr zy8.symm
inductive zf2(K:PySem.W.Frag)(neg:Bool)(x:V)(y:V)(H:Hp)(Q:VK):Prop where
 | mk(t p:Addr)(ts:List V)(a b:Int)(ps:List (Int×Int))(_:x=.ref t)(_:y=.ref p)(_:SqT K H t [.int a,.int b])(_:SqL K H p ts)(_:TupL H ts (ps.map oiV))(_:Q (.bl (if neg then !decide ((a,b)∈ps) else decide ((a,b)∈ps))) H)
section
variable{X:Cx}{K:PySem.W.Frag}
theorem Cb(hu:X.A.units+64<cLine):OpR X (compareOp .In) (zf2 X.K false):=by
 intro pins s σ H x y v u Q I rx ry h;obtain⟨t,p,ts,a,b,ps,rfl,rfl,ht,hp,tl,q⟩:=h;obtain⟨as,r1⟩:=Is.reads I (Is.tup ht (.cons (.int a) (.cons (.int b) .nil)):Is X.K H (.ref t) (V6 (a,b))) rx;have r1:Reads s.heap v (toPy (V6 (a,b))) as:=r1;obtain⟨bs,r2⟩:=Is.reads I (Is.lst hp (Jb tl)) ry;rw[toPy] at r2
 have hd:(toPy (V6 (a,b))).depth=1:=rfl;refine SeqAt.in_list_reads r2 r1 (Mb ps) rfl ?_ ?_
 ·have:=Nat.min_le_right (PyData.depthAll (X3 (ps.map V6))) (toPy (V6 (a,b))).depth
  rw[hd] at this ⊢
  omega
 ·rw[Mc];exact⟨.bl _,H,I,rfl,q⟩
theorem Jc(hu:X.A.units+64<cLine):OpR X (compareOp .NotIn) (zf2 X.K true):=by
 intro pins s σ H x y v u Q I rx ry h;obtain⟨t,p,ts,a,b,ps,rfl,rfl,ht,hp,tl,q⟩:=h;obtain⟨as,r1⟩:=Is.reads I (Is.tup ht (.cons (.int a) (.cons (.int b) .nil)):Is X.K H (.ref t) (V6 (a,b))) rx;have r1:Reads s.heap v (toPy (V6 (a,b))) as:=r1;obtain⟨bs,r2⟩:=Is.reads I (Is.lst hp (Jb tl)) ry;rw[toPy] at r2
 have hd:(toPy (V6 (a,b))).depth=1:=rfl;refine SeqAt.notIn_list_reads r2 r1 (Mb ps) rfl ?_ ?_
 ·have:=Nat.min_le_right (PyData.depthAll (X3 (ps.map V6))) (toPy (V6 (a,b))).depth
  rw[hd] at this ⊢
  omega
 ·rw[Mc];exact⟨.bl _,H,I,rfl,q⟩
theorem Fq(hK:X.K=K)(hu:X.A.units+64<cLine):OpR X (compareOp .In) (zf2 K false):=hK▸Cb hu
theorem Ll(hK:X.K=K)(hu:X.A.units+64<cLine):OpR X (compareOp .NotIn) (zf2 K true):=hK▸Jc hu
end
end L2

namespace G
open PySem PySem.Spec PyProof.Rows L2
noncomputable def Pa(P:Pg)(x m:P3):List Str:=whyS (P.over.map Ye) x.1 x.2.1 x.2.2 m.1 m.2.1 m.2.2 (decide (((P.over.length:Int)+1,x.1)∈P.out)) P.rest
inductive Cc(K:PySem.W.Frag)(vs:List V)(H:Hp)(Q:VK)(_:XK):Prop where
 | mk(ok:Addr->Prop)(d m t1 t2:Addr)(P:Pg)(kvs:List (List Key×V))(x y:P3)(_:vs=[.ref d,.ref m,.ref t1,.ref t2])(_:PgAt ok H d P)(_:H m=some (.dT kvs))(_:zee kvs P)(_:H t1=some (.tup (pV x)))(_:H t2=some (.tup (pV y)))(_:∀ l H',H' l=some (.lst ((Pa P x y).map V.str))->Same H H'->H l=none->Q (.ref l) H')
noncomputable def Qd(P:Pg)(ms:List P3):List (List Int):=ms.map fun m=>(P.ppl.filter fun x=>(Pa P x m).isEmpty).map (·.1)
theorem zby{P:Pg}{S:Sea}(h1:P.ppl=S.ppl)(h2:P.over.map Ye=S.led)(h3:P.out=S.out)(h4:P.rest=S.rest)(h5:((P.over.length:Int)+1)=atV S)(ms:List P3):Qd P ms=mayS S ms:=by
 unfold Qd mayS;refine z0m fun m _=>?_
 unfold K1 Pa pIn;rw[h1,h2,h3,h4,h5]
inductive Bx(K:PySem.W.Frag)(vs:List V)(H:Hp)(Q:VK)(_:XK):Prop where
 | mk(ok:Addr->Prop)(d:Addr)(P:Pg)(ms:List P3)(_:vs=[.ref d])(_:PgAt ok H d P)(_:Ja P)(_:P.lis=some ms)(_:ms.length<=100)(_:P.ppl.length<=100)(_:∀ l ls H',H' l=some (.lst (ls.map V.ref))->ILs H' ls (Qd P ms)->Same H H'->H l=none->(∀ x∈ls,H x=none)->Q (.ref l) H')
theorem zf3(r:List Str)(ok:∀ w∈r,PyData.strOk w=true):shD (.lst (r.map Dt.str)):=by
 have h:PyData.canLayAll0 (X3 (r.map Dt.str))=true/\PyData.depthAll (X3 (r.map Dt.str))<=1:=by
  induction r with
  | nil=>exact⟨rfl,by decide⟩
  | cons x r ih =>
    obtain⟨h1,h2⟩:=ih fun w hw=>ok w (zzi _ hw)
    have h0:=ok x (zzt);refine⟨?_,?_⟩
    ·rw[zzc,X3,PyData.canLayAll0,h1];simp[toPy,PyData.canLay0,h0]
    ·rw[zzc,X3,PyData.depthAll]
     have:PyData.depth (toPy (Dt.str x))<=1:=by simp[toPy,PyData.depth]
     omega
 unfold shD SeqAt.shaped;rw[toPy,PyData.canLay0,h.1,Bool.true_and];refine zy4 ?_;rw[PyData.depth];have:=h.2;omega
theorem Jd{K:PySem.W.Frag}{H:Hp}:∀ ws:List Str,Wc K H (ws.map V.str) (ws.map Dt.str)
 | []=>.nil
 | w :: ws=>.cons (.str w) (Jd ws)
theorem zie{b:Bool}{w x:Str}(h:x∈bw b w):x=w:=by
 cases b<;>simp[bw] at h;exact h
theorem zf4{Rs:List (List Row)}{n g c h gu d:Int}{o:Bool}{rest:Int}:∀ w∈whyS Rs n g c h gu d o rest,PyData.strOk w=true:=fun w hw=>by
 unfold whyS at hw
 simp only[zy6] at hw
 rcases hw with z|z|z|z<;>rw[zie z]<;>decide +kernel
noncomputable def Xk(H H':Hp):Prop:=(∀ x ys,H x=some (.lst ys)->H' x=some (.lst ys))/\∀ x ys,H x=some (.tup ys)->H' x=some (.tup ys)
theorem Xk.dict{H:Hp}{d:Addr}{kvs kvs':List (Key×V)}(h:H d=some (.dK kvs)):Xk H (upd H d (.dK kvs')) :=
 ⟨fun x ys e=>by rw[Zh (Ym e h (by intro z;cases z))];exact e,fun x ys e=>by rw[Zh (Ym e h (by intro z;cases z))];exact e⟩
theorem Xk.trans{H H' H'':Hp}(a:Xk H H')(b:Xk H' H''):Xk H H'':=⟨fun x ys e=>b.1 _ _ (a.1 _ _ e),fun x ys e=>b.2 _ _ (a.2 _ _ e)⟩
theorem Xk.of{H H':Hp}(e:Same H H'):Xk H H':=⟨fun x ys z=>e _ _ z,fun x ys z=>e _ _ z⟩
theorem Wn.keepL{ok:Addr->Prop}{H H':Hp}(k:Xk H H'):∀ {ts:List V} {G:zid},Wn ok H ts G->Wn ok H' ts G
 | _,_,.nil=>.nil
 | _,_,.cons h hl tl o r=>.cons (k.2 _ _ h) (k.1 _ _ hl) (tl.mono k.2) o (Wn.keepL k r)
theorem ILs.keepL{H H':Hp}(k:Xk H H'):∀ {ls:List Addr} {R:List (List Int)},ILs H ls R->ILs H' ls R
 | _,_,.nil=>.nil
 | _,_,.cons h n=>.cons (k.1 _ _ h) (ILs.keepL k n)
theorem N9.keepL{ok:Addr->Prop}{H H':Hp}{v:V}{x:Option (List P3)}(k:Xk H H')(h:N9 ok H v x):N9 ok H' v x:=by
 cases x with
 | none=>exact h
 | some ms=>obtain⟨l,ts,e,a,b,o⟩:=h;exact⟨l,ts,e,k.1 _ _ a,b.mono k.2,o⟩
theorem Xd.keepL{ok:Addr->Prop}{H H':Hp}(k:Xk H H'):∀ {vs:List V} {ss:List Zt},Xd ok H vs ss->Xd ok H' vs ss
 | _,_,.nil=>.nil
 | _,_,.cons h hl tl hg hm gm hy iy o r=>.cons (k.2 _ _ h) (k.1 _ _ hl) (tl.mono k.2) (k.1 _ _ hg) (k.1 _ _ hm) (gm.keepL k) (k.1 _ _ hy) (ILs.keepL k iy) o (Xd.keepL k r)
structure PgB(ok:Addr->Prop)(H:Hp)(P:Pg)(lp lo lv:Addr)(dv li:V)(lg lm:Addr):Prop where
 pp:∃ pts,H lp=some (.lst pts)/\TupL H pts (P.ppl.map pV)/\ok lp
 oo:∃ ots,H lo=some (.lst ots)/\TupL H ots (P.out.map oiV)/\ok lo
 vv:∃ vts,H lv=some (.lst vts)/\Xd ok H vts P.over/\ok lv
 dd:D9 H dv P.deed
 li:N9 ok H li P.lis
 gg:H lg=some (.lst P.gv)/\ok lg
 mm:∃ mts,H lm=some (.lst mts)/\Wn ok H mts P.mv/\ok lm
theorem PgB.keepL{ok:Addr->Prop}{H H':Hp}{P:Pg}{lp lo lv:Addr}{dv li:V}{lg lm:Addr}(h:PgB ok H P lp lo lv dv li lg lm)(k:Xk H H'):PgB ok H' P lp lo lv dv li lg lm:=by
 obtain⟨⟨p1,p2,p3,p4⟩,⟨o1,o2,o3,o4⟩,⟨v1,v2,v3,v4⟩,dd,li,⟨g1,g2⟩,m1,m2,m3,m4⟩:=h;exact⟨⟨p1,k.1 _ _ p2,p3.mono k.2,p4⟩,⟨o1,k.1 _ _ o2,o3.mono k.2,o4⟩,⟨v1,k.1 _ _ v2,v3.keepL k,v4⟩,dd.keep k.2,li.keepL k,⟨k.1 _ _ g1,g2⟩,m1,k.1 _ _ m2,m3.keepL k,m4⟩
theorem PgB.imp{ok ok':Addr->Prop}{H:Hp}{P:Pg}{lp lo lv:Addr}{dv li:V}{lg lm:Addr}(h:PgB ok H P lp lo lv dv li lg lm)(k:∀ x,(∃ o,H x=some o)->ok x->ok' x):PgB ok' H P lp lo lv dv li lg lm:=by
 obtain⟨⟨p1,p2,p3,p4⟩,⟨o1,o2,o3,o4⟩,⟨v1,v2,v3,v4⟩,dd,li,⟨g1,g2⟩,m1,m2,m3,m4⟩:=h;exact⟨⟨p1,p2,p3,k _ ⟨_,p2⟩ p4⟩,⟨o1,o2,o3,k _ ⟨_,o2⟩ o4⟩,⟨v1,v2,v3.imp k,k _ ⟨_,v2⟩ v4⟩,dd,li.imp k,⟨g1,k _ ⟨_,g1⟩ g2⟩,m1,m2,m3.imp k,k _ ⟨_,m2⟩ m4⟩
theorem PgAt.split{ok:Addr->Prop}{H:Hp}{d:Addr}{P:Pg}(h:PgAt ok H d P):∃ lp lo lv dv li lg lm,H d=some (.dK (pgF P.len P.rest lp lo lv dv li lg lm))/\PgB ok H P lp lo lv dv li lg lm/\ok d:=by
 obtain⟨lp,lo,lv,dv,li,lg,lm,pts,ots,vts,mts,a1,a2,a3,a4,a5,a6,a7,a8,a9,b1,b2,b3,o1,o2,o3,o4,o5,o6⟩:=h;exact⟨lp,lo,lv,dv,li,lg,lm,a1,⟨⟨_,a2,a3,o2⟩,⟨_,a4,a5,o3⟩,⟨_,a6,a7,o4⟩,a8,a9,⟨b1,o5⟩,_,b2,b3,o6⟩,o1⟩
theorem PgAt.join{ok:Addr->Prop}{H:Hp}{d:Addr}{P:Pg}{lp lo lv:Addr}{dv li:V}{lg lm:Addr}(hd:H d=some (.dK (pgF P.len P.rest lp lo lv dv li lg lm)))(h:PgB ok H P lp lo lv dv li lg lm)(o:ok d):PgAt ok H d P:=by
 obtain⟨⟨p1,p2,p3,p4⟩,⟨o1,o2,o3,o4⟩,⟨v1,v2,v3,v4⟩,dd,li',⟨g1,g2⟩,m1,m2,m3,m4⟩:=h;exact⟨lp,lo,lv,dv,li,lg,lm,p1,o1,v1,m1,hd,p2,p3,o2,o3,v2,v3,dd,li',g1,m2,m3,o,p4,o4,v4,g2,m4⟩
theorem PgAt.other{ok:Addr->Prop}{H:Hp}{d e:Addr}{P:Pg}{kvs kvs':List (Key×V)}(h:PgAt ok H d P)(n:d≠e)(he:H e=some (.dK kvs)):PgAt ok (upd H e (.dK kvs')) d P:=by
 obtain⟨lp,lo,lv,dv,li,lg,lm,a1,a2,a3⟩:=h.split;exact .join (by rw[Zh n];exact a1) (a2.keepL (.dict he)) a3
theorem PgAt.setGoes{ok:Addr->Prop}{H:Hp}{d l:Addr}{P:Pg}{xs:List V}(h:PgAt ok H d P)(hl:H l=some (.lst xs))(ol:ok l):∃ kvs,H d=some (.dK kvs)/\kvs.length<sizeLine/\PgAt ok (upd H d (.dK (putK kvs (.inr "goes") (.ref l)))) d { P with gv:=xs }:=by
 obtain⟨lp,lo,lv,dv,li,lg,lm,a1,a2,a3⟩:=h.split;refine⟨_,a1,zed,?_⟩;rw[Ca];have b:=a2.keepL (.dict a1 (kvs':=pgF P.len P.rest lp lo lv dv li l lm));exact .join (P:={ P with gv:=xs }) Zb ⟨b.pp,b.oo,b.vv,b.dd,b.li,⟨(Xk.dict a1).1 _ _ hl,ol⟩,b.mm⟩ a3
noncomputable def Ua(P:Pg):Ts->Pg
 | .enrol n g c=>{ P with ppl:=P.ppl++[(n,g,c)],deed:=some ("enrol",n,(P.over.length:Int)+1) }
 | .away i n=>{ P with out:=P.out++[(i,n)],deed:=some ("away",n,i) }
 | .draw ms=>{ P with lis:=some ms,deed:=some ("draw up",(ms.length:Int),(P.over.length:Int)+1) }
 | .close=>{ P with over:=P.over++[⟨P.lis.getD [],Qd P (P.lis.getD []),P.gv,P.mv⟩],lis:=none,gv:=[],mv:=[] }
 | .back=>P
noncomputable def By(ds:List Addr)(d d':Addr):Ts->List Addr
 | .back=>ds
 | .close=>[d']
 | _=>ds++[d]++[d']
inductive Fs(K:PySem.W.Frag)(vs:List V)(H:Hp)(Q:VK)(_:XK):Prop where
 | mk(ok:Addr->Prop)(l t:Addr)(ds:List Addr)(d:Addr)(P:Pg)(D:Ts)(_:vs=[.ref l,.ref t])(_:H l=some (.lst ((ds++[d]).map V.ref)))(_:PgAt ok H d P)(_:Ux ok H t D)(_:Ja P)(_:P.ppl.length<=100)(_:P.out.length<=900)(_:ds.length<=900)(_:(D=.close->∃ ms,P.lis=some ms/\ms.length<=100))(_:∀ l' d' H',H' l'=some (.lst ((By ds d d' D).map V.ref))->(D≠.back->PgAt (fun x=>ok x\/H x=none) H' d' (Ua P D))->Same H H'->H l'=none->H d'=none->Q (.ref l') H')
theorem zeg(xs:List V)(x:V):J7 (xs++[x]) none (some (-1))=xs:=by
 unfold J7 HT.sIx;simp;rw[show (-1+((xs.length:Int)+1)).toNat=xs.length by omega,List.take_left]
noncomputable def Bz(ms:List P3):Prop:=(∀ m∈ms,¬ badM m)/\∀ m∈ms,m.1≠m.2.1
inductive M7(K:PySem.W.Frag)(vs:List V)(H:Hp)(Q:VK)(_:XK):Prop where
 | mk(b:Addr)(ns:List Int)(cell:Int)(most mixed:Nat)(_:vs=[.int cell,.ref b,.int most,.int mixed])(_:H b=some (.lst (ns.map V.int)))(_:2<=ns.length)(_:ns.length<=100)(_:ns.Nodup)(_:(∀ n∈ns,1<=n/\n<=99))(_:most<=20)(_:mixed<=1)(_:∀ l ts ms H',H' l=some (.lst ts)->TupL H' ts (ms.map pV)->ms.length<=most->Bz ms->Same H H'->H l=none->Q (.ref l) H')
noncomputable def enV(x:P3):List V:=[.str "enrol",.int x.1,.int x.2.1,.int x.2.2]
inductive Je(K:PySem.W.Frag)(vs:List V)(H:Hp)(Q:VK)(_:XK):Prop where
 | mk(b t lc ln:Addr)(ns cs nu:List Int)(_:vs=[.ref b,.ref t])(_:SqL K H b (ns.map V.int))(_:Oc H t lc ln cs nu)(_:∀ l ts (es:List P3) H',H' l=some (.lst ts)->TupL H' ts (es.map enV)->es.map (·.1)=nu.take es.length->es.length<=nu.length->(∀ x∈es,1<=x.2.1/\x.2.1<=9/\x.2.2∈cs)->Same H H'->H l=none->Q (.ref l) H')
noncomputable def zeh(P:Pg)(ds:List Addr)(cs nu:List Int)(most:Nat):Ts->Prop
 | .enrol n g c=>P.lis=none/\n∈nu/\n∉P.ppl.map (·.1)/\1<=g/\g<=9/\c∈cs
 | .away i n=>(P.over.length:Int)<i/\i<=P.len/\n∈P.ppl.map (·.1)/\(i,n)∉P.out
 | .draw ms=>P.lis=none/\ms.length<=most/\Bz ms
 | .close=>P.lis≠none
 | .back=>ds≠[]
inductive Cd(K:PySem.W.Frag)(vs:List V)(H:Hp)(Q:VK)(_:XK):Prop where
 | mk(ok:Addr->Prop)(l t lc ln:Addr)(ds:List Addr)(d:Addr)(P:Pg)(cell:Int)(cs nu:List Int)(most mixed:Nat)(_:vs=[.ref l,.int cell,.ref t,.int most,.int mixed])(_:H l=some (.lst ((ds++[d]).map V.ref)))(_:PgAt ok H d P)(_:Oc H t lc ln cs nu)(_:most<=20)(_:mixed<=1)(_:P.over.length<P.len)(_:P.ppl.length<=100)(_:∀ t' D H',Ux (fun x=>H x=none) H' t' D->zeh P ds cs nu most D->Same H H'->H t'=none->Q (.ref t') H')
theorem Gz{t u:TT}{σ:L2.St}{H:Hp}{b c:Bool}(h1:Gr t σ H b)(h2:∀ H1,Same H H1->Gr u σ H1 c):Gr (zgz t u) σ H (b&&c):=fun Q h=>by
 refine h1 _ fun H1 s1=>?_
 cases b with
 | true=>exact h2 H1 s1 _ fun H2 s2=>h H2 (s1.trans s2)
 | false=>exact h H1 s1
theorem M8{K:PySem.W.Frag}{H:Hp}:∀ ns:List Int,Wc K H (ns.map V.int) (ns.map Dt.int)
 | []=>.nil
 | w :: ws=>.cons (.int w) (M8 ws)
theorem M9{K:PySem.W.Frag}{σ:L2.St}{H:Hp}{i:Nat}{l:Addr}{ns:List Int}(hv:σ[i]?=some (some (.ref l)))(hl:H l=some (.lst (ns.map V.int))):Gr (zgl (tOp (zdg K true) (zez i) (C8 C7))) σ H (!ns.isEmpty):=fun Q q=>by
 refine⟨_,hv,zzs _,fun le hle=>?_⟩
 have s:=Ze (o:=.lst []) hle;refine⟨_,_,.lst (SqL.of (s _ _ hl)) (M8 _),.lst (SqL.of Zb) .nil,A6 _,A7,_,rfl,?_⟩;rw[if_pos rfl,A8];exact q _ s
theorem N9.some{ok:Addr->Prop}{H:Hp}{v:V}{x:Option (List P3)}(h:N9 ok H v x):(!decide (v=V.non))=x.isSome:=by
 cases x with
 | none=>cases (show v=V.non from h);rfl
 | some ms=>obtain⟨l,ts,rfl,_⟩:=h;rfl
theorem zei{h y n:Int}(h0:0<=h)(h1:h<n)(y0:1<=y)(y1:y<=n-1):0<=(h+y)%n/\(h+y)%n<n/\(h+y)%n≠h:=by
 have hn:0<n:=by omega
 refine⟨zz5 _ (by omega),zzw _ hn,?_⟩
 by_cases c:h+y<n
 ·rw[Int.emod_eq_of_lt (by omega) c];omega
 ·have e:(h+y)%n=h+y-n:=by
   rw[<- Int.sub_emod_right,Int.emod_eq_of_lt (by omega) (by omega)]
  omega
theorem at2(x y:Int){k:Nat}(h:k<=1):∃ z,atI [V.int x,V.int y] (k:Int)=some (.int z):=by
 match k,h with
 | 0,_=>exact⟨x,rfl⟩
 | 1,_=>exact⟨y,rfl⟩
noncomputable def Ft:List Int:=[1,2,3,4,5,6,7,8,9,1,1,1,1,2,2,3,3,4]
theorem B0:∀ k,k<18->1<=Ft.getD k 0/\Ft.getD k 0<=9:=by decide
noncomputable def Fu:List Int:=[1,2,3,4,5,6,7,8,9,9,9,9,9,8,8,7,6,5]
theorem B1:∀ k,k<18->1<=Fu.getD k 0/\Fu.getD k 0<=9:=by decide
theorem Fv{ns:List Int}{i:Nat}(hi:i<ns.length):ns.getD i 0=ns[i]:=by
 rw[zzp,zy1 hi];rfl
theorem zej{ns:List Int}(nd:ns.Nodup){i j:Nat}(hi:i<ns.length)(hj:j<ns.length)(h:ns.getD i 0=ns.getD j 0):i=j:=by
 rw[Fv hi,Fv hj] at h
 exact(List.getElem_inj nd).mp h
theorem Tn{ns:List Int}{i:Nat}(hi:i<ns.length):ns.getD i 0∈ns:=by
 rw[Fv hi];exact zz4 hi
noncomputable def Sn(mb:Bool)(s:Zt):Zt:=if mb then s else { s with gaps:=[] }
theorem zf5{mb:Bool}{s s':Zt}(h:Sn mb s=Sn mb s'):s.ms=s'.ms/\s.may=s'.may/\s.gv=s'.gv/\(mb=true->s=s'):=by
 unfold Sn at h
 cases mb with
 | true=>simp at h;subst h;exact⟨rfl,rfl,rfl,fun _=>rfl⟩
 | false=>simp at h;exact⟨h.1,h.2.1,h.2.2,fun z=>nomatch z⟩
theorem zbz(mb:Bool)(s:Zt):Ye (Sn mb s)=Ye s:=by
 unfold Sn;cases mb<;>rfl
structure RelB(mb:Bool)(P:Pg)(S:Sea):Prop where
 len:P.len=S.len
 rest:P.rest=S.rest
 ppl:P.ppl=S.ppl
 out:P.out=S.out
 over:P.over.map (Sn mb)=S.old.map (Sn mb)
 lis:P.lis=S.cur.map (·.ms)
noncomputable def Lb(S:Sea):zid:=match S.cur with|some s=>s.gaps|none=>[]
theorem B2{S:Sea}{s:Zt}(h:S.cur=some s):Lb S=s.gaps:=by unfold Lb;rw[h]
theorem Oe{S:Sea}(h:S.cur=none):Lb S=[]:=by unfold Lb;rw[h]
structure Rel(mb:Bool)(P:Pg)(S:Sea):Prop where
 b:RelB mb P S
 gv:∀ s,S.cur=some s->P.gv=s.gv
 mv:mb=true->P.mv=Lb S
structure SOk(nu:List Int)(n:Nat)(S:Sea):Prop where
 cur:zea S
 nd:(S.ppl.map (·.1)).Nodup
 ppl:∀ x∈S.ppl,x.1∈nu/\¬ badI x.1 x.2.1 x.2.2
 few:S.ppl.length<=30
 led:S.led=S.old.map Ye
 old:∀ s∈S.old,s.ms.length<=20/\s.gv.length=s.ms.length/\∀ x∈s.gv,oneV x
 len:S.led.length<=S.len/\S.len<=60/\S.rest<=10
 lt:S.cur≠none->S.led.length<S.len
 num:S.out.length<=n/\S.std.length<=n
 gp:∀ s,S.cur=some s\/s∈S.old->s.gaps.length<=n/\∀ x∈s.gaps,x.2.length<=100
theorem SOk.mono{nu:List Int}{n m:Nat}{S:Sea}(h:SOk nu n S)(e:n<=m):SOk nu m S:=⟨h.cur,h.nd,h.ppl,h.few,h.led,h.old,h.len,h.lt,⟨zzg h.num.1 e,zzg h.num.2 e⟩,fun s hs=>⟨zzg (h.gp s hs).1 e,(h.gp s hs).2⟩⟩
theorem SOk.pok{nu:List Int}{n:Nat}{S:Sea}(h:SOk nu n S):Qb S:=⟨fun x hx=>(h.ppl x hx).2,h.few⟩
theorem SOk.olen{nu:List Int}{n:Nat}{S:Sea}(h:SOk nu n S):S.old.length=S.led.length:=by rw[h.led,zyz]
theorem zek{k:Nat}:∀ (Rs:List (List Row)),(∀ rs∈Rs,rs.length<=k)->tot Rs<=k*Rs.length
 | [],_=>by simp[tot]
 | rs :: Rs,h=>by
   have h1:=h rs (zzt);have h2:=zek Rs fun x hx=>h x (zzi _ hx)
   unfold tot at *
   simp only[zzc,List.sum_cons,zzl,Nat.mul_succ];omega
theorem SOk.tot{nu:List Int}{n:Nat}{S:Sea}(h:SOk nu n S):G.tot S.led<=1200:=by
 have h1:=zek (k:=20) S.led fun rs hrs=>by
  rw[h.led] at hrs
  obtain⟨s,hs,rfl⟩:=zy9.mp hrs;have:=h.old s hs;unfold Ye;rw[List.length_zipWith];omega
 have:=h.len;omega
theorem RelB.rows{mb:Bool}{P:Pg}{S:Sea}(r:RelB mb P S):P.over.map Ye=S.old.map Ye:=by
 have e:∀ l:List Zt,l.map Ye=(l.map (Sn mb)).map Ye:=fun l=>by
  rw[z0o];exact z0m fun s _=>(zbz mb s).symm
 rw[e,r.over,<- e]
theorem RelB.olen{mb:Bool}{P:Pg}{S:Sea}(r:RelB mb P S):P.over.length=S.old.length:=by
 have:=congrArg List.length r.over
 simpa using this
theorem RelB.ovok{mb:Bool}{P:Pg}{S:Sea}{nu:List Int}{n:Nat}(r:RelB mb P S)(o:SOk nu n S):Ja P:=by
 have h1:=r.olen;have h2:=o.olen;have h3:=o.len;refine⟨by omega,by rw[r.rest];omega,fun s hs=>?_⟩
 have:Sn mb s∈S.old.map (Sn mb):=by rw[<- r.over];exact zy9.mpr ⟨s,hs,rfl⟩
 obtain⟨s',hs',e⟩:=zy9.mp this;obtain⟨e1,e2,e3,_⟩:=zf5 e;rw[<- e1,<- e3];exact o.old s' hs'
theorem RelB.may{mb:Bool}{P:Pg}{S:Sea}{nu:List Int}{n:Nat}(r:RelB mb P S)(o:SOk nu n S)(ms:List P3):Qd P ms=mayS S ms :=
 zby r.ppl (by rw[r.rows,o.led]) r.out r.rest (by unfold atV;rw[r.olen,o.olen]) ms
theorem RelB.at{mb:Bool}{P:Pg}{S:Sea}{nu:List Int}{n:Nat}(r:RelB mb P S)(o:SOk nu n S):(P.over.length:Int)+1=atV S:=by unfold atV;rw[r.olen,o.olen]
theorem RelB.undrawn{mb:Bool}{P:Pg}{S:Sea}(r:RelB mb P S)(h:P.lis=none):S.cur=none:=by
 have:=r.lis;rw[h] at this
 cases e:S.cur with
 | none=>rfl
 | some s=>rw[e] at this;cases this
theorem RelB.drawn{mb:Bool}{P:Pg}{S:Sea}{ms:List P3}(r:RelB mb P S)(h:P.lis=some ms):∃ s,S.cur=some s/\s.ms=ms:=by
 have:=r.lis;rw[h] at this
 cases e:S.cur with
 | none=>rw[e] at this;cases this
 | some s=>rw[e] at this;exact⟨s,rfl,(Option.some.inj this).symm⟩
theorem Fw{l m:List Int}(nd:l.Nodup)(h:∀ x∈l,x∈m):l.length<=m.length:=by
 induction l generalizing m with
 | nil=>exact zzs _
 | cons x l ih =>
   have hx:=h x (zzt);obtain⟨h1,h2⟩:=zzo.mp nd;have:=ih (m:=m.erase x) h2 fun y hy=>(List.mem_erase_of_ne (fun z=>h1 (by rw[<- z];exact hy))).mpr (h y (zzi _ hy))
   rw[List.length_erase_of_mem hx] at this
   have:=List.length_pos_of_mem hx;simp only[zzl];omega
theorem zf6{mb:Bool}{P:Pg}{S:Sea}{nu cs:List Int}{n most:Nat}{ds:List Addr}{D:Ts}(r:RelB mb P S)(o:SOk nu n S)(g:zeh P ds cs nu most D)(hlt:P.over.length<P.len)(hm:most<=20)(hnu:nu.length<=30/\∀ n∈nu,1<=n/\n<=999)(hcs:∀ c∈cs,1<=c/\c<=99)(hb:ds≠[]->S.std≠[]):M5 S D:=by
 have h1:=r.olen;have h2:=o.olen;have h3:=r.len;cases D with
 | enrol k gr c =>
   obtain⟨g1,g2,g3,g4,g5,g6⟩:=g;rw[r.ppl] at g3
   refine⟨by omega,r.undrawn g1,?_,g3,?_⟩
   ·have:=hnu.2 k g2
    have:=hcs c g6;unfold badI;omega
   ·have:=Fw (l:=k :: S.ppl.map (·.1)) (m:=nu) (zzo.mpr ⟨g3,o.nd⟩) fun x hx=>by
     rcases zy8.mp hx with rfl|hx
     ·exact g2
     ·obtain⟨y,hy,rfl⟩:=zy9.mp hx
      exact(o.ppl y hy).1
    rw[zzl,zyz] at this
    omega
 | away i k =>
   obtain⟨g1,g2,g3,g4⟩:=g;rw[r.ppl] at g3
   rw[r.out] at g4
   exact⟨by omega,by omega,g3,g4⟩
 | draw ms =>
   obtain⟨g1,g2,g3⟩:=g;exact⟨by omega,r.undrawn g1,by omega,g3.1,g3.2⟩
 | close =>
   refine⟨by omega,fun z=>g ?_⟩
   rw[r.lis,z];rfl
 | back=>exact hb g
theorem zb0{rows:List (List Int)}{gs:List V}{n:Int}(F:Yh rows gs)(hn:∀ i:Nat,gs[i]?≠some (V.int n)):Yh (without rows n) gs:=by
 refine⟨by unfold without;rw[zyz];exact F.len,F.one,fun k m h=>?_,F.inj⟩
 obtain⟨r,h1,h2⟩:=F.may k m h;refine⟨r.filter fun x=>decide (x≠n),by unfold without;rw[zy5,h1];rfl,zzq.mpr ⟨h2,?_⟩⟩
 refine zy4 fun z=>hn k ?_
 rw[h,z]
theorem B3{rows:List (List Int)}{gs:List V}{n:Int}(T:Vc rows gs):Vc (without rows n) gs:=fun p hp=>by
 obtain⟨S,h1,h2⟩:=T p hp;refine⟨S,h1,fun q hq=>⟨by unfold without;rw[zyz];exact(h2 q hq).1,fun r hr m hm=>?_⟩⟩
 unfold without at hr
 rw[zy5] at hr
 obtain⟨r0,e1,rfl⟩:=z0w.mp hr;exact(h2 q hq).2 r0 e1 m (zzq.mp hm).1
theorem zb1{S:Sea}{i n:Int}(h:atV S<i)(ms:List P3):mayS (Xn S i n) ms=mayS S ms:=by
 unfold mayS;refine z0m fun m _=>?_
 unfold K1;have:∀ x:P3,pIn (Xn S i n).out (atV (Xn S i n)) x=pIn S.out (atV S) x:=fun x=>by
  show decide ((atV S,x.1)∈S.out++[(i,n)])=decide ((atV S,x.1)∈S.out);have:((atV S,x.1)∈S.out++[(i,n)])↔((atV S,x.1)∈S.out):=by
   simp only[zy6,zy3,Prod.mk.injEq];constructor
   ·rintro(h|⟨h,_⟩)
    ·exact h
    ·omega
   ·exact .inl
  exact decide_eq_decide.mpr this
 simp only[this];rfl
theorem zel{H':Hp}{S S':Sea}{D:Ts}{v:V}{nu:List Int}{n:Nat}(o:SOk nu n S)(g:M5 S D)(af:Rl H' S D S' v)(hb:D≠.back)(hn:∀ k gr c,D=.enrol k gr c->k∈nu):SOk nu (n+1) S'/\((D=.close/\S'.std=[]/\S'.cur=none)\/(D≠.close/\M4 S S')):=by
 obtain⟨n1,n2⟩:=o.num;cases af with
 | enrol k gr c =>
   obtain⟨g1,g2,g3,g4,g5⟩:=g;refine⟨⟨fun s hs=>?_,?_,fun x hx=>?_,?_,o.led,o.old,o.len,fun _=>g1,⟨?_,?_⟩,fun s hs=>⟨z0h (o.gp s hs).1,(o.gp s hs).2⟩⟩,.inr ⟨nofun,(("enrol":Str),k,atV S),rfl,.inl ⟨rfl,⟨gr,c,rfl⟩,rfl⟩,rfl,rfl,rfl,rfl⟩⟩
   ·have hs:S.cur=some s:=hs
    rw[g2] at hs;cases hs
   ·show (List.map (·.1) (S.ppl++[(k,gr,c)])).Nodup
    rw[zy7,z04];refine⟨o.nd,by simp,fun x hx y hy=>?_⟩
    rw[zzc,List.map_nil,zy3] at hy
    subst hy;rintro rfl;exact g4 hx
   ·rcases zy6.mp hx with hx|hx
    ·exact o.ppl x hx
    ·rw[zy3.mp hx];exact⟨hn k gr c rfl,g3⟩
   ·show (S.ppl++[(k,gr,c)]).length<=30
    rw[zy2];show S.ppl.length+1<=30;omega
   ·show S.out.length<=n+1;omega
   ·show (S.std++[_]).length<=n+1
    rw[zy2];show S.std.length+1<=n+1;omega
 | @awayN i k l h hl =>
   obtain⟨g1,g2,g3,g4⟩:=g;refine⟨⟨fun s hs=>?_,o.nd,o.ppl,o.few,o.led,o.old,o.len,o.lt,⟨?_,?_⟩,fun s hs=>⟨z0h (o.gp s hs).1,(o.gp s hs).2⟩⟩,.inr ⟨nofun,(("away":Str),k,i),rfl,.inr (.inl ⟨rfl,rfl,rfl,g4⟩),rfl,rfl,rfl,rfl⟩⟩
   ·have hs:S.cur=some s:=hs
    rcases h with h|h
    ·rw[h] at hs;cases hs
    ·obtain⟨c1,c2,c3,c4,c5⟩:=o.cur s hs
     refine⟨c1,c2,c3,by rw[zb1 h];exact c4,?_⟩
     show s.gaps.length<=(S.std++[_]).length;rw[zy2];omega
   ·show (S.out++[_]).length<=n+1
    rw[zy2];show S.out.length+1<=n+1;omega
   ·show (S.std++[_]).length<=n+1
    rw[zy2];show S.std.length+1<=n+1;omega
 | @awayF k s l h hp hl =>
   obtain⟨g1,g2,g3,g4⟩:=g;obtain⟨c1,c2,c3,c4,c5⟩:=o.cur s h;refine⟨⟨fun s' hs=>?_,o.nd,o.ppl,o.few,o.led,o.old,o.len,fun _=>o.lt (by rw[h];exact nofun),⟨?_,?_⟩,fun s' hs=>?_⟩,.inr ⟨nofun,(("away":Str),k,atV S),rfl,.inr (.inl ⟨rfl,rfl,rfl,g4⟩),rfl,rfl,rfl,rfl⟩⟩
   ·have hs:some { s with may:=mayS (Xn S (atV S) k) s.ms }=some s':=hs
    cases hs;have hno:∀ i:Nat,s.gv[i]?≠some (V.int k):=by
     rcases E9 s.gv k with z|⟨i,z,_⟩
     ·exact z.2
     ·rw[hp] at z;cases z
    refine⟨c1,?_,?_,rfl,?_⟩
    ·show Yh (mayS (Xn S (atV S) k) s.ms) s.gv
     rw[Tq,<- c4];exact zb0 c2 hno
    ·show Vc (mayS (Xn S (atV S) k) s.ms) s.gv
     rw[Tq,<- c4];exact B3 c3
    ·show s.gaps.length<=(S.std++[_]).length
     rw[zy2];omega
   ·show (S.out++[_]).length<=n+1
    rw[zy2];show S.out.length+1<=n+1;omega
   ·show (S.std++[_]).length<=n+1
    rw[zy2];show S.std.length+1<=n+1;omega
   ·have old:=o.gp s (.inl h)
    rcases hs with hs|hs
    ·have hs:some { s with may:=mayS (Xn S (atV S) k) s.ms }=some s':=hs
     cases hs;exact⟨z0h old.1,old.2⟩
    ·have:=o.gp s' (.inr hs)
     exact⟨z0h this.1,this.2⟩
 | @awayC k s p e l us st w h hp hl tl CR =>
   obtain⟨g1,g2,g3,g4⟩:=g;obtain⟨c1,c2,c3,c4,c5⟩:=o.cur s h;refine⟨⟨fun s' hs=>?_,o.nd,o.ppl,o.few,o.led,o.old,o.len,fun _=>o.lt (by rw[h];exact nofun),⟨?_,?_⟩,fun s' hs=>?_⟩,.inr ⟨nofun,(("away":Str),k,atV S),rfl,.inr (.inl ⟨rfl,rfl,rfl,g4⟩),rfl,rfl,rfl,rfl⟩⟩
   ·have hs:some (⟨s.ms,mayS (Xn S (atV S) k) s.ms,Yq st (s.gv.set p .non),s.gaps++[(k,st)]⟩:Zt)=some s':=hs
    cases hs;have hx:=Ob hp;rw[Tq,<- c4] at CR
    have F0:=U3 c2 hx;have hpl:p<(without s.may k).length:=by
     unfold without;rw[zyz,<- c2.len];exact(zy0.mp hx).1
    refine⟨c1,?_,?_,rfl,?_⟩
    ·show Yh (mayS (Xn S (atV S) k) s.ms) _
     rw[Tq,<- c4];exact CR.fill F0 hpl
    ·show Vc (mayS (Xn S (atV S) k) s.ms) _
     rw[Tq,<- c4];exact De c2 c3 hx CR
    ·show (s.gaps++[_]).length<=(S.std++[_]).length
     rw[zy2,zy2];show s.gaps.length+1<=S.std.length+1;omega
   ·show (S.out++[_]).length<=n+1
    rw[zy2];show S.out.length+1<=n+1;omega
   ·show (S.std++[_]).length<=n+1
    rw[zy2];show S.std.length+1<=n+1;omega
   ·have old:=o.gp s (.inl h)
    rcases hs with hs|hs
    ·have hs:some (⟨s.ms,mayS (Xn S (atV S) k) s.ms,Yq st (s.gv.set p .non),s.gaps++[(k,st)]⟩:Zt)=some s':=hs
     cases hs;have hx:=Ob hp;rw[Tq,<- c4] at CR
     have hpl:p<(without s.may k).length:=by
      unfold without;rw[zyz,<- c2.len];exact(zy0.mp hx).1
     have hcl:=CR.len (U3 c2 hx) hpl;have hwl:(without s.may k).length=s.may.length:=by unfold without;rw[zyz]
     have hml:s.may.length=s.ms.length:=by rw[c4];unfold mayS;rw[zyz]
     refine⟨by show (s.gaps++[_]).length<=n+1;rw[zy2];show s.gaps.length+1<=n+1;omega,fun x hx'=>?_⟩
     rcases zy6.mp hx' with z|z
     ·exact old.2 x z
     ·rw[zy3.mp z];show st.length<=100;omega
    ·have:=o.gp s' (.inr hs)
     exact⟨z0h this.1,this.2⟩
 | @draw ms gv l hl F T =>
   obtain⟨g1,g2,g3,g4,g5⟩:=g;refine⟨⟨fun s' hs=>?_,o.nd,o.ppl,o.few,o.led,o.old,o.len,fun _=>g1,⟨?_,?_⟩,fun s' hs=>?_⟩,.inr ⟨nofun,(("draw up":Str),(ms.length:Int),atV S),rfl,.inr (.inr ⟨rfl,rfl,rfl⟩),rfl,rfl,rfl,rfl⟩⟩
   ·have hs:some (⟨ms,mayS S ms,gv,[]⟩:Zt)=some s':=hs
    cases hs;exact⟨g3,F,T,rfl,zzs _⟩
   ·show S.out.length<=n+1;omega
   ·show (S.std++[_]).length<=n+1
    rw[zy2];show S.std.length+1<=n+1;omega
   ·rcases hs with hs|hs
    ·have hs:some (⟨ms,mayS S ms,gv,[]⟩:Zt)=some s':=hs
     cases hs;exact⟨zzs _,nofun⟩
    ·have:=o.gp s' (.inr hs)
     exact⟨z0h this.1,this.2⟩
 | @close s h =>
   obtain⟨g1,g2⟩:=g;obtain⟨c1,c2,c3,c4,c5⟩:=o.cur s h;refine⟨⟨fun s' hs=>(by cases hs),o.nd,o.ppl,o.few,?_,fun x hx=>?_,⟨?_,o.len.2⟩,fun z=>absurd rfl z,⟨?_,zzs _⟩,fun s' hs=>?_⟩,.inl ⟨rfl,rfl,rfl⟩⟩
   ·show S.led++[Ye s]=List.map Ye (S.old++[s])
    rw[zy7,o.led];rfl
   ·rcases zy6.mp hx with hx|hx
    ·exact o.old x hx
    ·rw[zy3.mp hx]
     refine⟨c1,?_,c2.one⟩;rw[c2.len,c4];unfold mayS;rw[zyz]
   ·show (S.led++[_]).length<=S.len
    rw[zy2];exact g1
   ·show S.out.length<=n+1;omega
   ·rcases hs with hs|hs
    ·cases hs
    ·have hs:s'∈S.old++[s]:=hs
     rcases zy6.mp hs with z|z
     ·have:=o.gp s' (.inr z)
      exact⟨z0h this.1,this.2⟩
     ·rw[zy3.mp z]
      have:=o.gp s (.inl h);exact⟨z0h this.1,this.2⟩
 | back h ht hs=>exact absurd rfl hb
theorem zb2{H':Hp}{S S':Sea}{D:Ts}{v:V}{nu:List Int}{n:Nat}{mb:Bool}{P:Pg}(r:Rel mb P S)(o:SOk nu n S)(g:M5 S D)(af:Rl H' S D S' v)(hb:D≠.back):RelB mb (Ua P D) S':=by
 obtain⟨⟨r1,r2,r3,r4,r5,r6⟩,rg,rm⟩:=id r;cases af with
 | enrol k gr c=>exact⟨r1,r2,by show P.ppl++_=S.ppl++_;rw[r3],r4,r5,r6⟩
 | @awayN i k l h hl=>exact⟨r1,r2,r3,by show P.out++_=S.out++_;rw[r4],r5,r6⟩
 | @awayF k s l h hp hl=>exact⟨r1,r2,r3,by show P.out++_=S.out++_;rw[r4],r5,by show P.lis=_;rw[r6,h];rfl⟩
 | @awayC k s p e l us st w h hp hl tl CR=>exact⟨r1,r2,r3,by show P.out++_=S.out++_;rw[r4],r5,by show P.lis=_;rw[r6,h];rfl⟩
 | @draw ms gv l hl F T=>exact⟨r1,r2,r3,r4,r5,rfl⟩
 | @close s h =>
   have hl:P.lis=some s.ms:=by rw[r6,h];rfl
   refine⟨r1,r2,r3,r4,?_,rfl⟩;show List.map (Sn mb) (P.over++[⟨P.lis.getD [],Qd P (P.lis.getD []),P.gv,P.mv⟩])=List.map (Sn mb) (S.old++[s]);rw[zy7,zy7,r5,hl]
   congr 1
   have e1:=(o.cur s h).2.2.2.1;have e2:=r.b.may o s.ms;have e3:=rg s h;unfold Sn;cases mb with
   | true =>
     have e4:P.mv=s.gaps:=by rw[rm rfl,B2 h]
     show [(⟨s.ms,Qd P s.ms,P.gv,P.mv⟩:Zt)]=[s];rw[e2,e3,e4,<- e1]
   | false =>
     show [(⟨s.ms,Qd P s.ms,P.gv,[]⟩:Zt)]=[(⟨s.ms,s.may,s.gv,[]⟩:Zt)];rw[e2,e3,<- e1]
 | back h ht hs=>exact absurd rfl hb
theorem zb3{S S1 S2:Sea}(h1:M4 S1 S)(h2:M4 S2 S):S1=S2:=by
 obtain⟨d1,a1,a2,a3,a4,a5,a6⟩:=h1;obtain⟨d2,b1,b2,b3,b4,b5,b6⟩:=h2;have e:=a1.symm.trans b1;obtain⟨e1,e2⟩:=z0v e rfl;have e3:=List.cons.inj e2;obtain⟨e4,e5⟩:=Prod.mk.inj e3.1;subst e4;have w1:("enrol":Str)≠"away":=by decide +kernel
 have w2:("enrol":Str)≠"draw up":=by decide +kernel
 have w3:("away":Str)≠"draw up":=by decide +kernel
 have e6:S1.ppl=S2.ppl/\S1.out=S2.out:=by
  rcases a2 with ⟨x1,⟨g,c,x2⟩,x3⟩|⟨x1,x2,x3,_⟩|⟨x1,x2,x3⟩<;>rcases b2 with ⟨y1,⟨g',c',y2⟩,y3⟩|⟨y1,y2,y3,_⟩|⟨y1,y2,y3⟩
  ·exact⟨(z0v (x2.symm.trans y2) rfl).1,x3.trans y3.symm⟩
  ·exact absurd (x1.symm.trans y1) w1
  ·exact absurd (x1.symm.trans y1) w2
  ·exact absurd (y1.symm.trans x1) w1
  ·exact⟨x2.trans y2.symm,(z0v (x3.symm.trans y3) rfl).1⟩
  ·exact absurd (x1.symm.trans y1) w3
  ·exact absurd (y1.symm.trans x1) w2
  ·exact absurd (y1.symm.trans x1) w3
  ·exact⟨x2.trans y2.symm,x3.trans y3.symm⟩
 obtain⟨l1,q1,p1,d1',o1,ol1,c1,s1⟩:=S1;obtain⟨l2,q2,p2,d2',o2,ol2,c2,s2⟩:=S2;simp only at *
 obtain⟨e7,e8⟩:=e6;subst e1 e5 e7 e8;rw[<- a3,<- b3,<- a4,<- b4,<- a5,<- b5,<- a6,<- b6]
structure FrN(A A':SAd)(H H':Hp):Prop where
 p:A'.p=A.p
 k:∀ b o,H b=some o->b∉A.fp->H' b=some o/\b∉A'.fp
 kt:∀ t xs,H t=some (.tup xs)->H' t=some (.tup xs)
theorem FrN.refl(A:SAd)(H:Hp):FrN A A H H:=⟨rfl,fun b o e n=>⟨e,n⟩,fun _ _ e=>e⟩
theorem FrN.of{A:SAd}{H H':Hp}(e:Same H H'):FrN A A H H':=⟨rfl,fun b o z n=>⟨e _ _ z,n⟩,fun _ _ z=>e _ _ z⟩
theorem FrN.trans{A A1 A2:SAd}{H H1 H2:Hp}(h1:FrN A A1 H H1)(h2:FrN A1 A2 H1 H2):FrN A A2 H H2:=⟨h2.p.trans h1.p,fun b o e n=>by
 obtain⟨a1,a2⟩:=h1.k b o e n;exact h2.k b o a1 a2,fun t xs e=>h2.kt _ _ (h1.kt _ _ e)⟩
theorem K6.out{A A':SAd}{H:Hp}(nx:K6 A A' H){b:Addr}{o:HO}(e:H b=some o)(n:b∉A.fp):b∉A'.fp:=by
 obtain⟨x,rfl,hx⟩:=nx;simp only[SAd.fp,zy8,zzz,or_false] at n ⊢
 rcases hx with rfl|hx
 ·exact n
 ·have:b≠x:=Zg e hx
  rintro(z|z|z|z|z|z|z)
  ·exact n (.inl z)
  ·exact n (.inr (.inl z))
  ·exact n (.inr (.inr (.inl z)))
  ·exact n (.inr (.inr (.inr (.inl z))))
  ·exact n (.inr (.inr (.inr (.inr (.inl z)))))
  ·exact n (.inr (.inr (.inr (.inr (.inr (.inl z))))))
  ·exact this z
theorem FrN.next{ca:CA}{S:Sea}{A A':SAd}{H H':Hp}(SA:Zy ca H A S)(nx:K6 A A' H)(f:FrS A H H'):FrN A A' H H':=⟨by obtain⟨x,rfl,_⟩:=nx;rfl,fun b o e n=>⟨f b o e n,nx.out e n⟩,SA.tups f⟩
noncomputable def Rm(K:PySem.W.Frag)(A:SAd)(H:Hp)(b:Addr)(xs:List V):Prop:=(Rd H b (.lst xs)/\b∉A.fp)\/∀ H',SqL K H' b xs
theorem Rm.sq{K:PySem.W.Frag}{A:SAd}{H:Hp}{b:Addr}{xs:List V}(h:Rm K A H b xs):SqL K H b xs:=by
 rcases h with h|h
 ·exact .inl h.1
 ·exact h H
theorem Rm.fr{K:PySem.W.Frag}{A A':SAd}{H H':Hp}{b:Addr}{xs:List V}(f:FrN A A' H H')(h:Rm K A H b xs):Rm K A' H' b xs:=by
 rcases h with ⟨h,n⟩|h
 ·rcases h with h|⟨o,h⟩
  ·exact .inl ⟨.inl (f.k _ _ h n).1,(f.k _ _ h n).2⟩
  ·exact .inl ⟨.inr ⟨o,(f.k _ _ h n).1⟩,(f.k _ _ h n).2⟩
 ·exact .inr h
theorem Rm.make{K:PySem.W.Frag}{H:Hp}{b:Addr}{xs:List V}(h:SqL K H b xs)(A:SAd)(H':Hp)(s:Same H H')(hf:∀ x∈A.fp,H x=none):Rm K A H' b xs:=by
 rcases h with h|h
 ·have hn:b∉A.fp:=fun z=>by
   have:=hf b z;rcases h with h|⟨o,h⟩<;>(rw[this] at h;cases h)
  rcases h with h|⟨o,h⟩
  ·exact .inl ⟨.inl (s _ _ h),hn⟩
  ·exact .inl ⟨.inr ⟨o,s _ _ h⟩,hn⟩
 ·exact .inr fun _=>.inr h
structure Lc(A:SAd)(H:Hp)(t lc ln:Addr)(cs nu:List Int):Prop where
 at_:Oc H t lc ln cs nu
 o:t∉A.fp/\lc∉A.fp/\ln∉A.fp
theorem Lc.fr{A A':SAd}{H H':Hp}{t lc ln:Addr}{cs nu:List Int}(f:FrN A A' H H')(h:Lc A H t lc ln cs nu):Lc A' H' t lc ln cs nu:=by
 obtain⟨⟨a1,a2,a3,a4,a5,a6,a7,a8,a9⟩,o1,o2,o3⟩:=h;exact⟨⟨(f.k _ _ a1 o1).1,(f.k _ _ a2 o2).1,(f.k _ _ a3 o3).1,a4,a5,a6,a7,a8,a9⟩,(f.k _ _ a1 o1).2,(f.k _ _ a2 o2).2,(f.k _ _ a3 o3).2⟩
inductive Bk(mb:Bool)(ok:Addr->Prop)(H:Hp)(nu:List Int)(n:Nat):List Addr->Sea->Prop where
 | one {d:Addr} {P:Pg} {S:Sea} (h:PgAt ok H d P) (r:Rel mb P S) (o:SOk nu n S) (e:S.std=[]):Bk mb ok H nu n [d] S
 | snoc {ds:List Addr} {d:Addr} {P:Pg} {S S':Sea} (b:Bk mb ok H nu n ds S) (nd:d∉ds) (h:PgAt ok H d P) (r:Rel mb P S') (o:SOk nu n S') (st:M4 S S') (hd:∃ x,P.deed=some x/\S'.std=S.std++[(x,S.cur)]):Bk mb ok H nu n (ds++[d]) S'
section
variable{mb:Bool}{ok ok':Addr->Prop}{H H':Hp}{nu:List Int}{n m:Nat}{ds:List Addr}{d:Addr}{P:Pg}{S S':Sea}
theorem Bk.keep(b:Bk mb ok H nu n ds S)(k:∀ x o,ok x->H x=some o->H' x=some o)(kt:∀ t xs,H t=some (.tup xs)->H' t=some (.tup xs)):Bk mb ok H' nu n ds S:=by
 induction b with
 | one h r o e=>exact .one (h.keep k kt) r o e
 | snoc b nd h r o st hd ih=>exact .snoc ih nd (h.keep k kt) r o st hd
theorem Bk.imp(b:Bk mb ok H nu n ds S)(k:∀ x,(∃ o,H x=some o)->ok x->ok' x):Bk mb ok' H nu n ds S:=by
 induction b with
 | one h r o e=>exact .one (h.imp k) r o e
 | snoc b nd h r o st hd ih=>exact .snoc ih nd (h.imp k) r o st hd
theorem Bk.mono(b:Bk mb ok H nu n ds S)(e:n<=m):Bk mb ok H nu m ds S:=by
 induction b with
 | one h r o e'=>exact .one h r (o.mono e) e'
 | snoc b nd h r o st hd ih=>exact .snoc ih nd h r (o.mono e) st hd
theorem Bk.there(b:Bk mb ok H nu n ds S):∀ d∈ds,∃ kvs,H d=some (.dK kvs):=by
 induction b with
 | one h r o e =>
   intro d hd;rw[zy3.mp hd];obtain⟨_,_,_,_,_,_,_,a,_⟩:=h.split;exact⟨_,a⟩
 | snoc b nd h r o st hd ih =>
   intro d' hd';rcases zy6.mp hd' with z|z
   ·exact ih d' z
   ·rw[zy3.mp z]
    obtain⟨_,_,_,_,_,_,_,a,_⟩:=h.split;exact⟨_,a⟩
theorem Bk.other{e:Addr}{kvs kvs':List (Key×V)}(b:Bk mb ok H nu n ds S)(he:H e=some (.dK kvs))(hn:e∉ds):Bk mb ok (upd H e (.dK kvs')) nu n ds S:=by
 induction b with
 | one h r o e'=>exact .one (h.other (fun z=>hn (by rw[z];exact z0t _)) he) r o e'
 | snoc b nd h r o st hd ih=>exact .snoc (ih fun z=>hn (zzu _ z)) nd (h.other (fun z=>hn (by rw[z];exact zzj _ (z0t _))) he) r o st hd
structure zem(mb:Bool)(ok:Addr->Prop)(H:Hp)(nu:List Int)(n:Nat)(ds:List Addr)(d:Addr)(dd:Option U4)(S:Sea):Prop where
 nd:d∉ds
 ex:(ds=[]/\S.std=[])\/∃ S0,Bk mb ok H nu n ds S0/\M4 S0 S/\∃ x,dd=some x/\S.std=S0.std++[(x,S0.cur)]
structure Fx(mb:Bool)(ok:Addr->Prop)(H:Hp)(nu:List Int)(n:Nat)(ds:List Addr)(d:Addr)(P:Pg)(S:Sea):Prop where
 pg:PgAt ok H d P
 rb:RelB mb P S
 so:SOk nu n S
 tl:zem mb ok H nu n ds d P.deed S
structure U5(mb:Bool)(ok:Addr->Prop)(H:Hp)(nu:List Int)(n:Nat)(ds:List Addr)(d:Addr)(P:Pg)(S:Sea):Prop where
 pg:PgAt ok H d P
 re:Rel mb P S
 so:SOk nu n S
 tl:zem mb ok H nu n ds d P.deed S
theorem U5.pend(h:U5 mb ok H nu n ds d P S):Fx mb ok H nu n ds d P S:=⟨h.pg,h.re.b,h.so,h.tl⟩
theorem U5.bk(h:U5 mb ok H nu n ds d P S):Bk mb ok H nu n (ds++[d]) S:=by
 obtain⟨nd,⟨rfl,e⟩|⟨S0,b,st,hd⟩⟩:=h.tl
 ·exact .one h.pg h.re h.so e
 ·exact .snoc b nd h.pg h.re h.so st hd
theorem Bk.full{xs:List Addr}(b:Bk mb ok H nu n xs S):∃ ds d P,xs=ds++[d]/\U5 mb ok H nu n ds d P S:=by
 cases b with
 | one h r o e=>exact⟨[],_,_,rfl,h,r,o,nofun,.inl ⟨rfl,e⟩⟩
 | snoc b nd h r o st hd=>exact⟨_,_,_,rfl,h,r,o,nd,.inr ⟨_,b,st,hd⟩⟩
theorem zem.keep{dd:Option U4}(h:zem mb ok H nu n ds d dd S)(k:∀ x o,ok x->H x=some o->H' x=some o)(kt:∀ t xs,H t=some (.tup xs)->H' t=some (.tup xs)):zem mb ok H' nu n ds d dd S:=by
 obtain⟨nd,e|⟨S0,b,r⟩⟩:=h
 ·exact⟨nd,.inl e⟩
 ·exact⟨nd,.inr ⟨S0,b.keep k kt,r⟩⟩
theorem Fx.same(h:Fx mb ok H nu n ds d P S)(e:Same H H'):Fx mb ok H' nu n ds d P S:=⟨h.pg.same e,h.rb,h.so,h.tl.keep (fun _ _ _ q=>e _ _ q) fun _ _ q=>e _ _ q⟩
theorem U5.same(h:U5 mb ok H nu n ds d P S)(e:Same H H'):U5 mb ok H' nu n ds d P S:=⟨h.pg.same e,h.re,h.so,h.tl.keep (fun _ _ _ q=>e _ _ q) fun _ _ q=>e _ _ q⟩
theorem Fx.goes{l:Addr}{xs:List V}(h:Fx mb ok H nu n ds d P S)(hl:H l=some (.lst xs))(ol:ok l)(hg:∀ s,S.cur=some s->xs=s.gv)(hm:mb=true->P.mv=Lb S):∃ kvs,H d=some (.dK kvs)/\kvs.length<sizeLine/\U5 mb ok (upd H d (.dK (putK kvs (.inr "goes") (.ref l)))) nu n ds d { P with gv:=xs } S:=by
 obtain⟨kvs,a1,a2,a3⟩:=h.pg.setGoes hl ol;refine⟨kvs,a1,a2,a3,⟨⟨h.rb.len,h.rb.rest,h.rb.ppl,h.rb.out,h.rb.over,h.rb.lis⟩,hg,hm⟩,h.so,?_⟩;obtain⟨nd,e|⟨S0,b,r⟩⟩:=h.tl
 ·exact⟨nd,.inl e⟩
 ·exact⟨nd,.inr ⟨S0,b.other a1 nd,r⟩⟩
theorem Fx.full(h:Fx mb ok H nu n ds d P S)(hg:∀ s,S.cur=some s->P.gv=s.gv)(hm:mb=true->P.mv=Lb S):U5 mb ok H nu n ds d P S:=⟨h.pg,⟨h.rb,hg,hm⟩,h.so,h.tl⟩
end
theorem zen{H':Hp}{S S':Sea}{D:Ts}{v:V}{mb:Bool}{P:Pg}{nu:List Int}{n:Nat}(r:RelB mb P S)(o:SOk nu n S)(af:Rl H' S D S' v)(hb:D≠.back)(hc:D≠.close):∃ x,(Ua P D).deed=some x/\S'.std=S.std++[(x,S.cur)]:=by
 have e:=r.at o
 cases af with
 | enrol k gr c=>exact⟨_,rfl,by rw[e]⟩
 | awayN h hl=>exact⟨_,rfl,rfl⟩
 | awayF h hp hl=>exact⟨_,rfl,rfl⟩
 | awayC h hp hl tl CR=>exact⟨_,rfl,rfl⟩
 | draw hl F T=>exact⟨_,rfl,by rw[e];rfl⟩
 | close h=>exact absurd rfl hc
 | back h ht hs=>exact absurd rfl hb
theorem turn{ca:CA}{mb:Bool}{A A':SAd}{H H1 H2:Hp}{nu:List Int}{n:Nat}{ds:List Addr}{d d':Addr}{P:Pg}{S S':Sea}{D:Ts}{v:V}(F:U5 mb (·∉A.fp) H nu n ds d P S)(SA:Zy ca H A S)(af:Rl H1 S D S' v)(SA1:Zy ca H1 A' S')(nx:K6 A A' H)(fr:FrS A H H1)(g:M5 S D)(hn:∀ k gr c,D=.enrol k gr c->k∈nu)
  (pg:D≠.back->PgAt (fun x=>x∉A'.fp\/H1 x=none) H2 d' (Ua P D)) (s2:Same H1 H2) (fd:H1 d'=none) :
  ∃ ds2 d2 P2,By ds d d' D=ds2++[d2]/\Fx mb (·∉A'.fp) H2 nu (n+1) ds2 d2 P2 S'/\(D≠.back->P2=Ua P D)/\(D=.back\/D=.close->(∀ s,S'.cur=some s->P2.gv=s.gv)/\(mb=true->P2.mv=Lb S')):=by
 have mv:∀ {xs:List Addr} {S0:Sea},Bk mb (·∉A.fp) H nu n xs S0->Bk mb (·∉A'.fp) H2 nu (n+1) xs S0:=fun b=>by
  have b1:=b.imp (ok':=fun x=>x∉A.fp/\x∉A'.fp) fun x ⟨o,e⟩ z=>⟨z,nx.out e z⟩
  have b2:=b1.keep (H':=H2) (fun x o z e=>s2 _ _ (fr x o e z.1)) fun t xs e=>s2 _ _ (SA.tups fr t xs e)
  exact(b2.imp fun x _ z=>z.2).mono (Nat.le_succ n)
 have hd1:∀ x∈ds++[d],x≠d':=fun x hx z=>by
  have b1:=F.bk.imp (ok':=fun x=>x∉A.fp/\x∉A'.fp) fun x ⟨o,e⟩ z=>⟨z,nx.out e z⟩
  have b2:=b1.keep (H':=H1) (fun x o z e=>fr x o e z.1) fun t xs e=>SA.tups fr t xs e
  obtain⟨kvs,e⟩:=b2.there x hx;rw[z,fd] at e;cases e
 by_cases hb:D=.back
 ·subst hb
  cases af with
  | @back S0' dd t h ht hs =>
    obtain⟨nd,⟨_,e⟩|⟨S0,b,st,_⟩⟩:=F.tl
    ·exact absurd e g
    ·have es:=zb3 hs st
     subst es;obtain⟨ds2,d2,P2,e,F2⟩:=(mv b).full;exact⟨ds2,d2,P2,e,F2.pend,fun z=>absurd rfl z,fun _=>⟨F2.re.gv,F2.re.mv⟩⟩
 ·have pg':PgAt (·∉A'.fp) H2 d' (Ua P D):=(pg hb).imp fun x hx z=>by
   rcases z with z|z
   ·exact z
   ·exact SA1.newOk x z
  obtain⟨o',ho⟩:=zel F.so g af hb hn;have rb:=zb2 F.re F.so g af hb;rcases ho with ⟨rfl,e1,e2⟩|⟨hc,st⟩
  ·exact⟨[],d',_,rfl,⟨pg',rb,o',nofun,.inl ⟨rfl,e1⟩⟩,fun _=>rfl,fun _=>⟨fun s hs=>(by rw[e2] at hs;cases hs),fun _=>(by rw[Oe e2];rfl)⟩⟩
  ·have hk:By ds d d' D=(ds++[d])++[d']:=by
    cases D with
    | back=>exact absurd rfl hb
    | close=>exact absurd rfl hc
    | enrol _ _ _=>rfl
    | away _ _=>rfl
    | draw _=>rfl
   refine⟨ds++[d],d',_,hk,⟨pg',rb,o',fun z=>hd1 d' z rfl,.inr ⟨S,mv F.bk,st,zen F.re.b F.so af hb hc⟩⟩,fun _=>rfl,?_⟩
   rintro(z|z)
   ·exact absurd z hb
   ·exact absurd z hc
section
variable{mb:Bool}{ok ok':Addr->Prop}{A A':SAd}{H H':Hp}{nu:List Int}{n m:Nat}{ds:List Addr}{d:Addr}{P:Pg}{S S':Sea}{D:Ts}
theorem PgAt.fr(f:FrN A A' H H')(h:PgAt (·∉A.fp) H d P):PgAt (·∉A'.fp) H' d P:=by
 have b1:=h.imp (ok':=fun x=>x∉A.fp/\x∉A'.fp) fun x ⟨o,e⟩ z=>⟨z,(f.k x o e z).2⟩
 have b2:=b1.keep (H':=H') (fun x o z e=>(f.k x o e z.1).1) f.kt
 exact b2.imp fun x _ z=>z.2
theorem Ux.fr{t:Addr}(f:FrN A A' H H')(h:Ux (·∉A.fp) H t D):Ux (·∉A'.fp) H' t D:=by
 cases D with
 | enrol a b c=>exact f.kt _ _ h
 | away a b=>exact f.kt _ _ h
 | draw ms =>
   obtain⟨l,ts,a1,a2,a3,a4⟩:=h;exact⟨l,ts,f.kt _ _ a1,(f.k _ _ a2 a4).1,a3.mono f.kt,(f.k _ _ a2 a4).2⟩
 | close=>exact f.kt _ _ h
 | back=>exact f.kt _ _ h
theorem Ux.imp{t:Addr}(k:∀ x,ok x->ok' x)(h:Ux ok H t D):Ux ok' H t D:=by
 cases D with
 | enrol a b c=>exact h
 | away a b=>exact h
 | draw ms =>
   obtain⟨l,ts,a1,a2,a3,a4⟩:=h;exact⟨l,ts,a1,a2,a3,k _ a4⟩
 | close=>exact h
 | back=>exact h
theorem Bk.len(b:Bk mb ok H nu n ds S):ds.length=S.std.length+1:=by
 induction b with
 | one h r o e=>rw[e];rfl
 | snoc b nd h r o st hd ih =>
   obtain⟨x,_,e⟩:=hd;rw[e,zy2,zy2,ih];rfl
theorem U5.len(F:U5 mb ok H nu n ds d P S):ds.length=S.std.length:=by
 have:=F.bk.len;rw[zy2] at this
 have h1:[d].length=1:=rfl;omega
theorem U5.pre(F:U5 mb ok H nu n ds d P S)(g:M5 S D)(hn:n<100):zea S/\Qb S/\S.std.length<100/\S.out.length<=100000/\2*(tot S.led+1000)<=100000/\S.led.length<=1000/\S.old.length<=1000/\S.len<=1000/\(∀ i k,D=.away i k->Y1 k)/\(D=.back->∃ S0,M4 S0 S):=by
 have h1:=F.so.num;have h2:=F.so.len;have h3:=F.so.olen;have h4:=F.so.tot;refine⟨F.so.cur,F.so.pok,by omega,by omega,by omega,by omega,by omega,by omega,?_,?_⟩
 ·rintro i k rfl
  obtain⟨_,_,g3,_⟩:=g;obtain⟨x,hx,rfl⟩:=zy9.mp g3;exact F.so.pok.small x hx
 ·rintro rfl
  obtain⟨nd,⟨_,e⟩|⟨S0,b,st,_⟩⟩:=F.tl
  ·exact absurd e g
  ·exact⟨S0,st⟩
theorem U5.pre2(F:U5 mb ok H nu n ds d P S)(g:M5 S D)(hn:n<100):Ja P/\P.ppl.length<=100/\P.out.length<=900/\ds.length<=900/\(D=.close->∃ ms,P.lis=some ms/\ms.length<=100):=by
 have h1:=F.so.num;have h2:=F.len;have h3:=F.so.few;refine⟨F.re.b.ovok F.so,by rw[F.re.b.ppl];omega,by rw[F.re.b.out];omega,by omega,?_⟩
 rintro rfl;obtain⟨_,g2⟩:=g;cases e:S.cur with
 | none=>exact absurd e g2
 | some s=>exact⟨s.ms,by rw[F.re.b.lis,e];rfl,zzg (F.so.cur s e).1 (by decide)⟩
theorem U5.back(F:U5 mb ok H nu n ds d P S)(h:ds≠[]):S.std≠[]:=by
 obtain⟨nd,⟨e,_⟩|⟨S0,b,st,x,_,e⟩⟩:=F.tl
 ·exact absurd e h
 ·rw[e];simp
end
inductive Jf(K:PySem.W.Frag)(ca:CA)(vs:List V)(H:Hp)(Q:VK)(_:XK):Prop where
 | mk(mb:Bool)(A:SAd)(l le:Addr)(ts:List V)(es:List P3)(ds:List Addr)(d:Addr)(P:Pg)(S:Sea)(nu:List Int)(n:Nat)(_:vs=[.ref A.p,.ref l,.ref le])(_:Zy ca H A S)(_:H l=some (.lst ((ds++[d]).map V.ref)))(_:l∉A.fp)(_:U5 mb (·∉A.fp) H nu n ds d P S)(_:H le=some (.lst ts))(_:le∉A.fp)(_:TupL H ts (es.map enV))(_:(es.map (·.1)).Nodup)(_:(∀ x∈es,x.1∈nu/\¬ badI x.1 x.2.1 x.2.2/\x.1∉S.ppl.map (·.1)))(_:S.ppl.length+es.length<=30)(_:n+es.length<=90)(_:S.cur=none)(_:S.led.length<S.len)(_:∀ A' l' ds' d' P' S' H',Zy ca H' A' S'->H' l'=some (.lst ((ds'++[d']).map V.ref))->l'∉A'.fp->U5 mb (·∉A'.fp) H' nu (n+es.length) ds' d' P' S'->FrN A A' H H'->S'.cur=none->S'.led=S.led->S'.len=S.len->Q (.ref l') H')
theorem B4{mb:Bool}{ok:Addr->Prop}{H:Hp}{d:Addr}{r q n:Nat}{nu:List Int}(pg:PgAt ok H d (Bw r q))(hr:r<=60)(hq:q<=10):U5 mb ok H nu n [] d (Bw r q) (zd5 r q) :=
 ⟨pg,⟨⟨rfl,rfl,rfl,rfl,rfl,rfl⟩,nofun,fun _=>rfl⟩,⟨nofun,.nil,nofun,zzs _,rfl,nofun,⟨zzs _,hr,hq⟩,fun z=>absurd rfl z,⟨zzs _,zzs _⟩,fun s hs=>(by rcases hs with z|z<;>cases z)⟩,nofun,.inl ⟨rfl,rfl⟩⟩
theorem Fy{lo:Int}{n:Nat}{g:TG}{tb:TS}{D:T9}{σ:L2.St}{H:Hp}(Pv:Nat->L2.St->Hp->Prop)(h0:Pv 0 σ H)
  (hs:∀ N:L2.St->Hp->Prop,(∀ i σ H,Pv i σ H->N σ H)->∀ i σ H,i<n->Pv i σ H->g (.int (lo+i)) σ H fun σ2 H2=>tb { D with nx:=Pv (i+1),ct:=Pv (i+1),bk:=N } σ2 H2) (hd:∀ i σ H,Pv i σ H->D.nx σ H) :
  ∃ W:Nat->Nat->L2.St->Hp->Prop,(∃ m,W 0 m σ H)/\∀ i m σ H,W i m σ H ->
    ((Itr lo n).stop i H/\D.nx σ H)\/((Itr lo n).go i H/\∃ N:L2.St->Hp->Prop,(∀ σ' H',N σ' H'->∃ m',m' < m/\W (i+1) m' σ' H')/\∀ x H',(Itr lo n).yld i H x H'->g x σ H' fun σ2 H2=>tb { D with nx:=N,ct:=N,bk:=D.nx } σ2 H2) :=
 Ti Pv h0 (hs D.nx hd) (fun σ H p=>hd n σ H p)
theorem zb4(S:Sea):Vo S (atV S)=S.cur:=by
 unfold Vo atV;rw[if_neg (by omega),if_neg (by omega)]
theorem zif{ca:CA}{H:Hp}{S:Sea}{E:XK}{k:Zt->Prop}{s:Zt}{nu:List Int}{n:Nat}(o:SOk nu n S)(h:S.cur=some s)(hk:k s):zah ca H S (atV S) E k:=by
 have h1:=o.len;have h2:=o.lt (by rw[h];exact nofun)
 have h3:atV S=(S.led.length:Int)+1:=rfl;refine⟨Yx (by omega) (by omega),o.olen,?_⟩
 rw[if_neg (by omega),zb4]
 exact⟨fun z=>(by rw[h] at z;cases z),fun s' hs=>(by rw[h] at hs;cases hs;exact hk)⟩
theorem zf7{ca:CA}{A:SAd}{S:Sea}{H H':Hp}{t:Addr}{D:Ts}(SA:Zy ca H A S)(h:Ux (fun x=>H x=none) H' t D):Ux (·∉A.fp) H' t D:=h.imp fun x hx=>SA.newOk x hx
noncomputable def Jg(H H':Hp):Prop:=Xk H H'/\∀ x c e f,H x=some (.ins c e f)->H' x=some (.ins c e f)
theorem Jg.dict{H:Hp}{d:Addr}{kvs kvs':List (Key×V)}(h:H d=some (.dK kvs)):Jg H (upd H d (.dK kvs')) :=
 ⟨.dict h,fun x c e f z=>by rw[Zh (Ym z h (by intro z;cases z))];exact z⟩
theorem ShAt.keepI{C:Addr}{ok:Addr->Prop}{H H':Hp}{q:Addr}{s:Zt}(k:Jg H H')(h:ShAt C ok H q s):ShAt C ok H' q s:=by
 obtain⟨dx,l1,l2,l3,l4,ts,ls,gts,a1,a2,a3,a4,a5,a6,a7,a8,o1,o2,o3,o4,o5,o6⟩:=h;exact⟨dx,l1,l2,l3,l4,ts,ls,gts,k.2 _ _ _ _ a1,k.1.1 _ _ a2,a3.mono k.1.2,k.1.1 _ _ a4,ILs.keepL k.1 a5,k.1.1 _ _ a6,k.1.1 _ _ a7,a8.keepL k.1,o1,o2,o3,o4,o5,o6⟩
theorem ShO.keepI{C:Addr}{ok:Addr->Prop}{H H':Hp}{v:V}{s:Option Zt}(k:Jg H H')(h:ShO C ok H v s):ShO C ok H' v s:=by
 cases s with
 | none=>exact h
 | some s=>obtain⟨q,e,h⟩:=h;exact⟨q,e,h.keepI k⟩
theorem ShL.keepI{C:Addr}{ok:Addr->Prop}{H H':Hp}(k:Jg H H'):∀ {vs:List V} {ss:List Zt},ShL C ok H vs ss->ShL C ok H' vs ss
 | _,_,.nil=>.nil
 | _,_,.cons h r=>.cons (h.keepI k) (ShL.keepI k r)
theorem Uw.keepI{C:Addr}{ok:Addr->Prop}{H H':Hp}(k:Jg H H'):∀ {vs:List V} {ss:List (U4×Option Zt)},Uw C ok H vs ss->Uw C ok H' vs ss
 | _,_,.nil=>.nil
 | _,_,.cons h hu hs r=>.cons (k.1.2 _ _ h) (k.1.2 _ _ hu) (hs.keepI k) (Uw.keepI k r)
theorem Zy.dictW{ca:CA}{A:SAd}{S:Sea}{H:Hp}{d:Addr}{kvs kvs':List (Key×V)}(h:Zy ca H A S)(hd:H d=some (.dK kvs))(n:d∉A.fp):Zy ca (upd H d (.dK kvs')) A S:=by
 have k:=Jg.dict hd (kvs':=kvs');have hn:∀ x∈A.fp,∀ o,H x=some o->upd H d (.dK kvs') x=some o:=fun x hx o e=>by rw[Zh (fun z=>n (by rw[<- z];exact hx))];exact e
 obtain⟨⟨dx,v,a1,a2⟩,b,c,⟨kvs0,d1,d2⟩,⟨vs,f1,f2⟩,⟨us,g1,g2⟩,nd,np⟩:=h;have hp:A.p∈A.fp:=by simp[SAd.fp]
 have hdr:A.dr∈A.fp:=by simp[SAd.fp]
 have hlr:A.lr∈A.fp:=by simp[SAd.fp]
 have hld:A.ld∈A.fp:=by simp[SAd.fp]
 have hda:A.da∈A.fp:=by simp[SAd.fp]
 have hls:A.ls∈A.fp:=by simp[SAd.fp]
 have hlt:A.lt∈A.fp:=by simp[SAd.fp]
 obtain⟨⟨dxr,kvr,r1,r2,r3⟩,ndr⟩:=b;obtain⟨⟨dxl,l1⟩,l2,l3⟩:=id c;refine⟨⟨dx,v,hn _ hp _ a1,a2.keepI k⟩,⟨⟨dxr,kvr,k.2 _ _ _ _ r1,hn _ hdr _ r2,r3.mono k.1.2⟩,ndr⟩,c.keep (fun o e=>?_) (hn _ hlr) (hn _ hld) k.1.2,⟨kvs0,hn _ hda _ d1,d2⟩,⟨vs,hn _ hls _ f1,f2.keepI k⟩,⟨us,hn _ hlt _ g1,g2.keepI k⟩,nd,np⟩
 rw[l1] at e
 cases e;exact k.2 _ _ _ _ l1
theorem FrN.dictW{A:SAd}{H:Hp}{d:Addr}{kvs kvs':List (Key×V)}(hd:H d=some (.dK kvs)){b:Addr}{o:HO}(e:H b=some o)(h:∀ k,o≠.dK k):upd H d (.dK kvs') b=some o:=by
 rw[Zh (Ym e hd (by intro z;exact h _ z))];exact e
theorem Rm.dictW{K:PySem.W.Frag}{A:SAd}{H:Hp}{d b:Addr}{kvs kvs':List (Key×V)}{xs:List V}(h:Rm K A H b xs)(hd:H d=some (.dK kvs)):Rm K A (upd H d (.dK kvs')) b xs:=by
 rcases h with ⟨h|⟨o,h⟩,n⟩|h
 ·exact .inl ⟨.inl (FrN.dictW (A:=A) hd h (by intro k z;cases z)),n⟩
 ·exact .inl ⟨.inr ⟨o,FrN.dictW (A:=A) hd h (by intro k z;cases z)⟩,n⟩
 ·exact .inr h
theorem Lc.dictW{A:SAd}{H:Hp}{d t lc ln:Addr}{cs nu:List Int}{kvs kvs':List (Key×V)}(h:Lc A H t lc ln cs nu)(hd:H d=some (.dK kvs)):Lc A (upd H d (.dK kvs')) t lc ln cs nu:=by
 have k:=Xk.dict hd (kvs':=kvs');obtain⟨⟨a1,a2,a3,a4,a5,a6,a7,a8,a9⟩,o⟩:=h;exact⟨⟨k.2 _ _ a1,k.1 _ _ a2,k.1 _ _ a3,a4,a5,a6,a7,a8,a9⟩,o⟩
end G

namespace G
open PySem PySem.Spec PyProof.Rows L2
end G

namespace L2
open PySem PySem.Spec PyProof.Rows
theorem fnS{N P:List Str}{sc:Scope}(a:sc.kind=.function:=by rfl)(b:sc.isCoroutine=false:=by rfl)(c:sc.isGenerator=false:=by rfl)(d:N.Nodup:=by decide +kernel)(e:N.take P.length=P:=by rfl)(f:∀ x∈P,sc.names.lookup x=some .local\/sc.names.lookup x=some .cell:=by decide +kernel)(g:∀ y∈sc.names,y.2≠.free:=by decide +kernel):Zl N P sc:=⟨a,b,c,d,e,f,g⟩
section
variable{X:Cx}{k j:Nat}{C:Addr}{ps:List Str}{sp:Sp}{E:XK}{x m:Str}{p pos pos' apos:Pos}{e o a b:Expr}{es:List Expr}{ta tb te:TE}{t:TA}{r:R2}
theorem pS(i:Nat)(hN:X.N.Nodup)(he:PE X e te)(hi:X.N[i]?=some x:=by rfl)(hx:Loc X.env.scope x:=by first|exact Or.inl rfl|exact Or.inr rfl)(hs:swapsWith e (some (.Name x pos')) pos.line X.env=pure false:=by rfl)(hf:Cy X i x:=by first|exact⟨.inl rfl,Wo⟩|exact⟨.inr rfl,Wo⟩|assumption|exact⟨.inl rfl,by assumption⟩|exact⟨.inr rfl,by assumption⟩) :
  PS X (.Assign [.Name x pos'] e pos) (zat te (Vh i)):=zg7 hN hi hx he hs hf
theorem pN(i:Nat)(hN:X.N.Nodup)(hi:X.N[i]?=some x:=by rfl)(hx:Loc X.env.scope x:=by first|exact Or.inl rfl|exact Or.inr rfl)(hf:Cy X i x:=by first|exact⟨.inl rfl,Wo⟩|exact⟨.inr rfl,Wo⟩|assumption|exact⟨.inl rfl,by assumption⟩|exact⟨.inr rfl,by assumption⟩):PG X (.Name x pos) (Vh i):=U0 hN hi hx hf
theorem pI(hr:IxR X r)(ha:PE X a ta)(hb:PE X b tb)(hs:Aq b:=by exact fun _ _=>rfl):PE X (.Subscript a b pos) (tOp r ta tb):=zjc hr ha hb hs
theorem pD(hu:X.A.units+1<cLine)(ho:PE X a ta)(hi:PE X b tb)(hs:zhd b:=by exact fun _ _=>rfl):PE X (.Subscript a b pos) (zgo ta tb):=zfc hu ho hi hs
theorem pF(D:Z7 X.prog X.w X.K X.mg X.base x k ps sp)(hr:W4 j X.A)(ha:PA X (e :: es) t)(hk:k<=j:=by decide)(hx:Va (CX1 X.prog X.w) X E:=by exact Zk)(hg:Gl X x:=by rfl)(hdb:(x == ("__debug__":Str))=false:=by decide)
  (he:starEach (e :: es) X.env=(false,eval e X.env) :: starEach es X.env:=by rfl) (hpl:(backTo pos (starEach es X.env)).any (·.1)=false:=by rfl):PE X (.Call (.Name x p) (e :: es) [] pos) (zcw sp [] E t):=Av D (hr.mono hk) hx hg ha hdb he hpl
theorem iL(K:PySem.W.Frag)(h:X.K=K:=by rfl):IxR X (J8 K):=zdh h
theorem iU(K:PySem.W.Frag)(h:X.K=K:=by rfl):IxR X (zhm K):=zfm h
theorem cL(K:PySem.W.Frag)(h:X.K=K:=by rfl):Vg X (.builtin "len") (fun xs H Q=>∃ p ys,xs=[.ref p]/\(SqL K H p ys\/SqT K H p ys)/\Q (.int ys.length) H):=Ig h
end
theorem cT{X:Cx}{x:Str}{scope:Scope}{cl:List (Str×Addr)}(ys:List Str)(js:List Nat)(a:closureFor scope X.env=pure cl:=by rfl)(b:scope.kind=.function:=by rfl)(c:∀ y∈scope.names,y.2=.local->scope.names.lookup y.1=some .local:=by decide +kernel)(d:∀ y∈scope.names,y.2≠.cell:=by decide +kernel)(e:scope.names.lookup x=some .local:=by rfl)(f:(x :: ys).Nodup:=by decide +kernel)(g:js.map (X.N[·]?)=ys.map some:=by rfl)
  (h:Ie (fun y=>X.env.kindOf y=some .cell/\(relabel scope X.env).names.lookup y=some .cell/\cl.lookup y=X.env.cells.lookup y) ys:=by repeat' (first|exact True.intro|apply And.intro|rfl)) (i:Ie (fun p=>X.env.cells.lookup p.1=some p.2) cl:=by repeat' (first|exact True.intro|apply And.intro|rfl)) (j:∀ y∈scope.names,y.2=.free->y.1∈ys:=by decide +kernel):As X x scope cl ys js:=⟨a,b,c,d,e,f,g,h,i,j⟩
noncomputable abbrev LkF(K:PySem.W.Frag)(f:Addr)(x q:Str)(st:Stmt)(oc kV dc pm cd ct:Value)(od an:Option Addr)(sl:Array (Option Value)):Prop:=K.lookup f=some ⟨oc,od,.func (PySem.W.fnOf x q (Tu st) (Zs st) (Zj st) .none kV dc pm an cd ct),sl⟩
noncomputable abbrev NsB(K:PySem.W.Frag)(x:Str)(f:Addr):Prop:=PySem.W.nsIn K mainGlobals x=some (some (.ref f))
noncomputable abbrev FdB(K:PySem.W.Frag)(c:Addr)(x:Str)(f:Addr):Prop:=PySem.W.findIn K (.ref c) x=some (some (.ref f))
noncomputable abbrev BnA(x q:Str)(st:Stmt)(ps:List Str):Prop:=∀ (kV doc pm:Value) (an:Option Addr) (cdv ct:Value) (us:List Value),us.length=ps.length->bindArgs (PySem.W.fnOf x q (Tu st) (Zs st) (Zj st) .none kV doc pm an cdv ct) ⟨us,[]⟩=pure (ps.zip us)
noncomputable abbrev BnE(x q:Str)(st:Stmt)(ps:List Str)(us:List Value):Prop:=∀ (kV doc pm:Value) (an:Option Addr) (cdv ct:Value),bindArgs (PySem.W.fnOf x q (Tu st) (Zs st) (Zj st) .none kV doc pm an cdv ct) ⟨us,[]⟩=pure (ps.zip us)
section
variable{x q a b c d e g:Str}{st:Stmt}
theorem bn1(h:∀ u,BnE x q st [a] [u]:=by intros _ _ _ _ _ _ _;rfl):BnA x q st [a]:=fun _ _ _ _ _ _ us hl=>match us,hl with|[_],_=>h _ _ _ _ _ _ _
theorem bn2(h:∀ u v,BnE x q st [a,b] [u,v]:=by intros _ _ _ _ _ _ _ _;rfl):BnA x q st [a,b]:=fun _ _ _ _ _ _ us hl=>match us,hl with|[_,_],_=>h _ _ _ _ _ _ _ _
theorem bn3(h:∀ u v w,BnE x q st [a,b,c] [u,v,w]:=by intros _ _ _ _ _ _ _ _ _;rfl):BnA x q st [a,b,c]:=fun _ _ _ _ _ _ us hl=>match us,hl with|[_,_,_],_=>h _ _ _ _ _ _ _ _ _
theorem bn4(h:∀ u v w y,BnE x q st [a,b,c,d] [u,v,w,y]:=by intros _ _ _ _ _ _ _ _ _ _;rfl):BnA x q st [a,b,c,d]:=fun _ _ _ _ _ _ us hl=>match us,hl with|[_,_,_,_],_=>h _ _ _ _ _ _ _ _ _ _
theorem bn5(h:∀ u v w y z,BnE x q st [a,b,c,d,e] [u,v,w,y,z]:=by intros _ _ _ _ _ _ _ _ _ _ _;rfl):BnA x q st [a,b,c,d,e]:=fun _ _ _ _ _ _ us hl=>match us,hl with|[_,_,_,_,_],_=>h _ _ _ _ _ _ _ _ _ _ _
end
section
variable{K:PySem.W.Frag}{mg:Str->Option Value}{x y q m:Str}{k:Nat}{ps:List Str}{sp:Sp}{C:Addr}{st:Stmt}{f:Addr}{fd:FuncData}
theorem dMk(P:Program)(w:World)(base:Heap)(F:Fun K x q st f fd)(ok:Z3 P w K mg base (CX1 P w) k f fd ps sp)(b:mg y=some (.ref f))(hb:BnA x q st ps:=by first|exact bn1|exact bn2|exact bn3|exact bn4|exact bn5):Z7 P w K mg base y k ps sp:=⟨f,fd,ok,b,F.kp,F.binds hb⟩
theorem mMk(P:Program)(w:World)(base:Heap)(F:Fun K x q st f fd)(ok:Z3 P w K mg base (CX1 P w) k f fd ps sp)(b:zcv K C m f)(hb:BnA x q st ps:=by first|exact bn1|exact bn2|exact bn3|exact bn4|exact bn5):Zx P w K mg base C m k ps sp:=⟨f,fd,ok,b,F.binds hb⟩
theorem nMk(P:Program)(w:World)(base:Heap)(F:Fun K x q st f fd)(ok:Z3 P w K mg base (CX1 P w) k f fd ps sp)(b:Mk K C f)(c:mg y=some (.ref C))(hb:BnA x q st ps:=by first|exact bn1|exact bn2|exact bn3|exact bn4|exact bn5):Sx P w K mg base y C k ps sp:=⟨f,fd,ok,b,c,F.binds hb⟩
end
section
variable{X:Cx}{elt iter:Expr}{x:Str}{px pos:Pos}{ifs:List Expr}{scope:Scope}{cl:List (Str×Addr)}{ys:List Str}{js:List Nat}
theorem Jh{pins:List (Addr×Obj)}{σ:St}{H:Hp}{s:Shared}{tt:TT}{te:TE}{it:Addr}{fp:List Addr}{tn:Nat->Heap->Prop}{J:It}{W:Nat->Nat->List V->Hp->Prop}{m0:Nat}{Q:VK}{E:Value->Shared->Prop}{RR:Value->Addr->Result->Shared->Prop}
  (hcm:X.calm=true) (c:As X x scope cl ys js) (ht:∀ pn s₀ H₀ fp C,PTs (Yt X pn (x :: ys) scope cl s₀ H₀ fp C) ifs tt) (hgt:∀ pn s₀ H₀ fp C,PG (Yt X pn (x :: ys) scope cl s₀ H₀ fp C) (.Name x px) (Vh 0)) (he:∀ pn s₀ H₀ fp C,PE (Yt X pn (x :: ys) scope cl s₀ H₀ fp C) elt te)
  (I:Inv X pins σ H s) (T:En X.prog X.w X.K (.Name x px) J fp it tn) (st0:tn 0 s.heap) (hf:∀ b∈fp,FpOk X pins H b) (w0:W 0 m0 [] H)
  (turn:∀ i m ys H,W i m ys H->(J.stop i H/\ys.length<=sizeLine/\∀ p,H p=none->Q (.ref p) (upd H p (.lst ys))) \/
   (J.go i H/\ys.length<sizeLine/\∃ N:List V->Hp->Prop,(∀ ys' H',N ys' H'->∃ m',m' < m/\W (i+1) m' ys' H')/\∀ x H',J.yld i H x H'->tt (cs js σ x) H' fun b H2=>if b=true then te (cs js σ x) H2 fun y H3=>N (ys++[y]) H3 else N ys H2))
  (hRR:∀ D C s' m,s'.heap.Ns C m->(∀ h',Heap.SameBut C s'.heap h'->∃ H',Inv X pins σ H' { s' with heap:=h' }/\Q (.ref D) H')->(∃ H',Inv X pins σ H' s'/\Q (.ref D) H'/\H' C=none)->s.heap.objs.size<=C->RR (.ref D) C (.ok .next) s') :
  wpAny (model X.prog X.w) X.A (newList []) (fun acc s₃=>wpAny (model X.prog X.w) X.A (newFunctionEnv scope X.env.globals cl [] X.env.qual none .none (some X.env)) (fun cenv s₄ =>
   codeAny (model X.prog X.w) X.A (.compStart (.ListComp elt [⟨.Name x px,iter,ifs,0⟩] scope pos) 0 (.ref it) acc { cenv with scope:=relabel scope X.env }) (RR acc cenv.locals) s₄) E s₃) E s :=
 Kv (xo:=[x]) (g:=Vh 0) hcm ⟨c.clos,c.kind,c.names,c.nocell,c.at_,c.free,c.only,c.vis⟩ ht hgt he I T st0 hf w0 (fun i m ys H w=>(turn i m ys H w).imp id fun ⟨a,b,N,n1,n2⟩=>⟨a,b,N,n1,fun y H' hy=>⟨⟨[some y],rfl,rfl⟩,n2 y H' hy⟩⟩) hRR
variable{wi:TI}{tt:TT}{te:TE}
theorem Ut(hcm:X.calm=true)(c:As X x scope cl ys js)(hi:PI X (.Name x px) iter wi)(ht:∀ pn s₀ H₀ fp C,PTs (Yt X pn (x :: ys) scope cl s₀ H₀ fp C) ifs tt)(he:∀ pn s₀ H₀ fp C,PE (Yt X pn (x :: ys) scope cl s₀ H₀ fp C) elt te)
  (hx:∀ C,(compEnvC scope cl C X.env).scope.names.lookup x=some .local:=by intro _;rfl) (hs:∀ x,foldedSetIterable iter X.env x=pure x:=by intro _;rfl):PE X (.ListComp elt [⟨.Name x px,iter,ifs,0⟩] scope pos) (zgr wi js tt te):=by
 intro pins s σ H Q I h;rw[eval_ListComp];refine wpAny_comprehension_free (use:=none) rfl hs c.clos c.kind c.names (thn (hi pins s σ H _ I h) fun v s1 h1=>thn h1 fun itv s2 h2=>?_)
 obtain⟨it,fp,tn,J,H2,e,I2,T,st2,f2,W,⟨m0,w0⟩,turn⟩:=h2;subst e;exact Jh (RR:=fun acc C=>compPost (model X.prog X.w) X.A X.xe none (EP X pins σ Q) acc C) hcm c ht (fun _ _ _ _ C=>U0 (X:=Yt X _ (x :: ys) scope cl _ _ _ C) c.nd rfl (.inl (hx C)) ⟨.inr (hx C),Wo⟩) he I2 T st2 f2 w0 turn fun D C s' m hn hS _ _=>⟨m,hn,fun h' hs'=>let ⟨H',I',q⟩:=hS h' hs';⟨.ref D,H',I',rfl,q⟩⟩
theorem T2{y:Str}{py spos:Pos}{i:Nat}(hN:X.N.Nodup)(hy:X.N[i]?=some y)(hk:X.env.scope.names.lookup y=some .local)(hcm:X.calm=true)(c:As X x scope cl ys js)(hi:PI X (.Name x px) iter wi)(ht:∀ pn s₀ H₀ fp C,PTs (Yt X pn (x :: ys) scope cl s₀ H₀ fp C) ifs tt)
  (he:∀ pn s₀ H₀ fp C,PE (Yt X pn (x :: ys) scope cl s₀ H₀ fp C) elt te)
  (hx:∀ C,(compEnvC scope cl C X.env).scope.names.lookup x=some .local:=by intro _;rfl) (hsw:swapsWith (.ListComp elt [⟨.Name x px,iter,ifs,0⟩] scope pos) (some (.Name y py)) spos.line X.env=pure true:=by rfl) (hs:∀ x,foldedSetIterable iter X.env x=pure x:=by intro _;rfl)
  (hf:Cy X i y:=by first|exact⟨.inr rfl,Wo⟩|assumption|exact⟨.inr rfl,by assumption⟩) :
  PS X (.Assign [.Name y py] (.ListComp elt [⟨.Name x px,iter,ifs,0⟩] scope pos) spos) (zat (zgr wi js tt te) (Vh i)):=by
 intro pins s σ H D0 I h;rw[exec_Assign_Name_used _ _ _ _ hsw];refine wpAny_bind (wpAny_standAt (wpAny_bind ?_));show wpAny _ X.A (do let _ <- comprehension (.ListComp elt [⟨.Name x px,iter,ifs,0⟩] scope pos) scope X.env _ (newList []) false (eval iter X.env) (some (assign (.Name y py) X.env))) _ _ s
 refine wpAny_bind (wpAny_mono (wpAny_comprehension_free (use:=some (assign (.Name y py) X.env)) (Q:=fun _ s'=>SP X pins D0 .next s') rfl hs c.clos c.kind c.names
  (thn (hi pins s σ H _ I h) fun v s1 h1=>thn h1 fun itv s2 h2=>?_)) (fun _ s' hq=>wpAny_pure (wpAny_pure hq)) fun _ _ e=>e)
 obtain⟨it,fp,tn,J,H2,e,I2,T,st2,f2,W,⟨m0,w0⟩,turn⟩:=h2;subst e;refine Jh (Q:=fun x H1=>D0.nx (σ.set i (some x)) H1) (RR:=fun acc C=>compPost (model X.prog X.w) X.A X.xe (some (assign (.Name y py) X.env)) (fun _ s'=>SP X pins D0 .next s') acc C) hcm c ht (fun _ _ _ _ C=>U0 (X:=Yt X _ (x :: ys) scope cl _ _ _ C) c.nd rfl (.inl (hx C)) ⟨.inr (hx C),Wo⟩) he I2 T st2 f2 w0 turn fun D C s' m hn _ hS hC=>?_
 obtain⟨H',I',q,fC⟩:=hS;show wpAny _ X.A (assign (.Name y py) X.env (.ref D)) _ _ _;have ltC:∀ b o,s2.heap.get? b=some o->b≠C:=fun b o e=>zzr (zzk (Heap.lt_size e) hC)
 have neL:C≠X.env.locals:=by
  obtain⟨_,⟨o,_,_,ho,_⟩,_⟩:=I2.loc;exact Ne.symm (ltC _ o ho)
 have neK:∀ z a,X.env.cells.lookup z=some a->a≠C:=fun z a e=>by
  obtain⟨_,o,ho,_⟩:=I2.cell z a e;exact ltC a o ho
 refine wpAny_assign_Name (Hq I' hN hy (.inl hk) (v:=.ref D) (show RelV (.ref D) (.ref D) from rfl) (fun s4 I4 ⟨a,hs4,ha⟩=>?_) hf)
 have naC:C≠a:=by
  rcases ha with ha|ha
  ·rw[ha];exact neL
  ·exact Ne.symm (neK _ _ ha)
 refine⟨m,hn.sameBut hs4 naC,fun h5 hs5=>⟨_,H',?_,q⟩⟩
 refine I4.turned (t':=s4.toks) (it:=C) (fun b o hb e=>hs5.extBut b o hb e) fC neL (.inr (zzg I2.sz hC)) neK fun p hp=>?_
 obtain⟨e,_⟩:=I2.pin p hp;exact ltC _ _ e
end
end L2

namespace G
open PySem PySem.Spec PyProof.Rows L2
end G

namespace G
open PySem PySem.Spec PyProof.Rows L2
end G

namespace G
open PySem PySem.Spec PyProof.Rows L2
end G

namespace L2
open PySem PySem.Spec PyProof.Rows
section
variable{X:Cx}{elt iter tg:Expr}{xo:List Str}{pos:Pos}{ifs:List Expr}{scope:Scope}{cl:List (Str×Addr)}{ys:List Str}{js:List Nat}{g:TG}{wi:TI}{tt:TT}{te:TE}
end
end L2
namespace G
open PySem PySem.Spec PyProof.Rows L2
end G

namespace L2
open PySem PySem.Spec PyProof.Rows
section
variable{prog:Program}{w:World}{A:Around}{E:Value->Shared->Prop}{s:Shared}
end
section
variable{prog:Program}{w:World}{A:Around}{R:Result->Shared->Prop}{it:Addr}{fp wr:List Addr}{G:Array GenState->Array GenState->Prop}{n:Nat}{P:Nat->Value->Prop}{St:Nat->Shared->Prop}
end
section
variable{prog:Program}{w:World}{A:Around}{E:Value->Shared->Prop}{s:Shared}
end
end L2

namespace G
open PySem PySem.Spec PyProof.Rows L2
variable{rows:List (List Int)}{gs:List V}
noncomputable def U6(v:V):Nat:=if v=.non then 0 else 1
noncomputable def binV(a:Nat)(gs:List V):Nat:=gs.foldl (fun a v=>2*a+U6 v) a
theorem zig(v:V):U6 v<=1:=by unfold U6;split<;>omega
theorem B5:∀ {xs ys:List V} {a b:Nat},xs.length=ys.length->a<b->binV a xs<binV b ys
 | [],[],a,b,_,h=>h
 | x :: xs,y :: ys,a,b,e,h=>by
   have hx:=zig x;exact B5 (xs:=xs) (ys:=ys) (a:=2*a+U6 x) (b:=2*b+U6 y) (by simpa using e) (by omega)
theorem Qe:∀ {xs ys:List V} {a:Nat},xs.length=ys.length->(Tw xs ys=true↔binV a ys<binV a xs)
 | [],[],a,_=>by simp[Tw,binV]
 | x :: xs,y :: ys,a,e=>by
   have e':xs.length=ys.length:=by simpa using e
   show (if decide (x=.non)=decide (y=.non) then Tw xs ys else decide (y=.non))=true↔binV (2*a+U6 y) ys<binV (2*a+U6 x) xs
   by_cases hx:x=.non<;>by_cases hy:y=.non
   ·rw[if_pos (by rw[zy4 hx,zy4 hy]),hx,hy];exact Qe e'
   ·rw[if_neg (by rw[zy4 hx,zzb hy];decide),zzb hy]
    have h1:U6 x=0:=by unfold U6;rw[if_pos hx]
    have h2:U6 y=1:=by unfold U6;rw[if_neg hy]
    have:=B5 (xs:=xs) (ys:=ys) (a:=2*a+U6 x) (b:=2*a+U6 y) e' (by omega)
    exact⟨(fun z=>nomatch z),fun z=>by omega⟩
   ·rw[if_neg (by rw[zzb hx,zy4 hy];decide),zy4 hy]
    have h1:U6 x=1:=by unfold U6;rw[if_neg hx]
    have h2:U6 y=0:=by unfold U6;rw[if_pos hy]
    have:=B5 (xs:=ys) (ys:=xs) (a:=2*a+U6 y) (b:=2*a+U6 x) e'.symm (by omega)
    exact⟨fun _=>this,fun _=>rfl⟩
   ·have h1:U6 x=U6 y:=by unfold U6;rw[if_neg hx,if_neg hy]
    rw[if_pos (by rw[zzb hx,zzb hy]),h1];exact Qe e'
theorem Ji:∀ {xs ys:List V},xs.length=ys.length->Tw xs ys=true->∃ (p:Nat) (v:V),xs[p]?=some v/\v≠V.non/\ys[p]?=some V.non/\∀ q:Nat,q<p->(xs[q]?=some V.non↔ys[q]?=some V.non)
 | [],[],_,h=>nomatch h
 | x :: xs,y :: ys,e,h=>by
   have e':xs.length=ys.length:=by simpa using e
   replace h:(if decide (x=.non)=decide (y=.non) then Tw xs ys else decide (y=.non))=true:=h
   by_cases hc:decide (x=.non)=decide (y=.non)
   ·rw[if_pos hc] at h
    obtain⟨p,v,h1,h2,h3,h4⟩:=Ji e' h;refine⟨p+1,v,by simpa using h1,h2,by simpa using h3,fun q hq=>?_⟩
    cases q with
    | zero =>
      have:x=.non↔y=.non:=decide_eq_decide.mp hc
      simpa using this
    | succ q=>simpa using h4 q (by omega)
   ·rw[if_neg hc] at h
    have hy:=of_decide_eq_true h;have hx:x≠.non:=fun z=>hc (by rw[zy4 z,zy4 hy])
    exact⟨0,x,rfl,hx,by rw[hy];rfl,fun q hq=>absurd hq (z1c _)⟩
theorem Ce{rows:List (List Int)}{gs hs:List V}(F:Yh rows gs)(S:Vc rows gs)(F':Yh rows hs):Tw hs gs=false:=by
 cases hh:Tw hs gs with
 | false=>rfl
 | true =>
   exfalso
   obtain⟨p,v,h1,h2,h3,h4⟩:=Ji (F'.len.trans F.len.symm) hh;obtain⟨C,cp,cl⟩:=S p h3
   classical
   let L:=(List.range p).filter fun q=>decide (C q)
   have go:∀ q,q∈L++[p]->gs[q]?≠some .non\/q=p->∃ q' n,hs[q]?=some (.int n)/\q' < p/\gs[q']?=some (.int n)/\C q':=fun q hq hf=>by
    have cq:C q/\(q<p\/q=p):=by
     rcases zy6.mp hq with z|z
     ·have:=zzq.mp z
      exact⟨of_decide_eq_true this.2,.inl (zzx.mp this.1)⟩
     ·have z:=zy3.mp z;subst z;exact⟨cp,.inr rfl⟩
    obtain⟨hlt,hcl⟩:=cl q cq.1;have hql:q<hs.length:=by rw[F'.len];exact hlt
    have hx:hs[q]?=some (hs[q]'hql):=zy1 hql;rcases F'.one _ (zz4 hql) with z|⟨n,z⟩
    ·exfalso
     rw[z] at hx
     rcases cq.2 with hp|hp
     ·rcases hf with hf|hf
      ·exact hf ((h4 q hp).mp hx)
      ·omega
     ·subst hp;rw[h1] at hx;exact h2 (Option.some.inj hx)
    ·rw[z] at hx
     obtain⟨r,hr,hn⟩:=F'.may q n hx;obtain⟨q',a1,a2,a3⟩:=hcl r hr n hn;exact⟨q',n,hx,a1,a2,a3⟩
   let L2:=L.filter fun q=>decide (gs[q]?≠some .non)
   have go2:∀ q,q∈L2++[p]->∃ q' n,hs[q]?=some (.int n)/\gs[q']?=some (.int n)/\q'∈L2:=fun q hq=>by
    have:q∈L++[p]/\(gs[q]?≠some .non\/q=p):=by
     rcases zy6.mp hq with z|z
     ·have:=zzq.mp z
      exact⟨zy6.mpr (.inl this.1),.inl (of_decide_eq_true this.2)⟩
     ·exact⟨zy6.mpr (.inr z),.inr (zy3.mp z)⟩
    obtain⟨q',n,a1,a2,a3,a4⟩:=go q this.1 this.2;refine⟨q',n,a1,a3,zzq.mpr ⟨zzq.mpr ⟨zzx.mpr a2,zy4 a4⟩,zy4 ?_⟩⟩;rw[a3];exact(fun z=>nomatch z)
   have nd2:L2.Nodup:=(List.nodup_range.filter _).filter _;have np:p∉L2:=fun z=>by
    have:=zzx.mp (zzq.mp (zzq.mp z).1).1;omega
   let φ:Nat->Nat:=fun q=>if h:q∈L2++[p] then (go2 q h).choose else 0
   have φs:∀ q (h:q∈L2++[p]),∃ n,hs[q]?=some (.int n)/\gs[φ q]?=some (.int n)/\φ q∈L2:=fun q h=>by
    have:=(go2 q h).choose_spec;show ∃ n,hs[q]?=some (.int n)/\gs[if h:q∈L2++[p] then (go2 q h).choose else 0]?=_/\(if h:q∈L2++[p] then (go2 q h).choose else 0)∈L2
    rw[dif_pos h];exact this
   have nd:((L2++[p]).map φ).Nodup:=by
    have ndA:(L2++[p]).Nodup:=z04.mpr ⟨nd2,zzo.mpr ⟨zzz,z0p⟩,fun a ha b hb e=>by
     have:=zy3.mp hb;subst this;subst e;exact np ha⟩
    rw[zz3,List.pairwise_map];refine List.Pairwise.imp_of_mem (fun {i j} hi hj (hne:i≠j) z=>?_) (zz3.mp ndA)
    obtain⟨n,b1,b2,_⟩:=φs i hi;obtain⟨m,c1,c2,_⟩:=φs j hj;rw[z,c2] at b2
    have:m=n:=by injection b2 with b2;injection b2
    subst this;exact hne (F'.inj i j m b1 c1)
   have:=nd.length_le_of_subset (l₂:=L2) fun x hx=>by
    obtain⟨q,hq,rfl⟩:=zy9.mp hx;obtain⟨_,_,_,z⟩:=φs q hq;exact z
   rw[zyz,zy2] at this
   simp only[zzl,z1b] at this
   omega
theorem B6{rows:List (List Int)}{gs hs:List V}(F:Yh rows gs)(S:Vc rows gs)(F':Yh rows hs):binV 0 hs<=binV 0 gs:=by
 have:=Ce F S F';by_cases h:binV 0 gs<binV 0 hs
 ·rw[(Qe (F'.len.trans F.len.symm)).mpr h] at this;cases this
 ·omega
inductive StR(nu:List Int):List (List Int)->Nat->Nat->Prop where
 | nil:StR nu [] 0 0
 | skip {rows:List (List Int)} {r:List Int} {f u:Nat} (h:StR nu rows f u):StR nu (rows++[r]) (2*f) u
 | take {rows:List (List Int)} {r:List Int} {f u b:Nat} {n:Int} (h:StR nu rows f u) (hb:nu[b]?=some n) (hn:n∈r) (hu:u/2 ^ b%2=0):StR nu (rows++[r]) (2*f+1) (u+2 ^ b)
theorem zeo{u b:Nat}(h:u/2 ^ b%2=0):(u+2 ^ b)/2 ^ b%2=1:=by
 rw[Nat.add_div_right _ (Nat.two_pow_pos b)];omega
theorem zb5{u b c:Nat}(h:u/2 ^ b%2=0)(hc:c≠b):(u+2 ^ b)/2 ^ c%2=u/2 ^ c%2:=by
 rcases Nat.lt_or_gt_of_ne hc with z|z
 ·obtain⟨d,rfl⟩:∃ d,b=c+1+d:=⟨b-c-1,by omega⟩
  have e:2 ^ (c+1+d)=2 ^ c*(2*2 ^ d):=by rw[Nat.pow_add,Nat.pow_succ,Nat.mul_assoc]
  rw[e,Nat.add_mul_div_left _ _ (Nat.two_pow_pos c)];omega
 ·obtain⟨d,rfl⟩:∃ d,c=b+1+d:=⟨c-b-1,by omega⟩
  have e:2 ^ (b+1+d)=2 ^ b*2*2 ^ d:=by rw[Nat.pow_add,Nat.pow_succ]
  rw[e,<- z0x,<- z0x,<- z0x,<- z0x,Nat.add_div_right _ (Nat.two_pow_pos b)]
  congr 2
  omega
theorem Qf{α:Type}(xs:List α)(v:α)(k:Nat):(xs++[v])[k]?=if k<xs.length then xs[k]? else if k=xs.length then some v else none:=by
 by_cases h:k<xs.length
 ·rw[if_pos h,zz0 h]
 ·rw[if_neg h,zzy (Nat.le_of_not_lt h)]
  by_cases e:k=xs.length
  ·rw[if_pos e,e,Nat.sub_self];rfl
  ·rw[if_neg e]
   obtain⟨d,hd⟩:∃ d,k-xs.length=d+1:=⟨k-xs.length-1,by omega⟩
   rw[hd];rfl
theorem Sd{α:Type}{xs:List α}{k:Nat}{v:α}(h:xs[k]?=some v):k<xs.length:=(zy0.mp h).1
theorem Tt{α:Type}{xs:List α}{v x:α}{k:Nat}(h:xs[k]?=some x):(xs++[v])[k]?=some x:=by rw[Qf,if_pos (Sd h)];exact h
theorem Ub{α:Type}{xs:List α}{v x:α}{k:Nat}(h:(xs++[v])[k]?=some x):xs[k]?=some x\/(k=xs.length/\v=x):=by
 rw[Qf] at h
 split at h
 ·exact .inl h
 ·split at h
  ·rename_i e;exact .inr ⟨e,Option.some.inj h⟩
  ·cases h
theorem G0{rows:List (List Int)}{gs:List V}{r:List Int}{v:V}(F:Yh rows gs)(hv:v=.non\/∃ n,v=.int n/\n∈r/\∀ k:Nat,gs[k]?≠some (.int n)):Yh (rows++[r]) (gs++[v]):=by
 refine⟨by rw[zy2,zy2,F.len];rfl,fun x hx=>?_,fun k n h=>?_,fun j k n h1 h2=>?_⟩
 ·rcases zy6.mp hx with z|z
  ·exact F.one x z
  ·have:=zy3.mp z;subst this
   rcases hv with z|⟨n,z,_⟩
   ·exact .inl z
   ·exact .inr ⟨n,z⟩
 ·rcases Ub h with z|⟨z,e⟩
  ·obtain⟨q,h1,h2⟩:=F.may k n z
   exact⟨q,Tt h1,h2⟩
  ·rcases hv with z'|⟨m,z',hm,_⟩
   ·rw[z'] at e;cases e
   ·rw[z'] at e;injection e with e;subst e
    exact⟨r,by rw[Qf,z,F.len,if_neg (z0a _),if_pos rfl],hm⟩
 ·rcases Ub h1 with a|⟨a,ea⟩<;>rcases Ub h2 with b|⟨b,eb⟩
  ·exact F.inj j k n a b
  ·rcases hv with z|⟨m,z,_,hm⟩
   ·rw[z] at eb;cases eb
   ·rw[z] at eb;injection eb with eb;subst eb;exact absurd a (hm j)
  ·rcases hv with z|⟨m,z,_,hm⟩
   ·rw[z] at ea;cases ea
   ·rw[z] at ea;injection ea with ea;subst ea;exact absurd b (hm k)
  ·omega
theorem Cf{rows:List (List Int)}{gs:List V}{r:List Int}{v:V}(F:Yh (rows++[r]) (gs++[v])):Yh rows gs/\(v=.non\/∃ n,v=.int n/\n∈r/\∀ k:Nat,gs[k]?≠some (.int n)):=by
 have hl:gs.length=rows.length:=by have:=F.len;rw[zy2,zy2] at this;simpa using this
 have hat:(gs++[v])[gs.length]?=some v:=by rw[Qf,if_neg (z0a _),if_pos rfl]
 refine⟨⟨hl,fun x hx=>F.one x (zy6.mpr (.inl hx)),fun k n h=>?_,fun j k n h1 h2=>F.inj j k n (Tt h1) (Tt h2)⟩,?_⟩
 ·obtain⟨q,h1,h2⟩:=F.may k n (Tt h)
  rcases Ub h1 with z|⟨z,_⟩
  ·exact⟨q,z,h2⟩
  ·have:=Sd h;omega
 ·rcases F.one v (zy6.mpr (.inr (zy3.mpr rfl))) with z|⟨n,z⟩
  ·exact .inl z
  ·refine .inr ⟨n,z,?_,fun k h=>?_⟩
   ·obtain⟨q,h1,h2⟩:=F.may gs.length n (by rw[hat,z])
    rcases Ub h1 with y|⟨_,y⟩
    ·have:=Sd y;omega
    ·rw[y];exact h2
   ·have:=F.inj k gs.length n (Tt h) (by rw[hat,z])
    have:=Sd h;omega
open Classical in
theorem zal{p q:Prop}(h:p↔q):(if p then 1 else 0:Nat)=if q then 1 else 0:=by
 by_cases z:p
 ·rw[if_pos z,if_pos (h.mp z)]
 ·rw[if_neg z,if_neg fun y=>z (h.mpr y)]
open Classical in
noncomputable def G1(nu:List Int)(gs:List V)(u:Nat):Prop:=∀ (b:Nat) (n:Int),nu[b]?=some n->u/2 ^ b%2=if ∃ k:Nat,gs[k]?=some (.int n) then 1 else 0
theorem Qg(gs:List V)(v:V):binV 0 (gs++[v])=2*binV 0 gs+U6 v:=by unfold binV;rw[List.foldl_append];rfl
theorem zih{nu:List Int}(nd:nu.Nodup){b c:Nat}{n:Int}(h1:nu[b]?=some n)(h2:nu[c]?=some n):b=c:=by
 obtain⟨l1,e1⟩:=zy0.mp h1;obtain⟨l2,e2⟩:=zy0.mp h2;have hp:=List.pairwise_iff_getElem.mp (zz3.mp nd);rcases Nat.lt_trichotomy b c with z|z|z
 ·exact absurd (e1.trans e2.symm) (hp b c l1 l2 z)
 ·exact z
 ·exact absurd (e2.trans e1.symm) (hp c b l2 l1 z)
theorem zam{nu:List Int}{gs:List V}{u:Nat}(U:G1 nu gs u):G1 nu (gs++[.non]) u:=fun b n hb=>by
 rw[U b n hb];have:(∃ k:Nat,gs[k]?=some (.int n))↔∃ k:Nat,(gs++[V.non])[k]?=some (.int n):=⟨fun ⟨k,h⟩=>⟨k,Tt h⟩,fun ⟨k,h⟩=>by
  rcases Ub h with z|⟨_,z⟩
  ·exact⟨k,z⟩
  ·cases z⟩
 exact zal this
theorem zan{nu:List Int}{gs:List V}{u b:Nat}{n:Int}(nd:nu.Nodup)(U:G1 nu gs u)(hb:nu[b]?=some n)(hu:u/2 ^ b%2=0):G1 nu (gs++[.int n]) (u+2 ^ b):=fun c m hc=>by
 by_cases e:c=b
 ·subst e
  rw[hb] at hc;injection hc with hc;subst hc
  rw[zeo hu,if_pos ⟨gs.length,by rw[Qf,if_neg (z0a _),if_pos rfl]⟩]
 ·rw[zb5 hu e,U c m hc]
  have hne:m≠n:=fun z=>e (zih nd hc (by rw[z];exact hb))
  have:(∃ k:Nat,gs[k]?=some (.int m))↔∃ k:Nat,(gs++[V.int n])[k]?=some (.int m):=⟨fun ⟨k,h⟩=>⟨k,Tt h⟩,fun ⟨k,h⟩=>by
   rcases Ub h with z|⟨_,z⟩
   ·exact⟨k,z⟩
   ·injection z with z;exact absurd z.symm hne⟩
  exact zal this
theorem Fz{nu:List Int}(nd:nu.Nodup){rows:List (List Int)}{f u:Nat}(h:StR nu rows f u):∃ gs,Yh rows gs/\binV 0 gs=f/\G1 nu gs u:=by
 induction h with
 | nil=>exact⟨[],⟨rfl,fun x hx=>by simp at hx,fun k n h=>by simp at h,fun j k n h=>by simp at h⟩,rfl,fun b n _=>by simp⟩
 | skip _ ih =>
   obtain⟨gs,F,e,U⟩:=ih;exact⟨gs++[.non],G0 F (.inl rfl),by rw[Qg,e];rfl,zam U⟩
 | @take rows r f u b n _ hb hn hu ih =>
   obtain⟨gs,F,e,U⟩:=ih;refine⟨gs++[.int n],G0 F (.inr ⟨n,rfl,hn,fun k hk=>?_⟩),by rw[Qg,e];rfl,zan nd U hb hu⟩
   have:=U b n hb;rw[if_pos ⟨k,hk⟩] at this
   omega
theorem O4{nu:List Int}(nd:nu.Nodup):∀ (n:Nat) {rows:List (List Int)} {gs:List V},rows.length=n->(∀ r∈rows,∀ x∈r,x∈nu)->Yh rows gs->∃ u,StR nu rows (binV 0 gs) u/\G1 nu gs u
 | 0,rows,gs,hn,_,F=>by
   have h1:=z0e.mp hn;subst h1;have h2:=z0e.mp F.len;subst h2;exact⟨0,.nil,fun b n _=>by simp⟩
 | n+1,rows,gs,hn,hs,F=>by
   rcases List.eq_nil_or_concat rows with z|⟨R,r,z⟩
   ·subst z;cases hn
   rcases List.eq_nil_or_concat gs with y|⟨gs',v,y⟩
   ·subst y;have:=F.len;rw[hn] at this;cases this
   rw[List.concat_eq_append] at z y
   subst z;subst y;obtain⟨F',hv⟩:=Cf F;obtain⟨u,S,U⟩:=O4 nd n (rows:=R) (gs:=gs') (by rw[zy2] at hn;simpa using hn) (fun r hr=>hs r (zy6.mpr (.inl hr))) F'
   rcases hv with z|⟨m,z,hm,hk⟩
   ·subst z
    exact⟨u,by rw[Qg];exact S.skip,zam U⟩
   ·subst z
    obtain⟨b,hb⟩:=List.getElem?_of_mem (hs r (zy6.mpr (.inr (zy3.mpr rfl))) m hm);have hu:u/2 ^ b%2=0:=by rw[U b m hb,if_neg fun ⟨k,h⟩=>hk k h]
    exact⟨u+2 ^ b,by rw[Qg];exact S.take hb hm hu,zan nd U hb hu⟩
theorem zf8{nu:List Int}{rows:List (List Int)}{gs:List V}{best:Nat}(nd:nu.Nodup)(hs:∀ r∈rows,∀ x∈r,x∈nu)(F:Yh rows gs)(S:Vc rows gs)(h1:∃ u,StR nu rows best u)(h2:∀ f u,StR nu rows f u->f<=best):best=binV 0 gs:=by
 obtain⟨u,h1⟩:=h1;obtain⟨hs',F',e,_⟩:=Fz nd h1;obtain⟨u',S',_⟩:=O4 nd rows.length rfl hs F;have a:=h2 _ _ S';have b:=B6 F S F';omega
end G

namespace L2
open PySem PySem.Spec PyProof.Rows
section
variable{X:Cx}{pins:List (Addr×Obj)}{σ:St}{H:Hp}{s:Shared}{a b:Addr}{u r:Value}{v:V}{A:Around}{E:Value->Shared->Prop}
theorem zii{kvs:List (List Key×V)}{k:List Key}{Q:Unit->Shared->Prop}(hu:A.units<cLine)(I:Inv X pins σ H s)(e:H a=some (.dT kvs))(eb:H b=some (.tup (k.map kV)))(l:kvs.length<sizeLine)(rv:RelV v r)
  (h:∀ s',Inv X pins σ (upd H a (.dT (putK kvs k v))) s'->Q () s'):wpAny (model X.prog X.w) A (dictSet a (.ref b) r) Q E s:=by
 obtain⟨z,hd,xs,rel,dd⟩:=zc2 I.hok e;have hl:(putK kvs k v).length<=sizeLine:=zzg (Y7 kvs k v) l;refine wpAny_dictSet_heap (hsz:=by rw[<- Paired.length rel];exact z) (show A.units<cLine from hu) (Rx I.hok eb) dd fun h' dd' hs=>h _ ?_
 obtain⟨q,es,ep,hq,h2,h3,h4,_,h5⟩:=dd';refine Qr I (by rw[e];exact True.intro) hs ⟨q,hq⟩ ⟨hl,hd,_,(rel.put k eb rv).keeps fun c ys ec=>?_,q,es,ep,hq,h2,h3,h4,h5⟩
 rw[Zh (Ym ec e (fun z=>nomatch z))]
 exact ec
end
noncomputable def zij(tk tv:TE):TE:=fun σ H Q=>∀ p,H p=none->tk σ (upd H p (.dT [])) fun x H1=>tv σ H1 fun y H2=>∃ (b:Addr) (k:List Key),x=.ref b/\H2 p=some (.dT [])/\H2 b=some (.tup (k.map kV))/\Q (.ref p) (upd H2 p (.dT [(k,y)]))
theorem zep{X:Cx}{pos:Pos}{k v:Expr}{tk tv:TE}(hk:PE X k tk)(hv:PE X v tv)(hu:X.A.units+1<cLine):PE X (.Dict [some k] [v] pos) (zij tk tv):=by
 intro pins s σ H Q I q;have hn:=I.hok.fresh (zza s.heap.objs.size);have I1:=I.laid (a:=s.heap.objs.size) (o:=.dT []) (h':=s.heap.push { cls:=.type "dict",data:=.dict #[] }) (t':=s.toks) (fun _ _ q=>Heap.get?_push_of_some _ q) (zza _) (Ex s.heap I.big)
 refine wpAny_Dict_any rfl rfl (by simp) (by simp) (thn (Uq (pos:=pos) hk hv G6 pins _ σ _ (fun ps H3=>match ps with
  | [(x,y)]=>∃ (b:Addr) (k:List Key),x=.ref b/\H3 s.heap.objs.size=some (.dT [])/\H3 b=some (.tup (k.map kV))/\Q (.ref s.heap.objs.size) (upd H3 s.heap.objs.size (.dT [(k,y)]))
  | _=>False) I1 (q _ hn)) fun ws s2 ⟨ps,H2,I2,rel,g⟩=>?_)
 match ps,g with
 | [(x,y)],⟨b,k,e1,h1,h2,h3⟩ =>
   subst e1;cases rel with
   | @cons _ w2 _ ws2 hw tl =>
     cases tl;obtain⟨u,r⟩:=w2;cases (show u=Value.ref b from hw.1)
     unfold storeAll;rw[List.forIn_cons];refine wpAny_bind (wpAny_bind (zii (Nat.lt_of_succ_lt hu) I2 h1 h2 (by rw[z1b,sizeLine_eq];decide) hw.2 fun s3 I3=>wpAny_pure ?_))
     show wpAny _ _ (forIn ([]:List (Value×Value)) _ _) _ _ _;rw[List.forIn_nil];exact wpAny_pure ⟨.ref s.heap.objs.size,_,I3,rfl,h3⟩
noncomputable def Jj(h:Heap)(d:Addr)(es:Array DictEntry)(ep:Nat):Prop:=∃ o,h.get? d=some o/\o.ExactDict/\o.data=.dict es ep
section
variable{prog:Program}{w:World}{A:Around}{E:Value->Shared->Prop}{s:Shared}{d it:Addr}{es:Array DictEntry}{ep i:Nat}
theorem Jj.type(x:Jj s.heap d es ep):s.TypeIs (.ref d) "dict":=let ⟨o,h1,h2,_⟩:=x;⟨o,h1,h2.1⟩
theorem Jj.iter{Q:Value->Shared->Prop}(hd:(d == sysModules)=false)(x:Jj s.heap d es ep)
  (q:Q (.ref s.heap.objs.size) { s with heap:=s.heap.push { cls:=.type "dict_keyiterator",data:=.fields #[.ref d,.int 0 0,.int es.size 0,.int ep 0] } }):wpAny (model prog w) A (pyIter (.ref d)) Q E s:=by
 obtain⟨o,h1,h2,h3⟩:=id x;refine wpAny_pyIter_slot x.type F.slot_dict_iter (wpAny_call_entry F.slot_dict_iter x.type F.entry_dict_iter ?_ (F.args_dict_iter_1 _));unfold Builtin.«dict.__iter__» Builtin.Dict.dictSlotNone;refine wpAny_bind (wpAny_bind (wpAny_notOrdered_dict x.type (wpAny_pure ?_)));refine wpAny_bind (m:=Builtin.Dict.showsAll d) ?_;rw[show Builtin.Dict.showsAll d=pure () from if_neg (by rw[hd];exact zzf)]
 exact wpAny_pure (wpAny_bind (wpAny_dictEntries h1 h3 (wpAny_bind (wpAny_dictEpoch h1 h3 (wpAny_bind (wpAny_newObj_type (wpAny_pure ⟨_,rfl,"dict_keyiterator",_,⟨_,Heap.get?_push_size _ rfl,rfl⟩,F.slot_dict_keyiterator_next.lookup,q⟩)))))))
theorem Jj.next{Q:Option Value->Shared->Prop}(hh:A.handled=none)(y:s.heap.IsKeyIter it d i es.size ep)(x:Jj s.heap d es ep)
  (q1:∀ (hi:i<es.size) (h':Heap),h'.IsKeyIter it d (i+1) es.size ep->Heap.SameBut it s.heap h'->Q (some es[i].key) { s with heap:=h' })
  (q2:es.size<=i->∀ h',Heap.ExtBut it s.heap h'->Q none { s with heap:=h' }):wpAny (model prog w) A (pyNext (.ref it)) Q E s:=by
 obtain⟨oi,i1,i2,i3⟩:=id y;obtain⟨o,h1,h2,h3⟩:=id x;have own:Builtin.Dict_items.ownsTuple "dict_keyiterator"=false:=by decide
 unfold pyNext;refine wpAny_bind (wpAny_attempt (wpAny_callSpecial?_slot (name:=Str.ofString "__next__") y.typeIs F.slot_dict_keyiterator_next (wpAny_call_entry F.slot_dict_keyiterator_next y.typeIs F.entry_dict_keyiterator_next (wpAny_bind (wpAny_pure (wpAny_bind (wpAny_bind ?_)))) (F.args_dict_keyiterator_next_1 _))))
 first|refine wpAny_bind (wpAny_typeNameOfWhole_keyiter y.typeIs (wpAny_pure (wpAny_bind (wpAny_fieldsOf i1 i3 ?_))))|refine wpAny_bind (wpAny_typeNameOf_keyiter y.typeIs (wpAny_pure (wpAny_bind (wpAny_fieldsOf i1 i3 ?_))))
 simp only[own,z0n,if_false];show wpAny _ _ (if (Value.ref d == Value.none)=true then _ else _) _ _ s
 rw[if_neg (by exact zzf)]
 refine wpAny_bind (wpAny_pure (wpAny_bind (wpAny_dictEntries h1 h3 ?_)));rw[if_neg (by simp)]
 refine wpAny_bind (wpAny_pure (wpAny_bind (wpAny_dictEpoch h1 h3 ?_)));rw[if_neg (by simp)]
 refine wpAny_pure ?_;rcases Nat.lt_or_ge i es.size with hi|hi
 ·simp only[show ¬ ((i:Int)<0) from by omega,if_false,zzm,Array.getElem?_eq_getElem hi]
  refine wpAny_bind ?_
  first|refine wpAny_bind (wpAny_typeNameOfWhole_keyiter y.typeIs (wpAny_pure (wpAny_bind (wpAny_isOneOf_keyiter y.typeIs ?_))))|refine wpAny_bind (wpAny_typeNameOf_keyiter y.typeIs (wpAny_pure (wpAny_bind (wpAny_isOneOf_keyiter y.typeIs ?_))))
  show wpAny _ _ (setField (.ref it) 1 (rawInt ((i:Int)+1)) >>= _) _ _ s;refine wpAny_bind (wpAny_setField i1 i3 (by simp) ?_)
  have y':(s.heap.update it (Obj.mapFields (·.setIfInBounds 1 (rawInt ((i:Int)+1))))).IsKeyIter it d (i+1) es.size ep:=⟨_,Heap.get?_update_self _ i1 (Obj.isFreed_of_fields (Obj.data_mapFields i3 _)),(Obj.cls_mapFields ..).trans i2,by rw[Obj.data_mapFields i3];simp[rawInt]⟩
  refine wpAny_bind (wpAny_holding (wpAny_bind (wpAny_isOneOf_keyiter (s:={ s with heap:=s.heap.update it (Obj.mapFields (·.setIfInBounds 1 (rawInt ((i:Int)+1)))) }) y'.typeIs ?_)))
  show wpAny _ _ (pure es[i].key) _ _ _;exact wpAny_pure (wpAny_pure ⟨_,rfl,wpAny_pure (q1 hi _ y' (Heap.SameBut.update ..))⟩)
 ·simp only[show ¬ ((i:Int)<0) from by omega,if_false,zzm,Array.getElem?_eq_none hi]
  refine wpAny_bind ?_
  first|refine wpAny_bind (wpAny_typeNameOfWhole_keyiter y.typeIs (wpAny_pure ?_))|refine wpAny_bind (wpAny_typeNameOf_keyiter y.typeIs (wpAny_pure ?_))
  show wpAny _ _ (setField (.ref it) 0 .none >>= _) _ _ s;refine wpAny_bind (wpAny_setField i1 i3 (by simp) ?_)
  show wpAny _ _ (newExc (.type "StopIteration") [] >>= _) _ _ _;simp only[newExc,newTuple];refine wpAny_bind (wpAny_bind (wpAny_newObj_type ?_ (by size_fits)))
  refine wpAny_bind (m:=firstArgMember _ _) (wpAny_of_eq (a:=Value.none) (by first|rfl|(simp only[firstArgMember];rfl)) (wpAny_newObj_type ?_ (by size_fits)))
  simp only[raiseNew];refine wpAny_bind (wpAny_handled ?_);rw[show A.in1.handled=none from hh]
  refine wpAny_bind (wpAny_pure (wpAny_throw ?_));refine wpAny_bind (wpAny_isInstance (b:=true) (T:="StopIteration") ⟨_,Heap.get?_push_size _ rfl,rfl⟩ isSubtype_stop ?_);exact wpAny_pure (q2 hi _ (((Heap.SameBut.update ..).extBut.push _).push _))
theorem zb6(hh:A.handled=none)(I d:Addr)(hne:d≠I)(es:Array DictEntry)(ep:Nat) :
  Walks prog w A I [I,d] [I] es.size (fun i v=>∃ h:i<es.size,v=es[i].key) (fun i h=>h.IsKeyIter I d i es.size ep/\Jj h d es ep) where
 sub:=fun b hb=>by simp at hb;simp[hb]
 frame:=fun _ h h' st hk=>⟨st.1.at fun o e=>hk I (by simp) o e,let ⟨o,h1,h2⟩:=st.2;⟨o,hk d (by simp) o h1,h2⟩⟩
 item:=fun i s Q E hi st hQ=>Jj.next hh st.1 st.2 (fun hi h' y' hs=>hQ _ h' s.toks ⟨hi,rfl⟩ ⟨y',let ⟨o,h1,h2⟩:=st.2;⟨o,hs.extBut d o hne h1,h2⟩⟩ fun b o hb e=>hs.extBut b o (fun h=>hb (by simp[h])) e) fun h=>absurd hi (Nat.not_lt_of_le h)
 done:=fun s Q E st hQ=>Jj.next hh st.1 st.2 (fun hi=>absurd hi (z0a _)) fun _ h' he=>hQ h' s.toks fun b o hb e=>he b o (fun h=>hb (by simp[h])) e
 self:=fun _ _ _ _ st hQ=>wpAny_pyIter_keyiter st.1 hQ
theorem zf9(lo:(d == sysModules)=false):PySem.W.KdlSrc prog w "dict" d d es.size (fun i v=>∃ h:i<es.size,v=es[i].key) (fun h=>Jj h d es ep) where
 type:=fun _ x=>x.type
 there:=fun _ x=>let ⟨_,h1,_⟩:=x;⟨Heap.lt_size h1,Heap.lt_size h1⟩
 keep:=fun _ _ x k=>let ⟨o,h1,h2⟩:=x;⟨o,k d (.inl rfl) o h1,h2⟩
 notList:=by decide
 notTuple:=by decide
 hint:=fun _ _ _ _ x q=>PySem.W.kdl_hint_dict x.type q
 iter:=fun _ _ hh x=>⟨_,_,(fun _ _ q=>Jj.iter lo x q),zb6 hh _ d (by obtain⟨_,h1,_⟩:=x;exact zzr (Heap.lt_size h1)) es ep,⟨⟨_,Heap.get?_push_size _ rfl,rfl,rfl⟩,let ⟨o,h1,h2⟩:=x;⟨o,Heap.get?_push_of_some _ h1,h2⟩⟩⟩
end
end L2
namespace G
open PySem PySem.Spec PyProof.Rows L2
theorem zao{P:Program}{w:World}{H:Hp}:∀ {kvs:List (List Key×V)} {xs:List (List Key×Addr×Value)},KT H kvs xs->TupL H (xs.map fun x=>V.ref x.2.1) (kvs.map fun kv=>kv.1.map kV)
 | _,_,.nil=>.nil
 | _,_,.cons h t=>.cons h.2.1 (zao (P:=P) (w:=w) t)
theorem Jk{X:Cx}(hc:X.calm=true):Vg X (.type "list") (fun xs H Q=>∃ a kvs,xs=[.ref a]/\Rd H a (.dT kvs)/\∀ l ts,TupL H ts (kvs.map fun kv=>kv.1.map kV)->H l=none->Q (.ref l) (upd H l (.lst ts))):=by
 intro pins s σ H xs us Q I r h;obtain⟨a,kvs,rfl,ha,q⟩:=h;obtain⟨u,rfl,ru⟩:=Sg r;cases (show u=Value.ref a from ru)
 obtain⟨hz,lo,xs,kt,o,es,ep,e1,e2,e3,e4,e5⟩:=Mu I.hok ha;have hl:kvs.length=xs.length:=Paired.length kt;have hes:es.size=xs.length:=by rw[<- Array.length_toList,e4,zyz]
 refine PySem.W.kdl_call (zf9 (es:=es) (ep:=ep) lo) (I.ok.hd hc) ⟨o,e1,e2,e3⟩ (by rw[hes,<- hl];exact hz) fun h' tk acc c hk hS hacc=>?_
 have hf:H s.heap.objs.size=none:=I.hok.fresh (zza _);refine⟨.ref s.heap.objs.size,upd H s.heap.objs.size (.lst (xs.map fun x=>V.ref x.2.1)),I.laid (t':=tk) hk (zza _) ?_,rfl,q _ _ (zao (P:=X.prog) (w:=X.w) kt) hf⟩
 obtain⟨accl⟩:=acc;refine⟨by rw[zyz,<- hl];exact hz,accl,c,?_,hS⟩
 have hlen:accl.length=es.size:=by have:=hacc.1;simpa using this
 refine Rz (by rw[zyz,hlen,hes]) fun j x u hx hu=>?_
 obtain⟨hj,hk1⟩:=hacc.2 j u (by simpa using hu)
 have e6:es.toList[j]?=some es[j]:=by rw[Array.getElem?_toList,Array.getElem?_eq_getElem hj]
 rw[e4,zy5] at e6
 rw[zy5] at hx
 cases hxj:xs[j]? with
 | none=>rw[hxj] at hx;cases hx
 | some p =>
   rw[hxj] at hx e6
   have h1:V.ref p.2.1=x:=Option.some.inj hx;have h2:entryOfKey (tupleKind (Yj X.prog X.w)) p=es[j]:=Option.some.inj e6;rw[<- h1,hk1,<- h2];rfl
inductive Cg(K:PySem.W.Frag)(vs:List V)(H:Hp)(Q:VK)(_:XK):Prop where
 | mk(l:Addr)(gs:List V)(_:vs=[.ref l])(_:H l=some (.lst gs))(_:(∀ x∈gs,oneV x))(_:gs.length<=100)(_:∀ H',Same H H'->Q (.int (binV 0 gs:Nat)) H')
noncomputable def V7(p:Nat×Nat):List Key:=[.inl (p.1:Int),.inl (p.2:Int)]
noncomputable def zeq(p:Nat×Nat):List V:=[.int (p.1:Int),.int (p.2:Int)]
noncomputable def X6(ps:List (Nat×Nat)):List (List Key×V):=ps.map fun p=>(V7 p,V.bl true)
noncomputable def Ik(ps:List (Nat×Nat))(p:Nat×Nat):List (Nat×Nat):=if p∈ps then ps else ps++[p]
theorem zb7{p q:Nat×Nat}(h:V7 p=V7 q):p=q:=by
 unfold V7 at h
 injection h with h1 h2
 injection h2 with h2 _
 injection h1 with h1;injection h2 with h2
 obtain⟨a,b⟩:=p;obtain⟨c,d⟩:=q;simp only[Prod.mk.injEq];exact⟨by omega,by omega⟩
theorem Ci(ps:List (Nat×Nat))(p:Nat×Nat):putK (X6 ps) (V7 p) (.bl true)=X6 (Ik ps p):=by
 have ha:((X6 ps).any fun kv=>decide (kv.1=V7 p))=decide (p∈ps):=by
  unfold X6;rw[List.any_map,z0z,List.any_eq_true,decide_eq_true_iff];constructor
  ·rintro⟨q,hq,e⟩
   have:=zb7 (of_decide_eq_true e);rw[<- this];exact hq
  ·intro h
   exact⟨p,h,zy4 rfl⟩
 unfold putK Ik;rw[ha];by_cases h:p∈ps
 ·rw[if_pos (zy4 h),if_pos h]
  unfold X6;rw[z0o];refine z0m fun q _=>?_
  show (if V7 q=V7 p then (V7 q,V.bl true) else (V7 q,V.bl true))=_
  split<;>rfl
 ·rw[if_neg (by rw[zzb h];decide),if_neg h]
  unfold X6;rw[zy7];rfl
theorem Cj{ps:List (Nat×Nat)}{p q:Nat×Nat}:q∈Ik ps p↔q∈ps\/q=p:=by
 unfold Ik;split
 ·rename_i h
  exact⟨.inl,fun z=>z.elim id fun e=>e▸h⟩
 ·rw[zy6,zy3]
theorem Jl(ps:List (Nat×Nat)):(X6 ps).length=ps.length:=zyz ..
theorem Ld(ps:List (Nat×Nat)):(X6 ps).map (fun kv=>kv.1.map kV)=ps.map zeq:=by
 unfold X6;rw[z0o];rfl
noncomputable def SucB(N:List Int)(r:List Int)(b:Nat)(p q:Nat×Nat):Prop:=q=(2*p.1,p.2)\/∃ (c:Nat) (n:Int),c<b/\N[c]?=some n/\n∈r/\p.2/2 ^ c%2=0/\q=(2*p.1+1,p.2+2 ^ c)
theorem Ck{N:List Int}{rows:List (List Int)}{r:List Int}{q:Nat×Nat}:StR N (rows++[r]) q.1 q.2↔∃ p:Nat×Nat,StR N rows p.1 p.2/\SucB N r N.length p q:=by
 constructor
 ·intro h
  generalize e:rows++[r]=R at h
  generalize e1:q.1=f at h
  generalize e2:q.2=u at h
  cases h with
  | nil=>exact absurd e (by simp)
  | @skip rows' r' f' u' h =>
    obtain⟨ea,eb⟩:=z0v e rfl;subst ea;exact⟨(f',u),h,.inl (by rw[<- e1,<- e2])⟩
  | @take rows' r' f' u' b n h hb hn hu =>
    obtain⟨ea,eb⟩:=z0v e rfl;subst ea;injection eb with eb _
    exact⟨(f',u'),h,.inr ⟨b,n,Sd hb,hb,by rw[eb];exact hn,hu,by rw[<- e1,<- e2]⟩⟩
 ·rintro⟨p,h,z|⟨b,n,_,hb,hn,hu,z⟩⟩
  ·rw[z];exact h.skip
  ·rw[z];exact h.take hb hn hu
theorem zga{N:List Int}{f u:Nat}:StR N [] f u↔f=0/\u=0:=by
 constructor
 ·intro h
  generalize e:([]:List (List Int))=R at h
  cases h with
  | nil=>exact⟨rfl,rfl⟩
  | skip _=>exact absurd e (by simp)
  | take _ _ _ _=>exact absurd e (by simp)
 ·rintro⟨rfl,rfl⟩;exact .nil
theorem G2{N r:List Int}{b:Nat}{n:Int}{p q:Nat×Nat}(hn:N[b]?=some n):SucB N r (b+1) p q↔SucB N r b p q\/(n∈r/\p.2/2 ^ b%2=0/\q=(2*p.1+1,p.2+2 ^ b)):=by
 constructor
 ·rintro(z|⟨c,m,hc,h1,h2,h3,h4⟩)
  ·exact .inl (.inl z)
  ·by_cases e:c=b
   ·subst e
    rw[hn] at h1;injection h1 with h1;subst h1
    exact .inr ⟨h2,h3,h4⟩
   ·exact .inl (.inr ⟨c,m,by omega,h1,h2,h3,h4⟩)
 ·rintro((z|⟨c,m,hc,h1,h2,h3,h4⟩)|⟨h2,h3,h4⟩)
  ·exact .inl z
  ·exact .inr ⟨c,m,by omega,h1,h2,h3,h4⟩
  ·exact .inr ⟨b,n,by omega,hn,h2,h3,h4⟩
theorem zb8{N r:List Int}{p q:Nat×Nat}:SucB N r 0 p q↔q=(2*p.1,p.2):=by
 constructor
 ·rintro(z|⟨c,m,hc,_⟩)
  ·exact z
  ·omega
 ·exact .inl
noncomputable def wF:Nat->Nat->List Nat
 | 0,0=>[0]
 | 0,_+1=>[]
 | n+1,0=>(wF n 0).map fun x=>2*x
 | n+1,k+1=>((wF n (k+1)).map fun x=>2*x)++(wF n k).map fun x=>2*x+1
noncomputable def cF:Nat->Nat->Nat
 | 0,0=>1
 | 0,_+1=>0
 | n+1,0=>cF n 0
 | n+1,k+1=>cF n (k+1)+cF n k
theorem Ea:∀ n k,(wF n k).length=cF n k
 | 0,0=>rfl
 | 0,_+1=>rfl
 | n+1,0=>by rw[wF,cF,zyz,Ea n 0]
 | n+1,k+1=>by rw[wF,cF,zy2,zyz,zyz,Ea n (k+1),Ea n k]
theorem zgb:∀ {n k x:Nat},x∈wF n k->2*x∈wF (n+1) k
 | n,0,x,h=>by rw[wF];exact zy9.mpr ⟨x,h,rfl⟩
 | n,k+1,x,h=>by rw[wF];exact zy6.mpr (.inl (zy9.mpr ⟨x,h,rfl⟩))
theorem zgc{n k x:Nat}(h:x∈wF n k):2*x+1∈wF (n+1) (k+1):=by
 rw[wF];exact zy6.mpr (.inr (zy9.mpr ⟨x,h,rfl⟩))
noncomputable def zgd(u:Nat):Nat:=u%2+u/2%2+u/4%2+u/8%2+u/16%2+u/32%2+u/64%2
noncomputable def uL(k:Nat):List Nat:=(List.range 128).filter fun u=>zgd u == k
theorem zge{u b k:Nat}(h:u∈uL k)(hb:b<7)(hu:u/2 ^ b%2=0):u+2 ^ b∈uL (k+1)/\k<7:=by
 have key:∀ u,u<128->∀ b,b<7->u/2 ^ b%2=0->u+2 ^ b<128/\zgd (u+2 ^ b)=zgd u+1/\zgd u<7:=by decide +kernel
 unfold uL at h ⊢
 obtain⟨h1,h2⟩:=zzq.mp h;obtain⟨k1,k2,k3⟩:=key u (zzx.mp h1) b hb hu;have h2:=eq_of_beq h2;exact⟨zzq.mpr ⟨zzx.mpr k1,beq_iff_eq.mpr (by omega)⟩,by omega⟩
theorem B7{N:List Int}(hN:N.length=7){rows:List (List Int)}{f u:Nat}(h:StR N rows f u):∃ k,k<8/\f∈wF rows.length k/\u∈uL k:=by
 induction h with
 | nil=>exact⟨0,by decide,by decide,by decide⟩
 | skip _ ih =>
   obtain⟨k,h0,h1,h2⟩:=ih;exact⟨k,h0,by rw[zy2];exact zgb h1,h2⟩
 | take _ hb hn hu ih =>
   obtain⟨k,h0,h1,h2⟩:=ih;obtain⟨h3,h4⟩:=zge h2 (by rw[<- hN];exact Sd hb) hu
   exact⟨k+1,by omega,by rw[zy2];exact zgc h1,h3⟩
noncomputable def zik(n:Nat):List (Nat×Nat):=(List.range 8).flatMap fun k=>(wF n k).flatMap fun f=>(uL k).map fun u=>(f,u)
theorem Cm{α β:Type}(g:α->List β)(c:Nat):∀ l:List α,(∀ x∈l,(g x).length=c)->(l.flatMap g).length=l.length*c
 | [],_=>by simp
 | x :: l,h=>by
   rw[List.flatMap_cons,zy2,h x zzt,Cm g c l fun y hy=>h y (zzi _ hy),zzl,Nat.succ_mul];omega
theorem zer(n:Nat):(zik n).length=((List.range 8).map fun k=>cF n k*(uL k).length).sum:=by
 unfold zik;rw[List.length_flatMap]
 congr 1
 refine z0m fun k _=>?_
 rw[Cm _ (uL k).length _ fun f _=>zyz ..,Ea]
theorem zes:∀ n,n<=20->((List.range 8).map fun k=>cF n k*(uL k).length).sum<=888030:=by decide +kernel
theorem Qh{N:List Int}(hN:N.length=7){rows:List (List Int)}(hr:rows.length<=20){l:List (Nat×Nat)}(nd:l.Nodup)(h:∀ q∈l,StR N rows q.1 q.2):l.length<=888030:=by
 refine zzg (nd.length_le_of_subset (l₂:=zik rows.length) fun q hq=>?_) (by rw[zer];exact zes _ hr)
 obtain⟨k,h0,h1,h2⟩:=B7 hN (h q hq);exact List.mem_flatMap.mpr ⟨k,zzx.mpr h0,List.mem_flatMap.mpr ⟨q.1,h1,zy9.mpr ⟨q.2,h2,rfl⟩⟩⟩
theorem zap{ps:List (Nat×Nat)}{p:Nat×Nat}(h:ps.Nodup):(Ik ps p).Nodup:=by
 unfold Ik;split
 ·exact h
 ·rename_i z
  exact z04.mpr ⟨h,zzo.mpr ⟨zzz,z0p⟩,fun a ha b hb e=>by
   have:=zy3.mp hb;subst this;subst e;exact z ha⟩
inductive zet(K:PySem.W.Frag)(vs:List V)(H:Hp)(Q:VK)(_:XK):Prop where
 | mk(l ln:Addr)(ls:List Addr)(rows:List (List Int))(N:List Int)(_:vs=[.ref l,.ref ln])(_:H l=some (.lst (ls.map V.ref)))(_:ILs H ls rows)(_:H ln=some (.lst (N.map V.int)))(_:N.length=7)(_:rows.length<=20)(_:∀ (best:Nat) H',(∃ u,StR N rows best u)->(∀ f u,StR N rows f u->f<=best)->Same H H'->Q (.int best) H')
end G

namespace K34
open PySem PySem.Spec PyProof.Rows L2 G
noncomputable def top(i:Nat):Stmt:=PySem.Challenge.pw_whistlebook_k34_whole_all_fillings.main.body.getD i (.Pass ⟨0,0,0,0⟩)
structure Ad where
 zoa:Addr
 zk7:Addr
 zlk:Addr
 zla:Addr
 zlf:Addr
 zlg:Addr
 zmo:Addr
 zmk:Addr
 zlq:Addr
 zmd:Addr
 zlw:Addr
 zlr:Addr
 znj:Addr
 zmp:Addr
 zk4:Addr
 zll:Addr
 zkt:Addr
 zku:Addr
 zkv:Addr
 zkq:Addr
noncomputable abbrev ca(a:Ad):CA:=⟨a.zkq,a.zkv,a.zku,a.zkt,a.zk7,a.zlk,a.zla,a.zlf,a.zlg,a.zmo,a.zmk,a.zlq,a.zmd,a.zlw,a.zlr,a.znj,a.zmp,a.zk4,a.zll⟩
structure Tx(K:PySem.W.Frag)(mg:Str->Option Value)(a:Ad):Prop where
 zlh:Cls K a.zkt
 zm0:Xr K a.zkt "rounds"
 zlv:Xr K a.zkt "meetings"
 zk8:Cls K a.zku
 zlj:Xr K a.zku "entries"
 zk3:Cls K a.zkv
 zml:Xr K a.zkv "listed"
 zo0:Xr K a.zkv "lists"
 zmy:Xr K a.zkv "given"
 zof:Xr K a.zkv "gaps"
 zkr:Cls K a.zkq
 znf:Xr K a.zkq "length"
 zpb:Xr K a.zkq "rest"
 zls:Xr K a.zkq "roster"
 zly:Xr K a.zkq "ledger"
 zmm:Xr K a.zkq "absent"
 znc:Xr K a.zkq "sheets"
 zle:Xr K a.zkq "sheet"
 zlm:Xr K a.zkq "standing"
 zqb:Ry K mg "OutOfRange" a.zk7
 zpc:Ry K mg "TooManyMatches" a.zlg
 zqg:Ry K mg "SameClub" a.zmo
 zpz:Ry K mg "KnownReferee" a.zlk
 zoz:Ry K mg "TooManyReferees" a.zla
 zo6:Ry K mg "UnknownReferee" a.zlf
 zqc:Ry K mg "SeasonOver" a.zlw
 zqh:Ry K mg "DrawnUp" a.znj
 zp9:Ry K mg "NoSuchRound" a.zlq
 zpx:Ry K mg "TooManyDeeds" a.zll
 zpt:Ry K mg "NotDrawn" a.zmp
 zqe:Ry K mg "RoundOver" a.zmd
 zp8:Ry K mg "AwayAlready" a.zlr
 zom:Ry K mg "NothingToTakeBack" a.zk4
 zpq:mg "max"=none
 zlc:mg "len"=none
 zow:mg "tuple"=none
 zmb:mg "list"=none
 zm2:mg "enumerate"=none
 zl9:mg "range"=none
 zqd:mg "zip"=none
 zlp:mg "isinstance"=none
 zp2:mg "int"=none
 zp1:mg "bool"=none
 zp4:mg "dict"=none
 zqa:mg "min"=none
 gc_BookError:mg "BookError"=some (.ref a.zoa)
 gc_OutOfRange:mg "OutOfRange"=some (.ref a.zk7)
 gc_KnownReferee:mg "KnownReferee"=some (.ref a.zlk)
 gc_TooManyReferees:mg "TooManyReferees"=some (.ref a.zla)
 gc_UnknownReferee:mg "UnknownReferee"=some (.ref a.zlf)
 gc_TooManyMatches:mg "TooManyMatches"=some (.ref a.zlg)
 gc_SameClub:mg "SameClub"=some (.ref a.zmo)
 gc_NoSuchMatch:mg "NoSuchMatch"=some (.ref a.zmk)
 gc_NoSuchRound:mg "NoSuchRound"=some (.ref a.zlq)
 gc_RoundOver:mg "RoundOver"=some (.ref a.zmd)
 gc_SeasonOver:mg "SeasonOver"=some (.ref a.zlw)
 gc_AwayAlready:mg "AwayAlready"=some (.ref a.zlr)
 gc_DrawnUp:mg "DrawnUp"=some (.ref a.znj)
 gc_NotDrawn:mg "NotDrawn"=some (.ref a.zmp)
 gc_NothingToTakeBack:mg "NothingToTakeBack"=some (.ref a.zk4)
 gc_TooManyDeeds:mg "TooManyDeeds"=some (.ref a.zll)
 gc_Ledger:mg "Ledger"=some (.ref a.zkt)
 gc_Roster:mg "Roster"=some (.ref a.zku)
 gc_Sheet:mg "Sheet"=some (.ref a.zkv)
 gc_Season:mg "Season"=some (.ref a.zkq)
 zl7:∃ t,mg "MOST_NUMBER"=some (.int 999 t)
 zl3:∃ t,mg "MOST_GRADE"=some (.int 9 t)
 zlx:∃ t,mg "MOST_CLUB"=some (.int 99 t)
 zli:∃ t,mg "MOST_REFEREES"=some (.int 30 t)
 zlo:∃ t,mg "MOST_MATCHES"=some (.int 20 t)
 zl8:∃ t,mg "MOST_ROUNDS"=some (.int 60 t)
 zm1:∃ t,mg "MOST_REST"=some (.int 10 t)
 zl4:∃ t,mg "MOST_DEEDS"=some (.int 100 t)
end K34

set_option maxHeartbeats 64000000
namespace K34
open PySem PySem.Spec PyProof.Rows L2 G
local macro_rules | `(tactic| walk_at "rd")=>`(tactic| repeat (first|(refine⟨_,rfl,?_⟩)|(refine⟨_,_,rfl,rfl,?_⟩)|(refine And.intro (show CMul _ _ from Or.inr (And.intro (by decide) (by decide))) ?_)|(refine And.intro (show CMul _ _ from Or.inl (And.intro (by decide) (by decide))) ?_)|(refine And.intro (show CDiv _ _ from(And.intro (by decide) (by decide))) ?_)|(refine And.intro (show CPow _ _ from(And.intro (by decide) (And.intro (by decide) (by decide)))) ?_)|(refine And.intro (show (0:Int)<_ from(by decide)) ?_)))
local macro_rules | `(tactic| walk_at "if")=>`(tactic| dsimp only[Vh,List.set])
local macro_rules | `(tactic| walk_at "ar")=>`(tactic| (intro _ _ _ _ h;first|(cases h;subst_vars;rfl)|repeat (first|(obtain⟨h1,_⟩:=h;subst h1;rfl)|(obtain⟨_,h⟩:=h))))
section
variable{P:Program}{w:World}{K:PySem.W.Frag}{mg:Str->Option Value}{base:Heap}{a:Ad}{f:Addr}{fd:FuncData}
noncomputable abbrev U7:Stmt:=top 2
theorem Pn:Zl ["number","club","ledger","rest","rested"] ["number","club","ledger","rest"] (Zj U7):=fnS
theorem Il(F:Fun K "met_lately" "met_lately" U7 f fd)(T:Tx K mg a)(zkw:Zx P w K mg base a.zkt "over" 1 ["self"] (N1 a.zkt))(zob:Zx P w K mg base a.zkt "met" 1 ["self","number","club"] (zgs a.zkt)):Z3 P w K mg base (CX1 P w) 2 f fd ["number","club","ledger","rest"] (E6 a.zkt):=by
 refine F.okX Pn (by walk_at "ar") fun _ _ _ _ H _ Q E hr h=>?_
 obtain⟨p,lr,ld,Rs,n,c,rest,rfl,LA,h⟩:=h;refine⟨_,(Zc (pS 4 Pn.nd (Zw (Hr rfl) (by rfl) T.zpq PyProof.Rows.boot_max (Za (Zp Pq (Yp (pv 2) T.zlh zkw (hr.mono (by decide)) Zk) (pv 3)) (Za Zi Zd))))
 (Zf (Zo (Qq Ri (X2 (pv 2) T.zlh zob (hr.mono (by decide)) Zk (Za (pv 0) (Za (pv 1) Zd))) (pv 4) (Zv _))))),?_⟩
 obtain⟨⟨dx,hp⟩,_,_⟩:=id LA;refine⟨_,rfl,p,dx,_,rfl,hp,Kr (by decide +kernel) (by decide +kernel),p,lr,ld,Rs,rfl,LA,_,rfl,_,_,rfl,rfl,_,_,rfl,?_⟩
 refine⟨_,rfl,p,dx,_,rfl,hp,Kr (by decide +kernel) (by decide +kernel),_,rfl,_,rfl,p,lr,ld,Rs,n,c,rfl,LA,fun H' s'=>⟨_,rfl,_,_,rfl,rfl,h H' s'⟩⟩
noncomputable abbrev Qy:Stmt:=top 3
theorem Wu:Zl ["referee","match","out","ledger","rest","number","grade","club","home","guest","asked","told"] ["referee","match","out","ledger","rest"] (Zj Qy):=fnS
theorem B8(F:Fun K "reasons" "reasons" Qy f fd)(T:Tx K mg a)(zm6:Z7 P w K mg base "met_lately" 2 ["number","club","ledger","rest"] (E6 a.zkt)):Z3 P w K mg base (CX1 P w) 3 f fd ["referee","match","out","ledger","rest"] (Gi K a.zkt):=by
 refine F.okX Wu (by walk_at "ar") fun _ _ _ _ H _ Q E hr h=>?_
 obtain⟨t1,t2,p,lr,ld,Rs,n,g,c,h,gu,d,rest,o,rfl,h1,h2,LA,hq⟩:=h;refine⟨_,(Zc (pS 5 Wu.nd (pI (iU K) (pv 0) Zi))
 (Zc (pS 6 Wu.nd (pI (iU K) (pv 0) Zi))
 (Zc (pS 7 Wu.nd (pI (iU K) (pv 0) Zi))
 (Zc (pS 8 Wu.nd (pI (iU K) (pv 1) Zi))
 (Zc (pS 9 Wu.nd (pI (iU K) (pv 1) Zi))
 (Zc (pS 10 Wu.nd (pI (iU K) (pv 1) Zi))
 (Zc (pS 11 Wu.nd (Ya Zd))
 (Zc (Z9 (Nn (pv 2))
  (Zf (Yv (pv 11) Zn))
  Zu)
 (Zc (Z9 (Zm Ri (pv 10) (pv 6) (Zv _))
  (Zf (Yv (pv 11) Zn))
  Zu)
 (Zc (Z9 (PW.pt (Ru (Zm Wq (pv 7) (pv 8) (Zv _)) (Sb (Zm Wq (pv 7) (pv 9) (Zv _)))))
  (Zf (Yv (pv 11) Zn))
  Zu)
 (Zc (Z9 (PW.pt (Ru (Nn (pF zm6 hr (Za (pv 5) (Za (pv 8) (Za (pv 3) (Za (pv 4) Zd)))))) (Sb (Nn (pF zm6 hr (Za (pv 5) (Za (pv 9) (Za (pv 3) (Za (pv 4) Zd)))))))))
  (Zf (Yv (pv 11) Zn))
  Zu)
 (Zf (Zo (pv 11)))))))))))))),?_⟩
 show let y1:TS:=_;let y2:TS:=Zz _ y1;let y3:TS:=Zz _ y2;let y4:TS:=Zz _ y3;let y5:TS:=Zz _ y4;let y6:TS:=Zz _ y5;let y7:TS:=Zz _ y6;let y8:TS:=Zz _ y7;let y9:TS:=Zz _ y8;let y10:TS:=Zz _ y9;let y11:TS:=Zz _ y10;Zz _ y11 _ _ _;intro y1 y2 y3 y4 y5 y6 y7 y8 y9 y10 y11;refine⟨_,rfl,t1,_,_,_,rfl,rfl,SqT.of h1,(show atI [V.int n,V.int g,V.int c] 0=some _ from rfl),_,rfl,t1,_,_,_,rfl,rfl,SqT.of h1,(show atI [V.int n,V.int g,V.int c] 1=some _ from rfl),_,rfl,t1,_,_,_,rfl,rfl,SqT.of h1,(show atI [V.int n,V.int g,V.int c] 2=some _ from rfl),?_⟩
 refine⟨_,rfl,t2,_,_,_,rfl,rfl,SqT.of h2,(show atI [V.int h,V.int gu,V.int d] 0=some _ from rfl),_,rfl,t2,_,_,_,rfl,rfl,SqT.of h2,(show atI [V.int h,V.int gu,V.int d] 1=some _ from rfl),_,rfl,t2,_,_,_,rfl,rfl,SqT.of h2,(show atI [V.int h,V.int gu,V.int d] 2=some _ from rfl),?_⟩
 refine⟨by show 0<=sizeLine;decide,fun l hl=>?_⟩
 have s1:=Ze (o:=.lst []) hl;have q1:upd H l (.lst []) l=some (.lst (([]:List Str).map V.str)):=Zb;generalize upd H l (.lst [])=H1 at s1 q1
 walk_at "if";have b1:=N4 o "away";have b2:=N4 (decide (g<d)) "grade";have b3:=N4 (decide (c=h)||decide (c=gu)) "club"
 refine Tv (b:=o) (H0:=H) (Sz fun Q q=>⟨_,rfl,_,rfl,q⟩) hl s1 q1 (by decide) rfl (fun H2 s2 q2 _=>?_)
 rw[List.nil_append] at q2
 refine Tv (b:=decide (g<d)) (H0:=H) (Sz fun Q q=>⟨_,rfl,_,rfl,_,_,rfl,rfl,_,rfl,q⟩) hl s2 q2 (by omega) rfl (fun H3 s3 q3 _=>?_)
 refine Tv (b:=decide (c=h)||decide (c=gu)) (H0:=H) (Sz (R4 (fun Q q=>⟨_,rfl,_,rfl,rfl,_,rfl,R1▸q⟩) (fun Q q=>⟨_,rfl,_,rfl,rfl,_,rfl,R1▸q⟩))) hl s3 q3 (by rw[zy2];omega) rfl (fun H4 s4 q4 _=>?_)
 refine Tv (b:=Rj Rs n h rest||Rj Rs n gu rest) (H0:=H) (E7 (fun Q q=>⟨_,rfl,_,rfl,_,rfl,_,rfl,p,lr,ld,Rs,n,h,rest,rfl,LA.same s4,fun H5 s5=>⟨_,rfl,q H5 s5⟩⟩) (fun H5 s5 Q q=>⟨_,rfl,_,rfl,_,rfl,_,rfl,p,lr,ld,Rs,n,gu,rest,rfl,LA.same (s4.trans s5),fun H6 s6=>⟨_,rfl,q H6 s6⟩⟩)) hl s4 q4 (by rw[zy2,zy2];omega) rfl (fun H5 s5 q5 _=>?_)
 refine⟨_,rfl,hq l H5 ?_ s5 hl⟩;unfold whyS;rw[q5,z0r,z0r]
noncomputable abbrev Wj:Stmt:=Z4 (top 23) 0
theorem Of:Zl ["self"] ["self"] (Zj Wj):=fnS
theorem Og(F:Fun K "__init__" "Ledger.__init__" Wj f fd)(T:Tx K mg a):Z3 P w K mg base (CX1 P w) 1 f fd ["self"] (A5 a.zkt):=by
 refine F.okX Of (by walk_at "ar") fun _ _ _ _ H _ Q E hr h=>?_
 obtain⟨p,dx,rfl,hp,h⟩:=h;refine⟨_,(Zc (Y5 (K:=K) rfl (pv 0) (Ya Zd) rfl)
 (Zf (Y5 (K:=K) rfl (pv 0) Ot rfl))),?_⟩
 refine⟨by show 0<=sizeLine;decide,fun lr hlr=>?_⟩
 have np:p≠lr:=Zg hp hlr;refine⟨_,rfl,p,a.zkt,dx,[],rfl,(by rw[Zh np];exact hp),T.zlh,T.zm0,(by decide),?_⟩
 intro ld hld;have n1:ld≠p:=fun z=>by rw[z,Zb] at hld;cases hld
 have n2:ld≠lr:=fun z=>by rw[z,Zh (Ne.symm np),Zb] at hld;cases hld
 have hld0:H ld=none:=by rw[Zh n1,Zh n2] at hld;exact hld
 refine⟨_,rfl,p,a.zkt,dx,[("rounds",.ref lr)],rfl,(by rw[Zh (Ne.symm n1),Zb];rfl),T.zlh,T.zlv,(by show 1<1000;decide),?_⟩
 rw[zjq];refine h lr ld _ ⟨⟨dx,Zb⟩,⟨[],?_,.nil⟩,⟨[],?_,fun n c=>rfl,zzs _⟩⟩ (fun b o e hb=>?_) hlr hld0 (Ne.symm n2)
 ·rw[Zh (Ne.symm np),Zh (Ne.symm n2),Zh (Ne.symm np),Zb]
 ·rw[Zh n1,Zb]
 ·rw[Zh hb,Zh (Zg e hld0),Zh hb,Zh (Zg e hlr)];exact e
noncomputable abbrev Vq:Stmt:=Z4 (top 23) 1
theorem Xm:Zl ["self","rows","at","home","guest","grade","referee"] ["self","rows"] (Zj Vq):=fnS
theorem Ln(F:Fun K "write" "Ledger.write" Vq f fd)(T:Tx K mg a):Z3 P w K mg base (CX1 P w) 1 f fd ["self","rows"] (Dk a.zkt):=by
 refine F.okX Xm (by walk_at "ar") fun _ _ _ _ H _ Q E hr h=>?_
 obtain⟨p,lr,ld,Rs,b,ts,rs,rfl,LA,hb,nb,tl,hl,hl2,h⟩:=h;have hu:=W2 hr;refine⟨_,(Zc (Yv (Zr (K:=K) rfl (pv 0) rfl) (Y9 (Kp (K:=K) rfl) (by rfl) T.zow PyProof.Rows.boot_tuple (Za (pv 1) Zd)))
 (Zc (pS 2 Xm.nd (Zw (cL K) (by rfl) T.zlc PySem.boot_len (Za (Zr (K:=K) rfl (pv 0) rfl) Zd)))
 (Zf (Xq PassesOwn.leaving rfl (Yf (K:=K) rfl (pv 1)) (Wi (K:=K) (n:=4) rfl rfl (Z0 (pN 3 Xm.nd) (Z0 (pN 4 Xm.nd) (Z0 (pN 5 Xm.nd) (Z0 (pN 6 Xm.nd) Wg)))))
  (Zf (Z9 (Zm Vi (pv 6) Y0 (Zv _))
   (Zc (Yl hu (Zr (K:=K) rfl (pv 0) rfl) (Yd (Za (pv 6) (Za (pv 3) Zd))) (pv 2) rfl)
   (Zf (Yl hu (Zr (K:=K) rfl (pv 0) rfl) (Yd (Za (pv 6) (Za (pv 4) Zd))) (pv 2) rfl)))
   Zu)))))),?_⟩
 obtain⟨⟨dx,hp⟩,⟨rr,hlr,rl⟩,⟨kvs,hd,mt,kl⟩⟩:=LA;have hlen:ts.length=rs.length:=by rw[tl.length,zyz]
 have nrd:lr≠ld:=Ym hlr hd (by intro z;cases z)
 have nrp:p≠lr:=Ym hp hlr (by intro z;cases z)
 have npd:p≠ld:=Ym hp hd (by intro z;cases z)
 have nbd:b≠ld:=Ym hb hd (by intro z;cases z)
 refine⟨_,rfl,p,a.zkt,dx,_,_,rfl,hp,T.zlh,T.zm0,Nz,lr,rr,rfl,hlr,_,rfl,b,ts,rfl,.inl ⟨SqL.of hb,fun t ht=>⟨rr,(by rw[Zh (Zg hlr ht)];exact hlr),Sl (by rw[rl.length];omega),?_⟩⟩⟩
 have ntr:t≠lr:=Ne.symm (Zg hlr ht);have k1:∀ x o,H x=some o->x≠lr->upd (upd H t (.tup ts)) lr (.lst (rr++[.ref t])) x=some o:=fun x o e n=>by rw[Zh n,Zh (Zg e ht)];exact e
 have t1:∀ x xs,H x=some (.tup xs)->upd (upd H t (.tup ts)) lr (.lst (rr++[.ref t])) x=some (.tup xs):=fun x xs e=>k1 x _ e (Ym e hlr (by intro z;cases z))
 have r1:upd (upd H t (.tup ts)) lr (.lst (rr++[.ref t])) lr=some (.lst (rr++[.ref t])):=Zb;have rl1:Q8 (upd (upd H t (.tup ts)) lr (.lst (rr++[.ref t]))) (rr++[.ref t]) (Rs++[rs]):=(rl.mono t1).snoc (by rw[Zh ntr,Zb]) (tl.mono t1)
 have tl1:=tl.mono t1;generalize upd (upd H t (.tup ts)) lr (.lst (rr++[.ref t]))=H1 at k1 t1 r1 rl1 tl1
 have hp1:=k1 _ _ hp nrp;have hb1:=k1 _ _ hb nb;have hd1:=k1 _ _ hd (Ne.symm nrd);refine⟨_,rfl,p,a.zkt,dx,_,_,rfl,hp1,T.zlh,T.zm0,Nz,lr,_,rfl,.inl (SqL.of r1),?_⟩;have hN:(((rr++[V.ref t]).length:Nat):Int)=((Rs.length+1:Nat):Int):=by rw[zy2,rl.length];rfl
 rw[hN];refine⟨_,rfl,b,rfl,⟨_,SqL.of hb1⟩,Xz (K:=K) (a:=b) (xs:=ts) (fun i σ H'=>(∃ v1 v2 v3 v4,σ=[some (.ref p),some (.ref b),some (.int ((Rs.length+1:Nat):Int)),v1,v2,v3,v4])/\(∀ x o,H1 x=some o->x≠ld->H' x=some o) /\
  ∃ kvs',H' ld=some (.dT kvs')/\E5 kvs' (N2 Rs rs i)/\kvs'.length<=2*(tot Rs+i)) ⟨⟨_,_,_,_,rfl⟩,fun _ _ e _=>e,kvs,hd1,by rw[zbd];exact mt,by omega⟩ (fun i σ H' _ ⟨_,k,_⟩=>SqL.of (k _ _ hb1 nbd)) ?_ ?_⟩
 ·rintro i x σ H' hx ⟨⟨v1,v2,v3,v4,rfl⟩,k2,kvs',hd2,mt2,kl2⟩
  obtain⟨tr,r,rfl,hr3,htr⟩:=zh0 tl1 hx;have hi:i<rs.length:=(zy0.mp hr3).1;have htr2:=k2 _ _ htr (Ym htr hd1 (by intro z;cases z))
  refine⟨tr,_,rfl,SqT.of htr2,rfl,_,_,rfl,_,_,rfl,_,_,rfl,_,_,rfl,rfl,?_⟩;refine⟨_,rfl,rfl,_,rfl,?_⟩;cases hw:r.w with
  | none =>
    refine iteF ?_;exact⟨⟨_,_,_,_,rfl⟩,k2,kvs',hd2,by rw[zbe hr3 hw];exact mt2,by omega⟩
  | some w =>
    refine iteT ?_;have hp2:=k2 _ _ hp1 npd;refine⟨_,rfl,_,rfl,p,a.zkt,dx,_,_,rfl,hp2,T.zlh,T.zlv,R7,_,rfl,_,rfl,sz2,fun t2 ht2=>⟨ld,_,rfl,DPut.t (k:=[Sum.inl w,Sum.inl r.h]) (by rw[Zh (Zg hd2 ht2)];exact hd2) Zb ((Nat.lt_trans (z0i (show _<=200000 by omega) (by decide)) Tp)),?_⟩⟩
    have k3:∀ x o,H1 x=some o->x≠ld->upd (upd H' t2 (.tup [oV (some w),.int r.h])) ld (.dT (putK kvs' [Sum.inl w,Sum.inl r.h] (.int ((Rs.length+1:Nat):Int)))) x=some o:=fun x o e n=>by
     have:=k2 x o e n;rw[Zh n,Zh (Zg this ht2)];exact this
    have hd3:upd (upd H' t2 (.tup [oV (some w),.int r.h])) ld (.dT (putK kvs' [Sum.inl w,Sum.inl r.h] (.int ((Rs.length+1:Nat):Int)))) ld=some (.dT (putK kvs' [Sum.inl w,Sum.inl r.h] (.int ((Rs.length+1:Nat):Int)))):=Zb;have l3:=Y7 kvs' ([Sum.inl w,Sum.inl r.h]:List Key) (.int ((Rs.length+1:Nat):Int));generalize upd (upd H' t2 (.tup [oV (some w),.int r.h])) ld (.dT (putK kvs' [Sum.inl w,Sum.inl r.h] (.int ((Rs.length+1:Nat):Int))))=H3 at k3 hd3
    have hp3:=k3 _ _ hp1 npd;refine⟨_,rfl,_,rfl,p,a.zkt,dx,_,_,rfl,hp3,T.zlh,T.zlv,R7,_,rfl,_,rfl,sz2,fun t4 ht4=>⟨ld,_,rfl,DPut.t (k:=[Sum.inl w,Sum.inl r.g]) (by rw[Zh (Zg hd3 ht4)];exact hd3) Zb ((Nat.lt_trans (z0i (show _<=200000 by omega) (by decide)) Tp)),?_⟩⟩
    refine⟨⟨_,_,_,_,rfl⟩,fun x o e n=>?_,_,Zb,?_,?_⟩
    ·have:=k3 x o e n
     rw[Zh n,Zh (Zg this ht4)];exact this
    ·rw[<- zbf hr3 hw]
     exact(mt2.put w r.h _ (Nat.succ_pos _)).put w r.g _ (Nat.succ_pos _)
    ·have:=Y7 (putK kvs' ([Sum.inl w,Sum.inl r.h]:List Key) (.int ((Rs.length+1:Nat):Int))) ([Sum.inl w,Sum.inl r.g]:List Key) (.int ((Rs.length+1:Nat):Int))
     omega
 ·rintro σ H' ⟨⟨v1,v2,v3,v4,rfl⟩,k2,kvs',hd2,mt2,kl2⟩
  rw[hlen] at mt2 kl2
  rw[zdk] at mt2
  refine h H' ⟨⟨dx,k2 _ _ hp1 npd⟩,⟨_,k2 _ _ r1 nrd,rl1.mono fun x xs e=>k2 _ _ e (Ym e hd1 (by intro z;cases z))⟩,kvs',hd2,mt2,by rw[zdj];exact kl2⟩ fun x o e n1 n2=>k2 x o (k1 x o e n1) n2
noncomputable abbrev Ud:Stmt:=Z4 (top 23) 2
theorem Jm:Zl ["self"] ["self"] (Zj Ud):=fnS
theorem Jn(F:Fun K "over" "Ledger.over" Ud f fd)(T:Tx K mg a):Z3 P w K mg base (CX1 P w) 1 f fd ["self"] (N1 a.zkt):=by
 refine F.okX Jm (by walk_at "ar") fun _ _ _ _ H _ Q E hr h=>?_
 obtain⟨p,lr,ld,Rs,rfl,LA,h⟩:=h;refine⟨_,(Zf (Zo (Zw (cL K) (by rfl) T.zlc PySem.boot_len (Za (Zr (K:=K) rfl (pv 0) rfl) Zd)))),?_⟩
 obtain⟨⟨dx,hp⟩,⟨rr,hlr,rl⟩,_⟩:=LA;refine⟨_,rfl,p,a.zkt,dx,_,_,rfl,hp,T.zlh,T.zm0,Nz,lr,_,rfl,.inl (SqL.of hlr),?_⟩;rw[rl.length];exact h
noncomputable abbrev U8:Stmt:=Z4 (top 23) 4
theorem Im:Zl ["self","number","club"] ["self","number","club"] (Zj U8):=fnS
theorem Io(F:Fun K "met" "Ledger.met" U8 f fd)(T:Tx K mg a):Z3 P w K mg base (CX1 P w) 1 f fd ["self","number","club"] (zgs a.zkt):=by
 refine F.okX Im (by walk_at "ar") fun _ _ _ _ H _ Q E hr h=>?_
 obtain⟨p,lr,ld,Rs,n,c,rfl,LA,h⟩:=h;have hu:=W2 hr;refine⟨_,(Zf (Zo (zc4 hu (Zr (K:=K) rfl (pv 0) rfl) (Yd (Za (pv 1) (Za (pv 2) Zd))) Zi ⟨rfl,rfl,rfl,rfl⟩))),?_⟩;obtain⟨⟨dx,hp⟩,_,⟨kvs,hd,mt,kl⟩⟩:=LA;refine⟨_,rfl,p,a.zkt,dx,_,_,rfl,hp,T.zlh,T.zlv,R7,ld,rfl,.inr ⟨kvs,.inl hd⟩,_,rfl,_,rfl,sz2,fun t ht=>⟨_,DGet.t (k:=[Sum.inl n,Sum.inl c]) (by rw[Zh (Zg hd ht)];exact hd) Zb,?_⟩⟩
 have e:((valV kvs ([Sum.inl n,Sum.inl c]:List Key)).getD (.int 0))=.int (metS Rs n c:Nat):=by
  rw[mt n c];split
  ·rename_i z;rw[z];rfl
  ·rfl
 rw[e];exact h _ (Ze ht)
noncomputable abbrev Ue:Stmt:=top 25
theorem Jo:Zl ["value","least","most"] ["value","least","most"] (Zj Ue):=fnS
theorem Jp(F:Fun K "check_range" "check_range" Ue f fd)(T:Tx K mg a):Z3 P w K mg base (CX1 P w) 1 f fd ["value","least","most"] (O2 a.zk7):=by
 refine F.okX Jo (by walk_at "ar") fun _ _ _ _ H _ Q E hr h=>?_
 obtain⟨v,lo,m,rfl,s1,s2,s3,h⟩:=h;refine⟨_,(Zf (Z9 (PW.pt (Ru (Zm Ai (pv 0) (pv 1) (Zv _)) (Sb (Zm Ri (pv 0) (pv 2) (Zv _)))))
  (Zf (Xh Xg rfl T.zqb rfl (Za (Vl (Z2 (Vb (pv 0)) (Z2 (X1 (by decide +kernel)) (Z2 (Vb (pv 1)) (Z2 (X1 (by decide +kernel)) (Z2 (Vb (pv 2)) Vk))))) (by decide)) Zd)))
  Zu)),?_⟩
 walk_at "rd";refine itD (fun h1=>?_) (fun h1=>?_)
 ·rw[if_pos (Or.inl h1)] at h
  refine iteT ?_;walk_at "rd";refine⟨.inl ⟨_,rfl,s1⟩,_,rfl,.inl ⟨_,rfl,s2⟩,_,rfl,.inl ⟨_,rfl,s3⟩,fun z=>⟨sz1,h⟩⟩
 ·walk_at "rd"
  refine itD (fun h2=>?_) (fun h2=>?_)
  ·rw[if_pos (Or.inr h2)] at h
   walk_at "rd";refine⟨.inl ⟨_,rfl,s1⟩,_,rfl,.inl ⟨_,rfl,s2⟩,_,rfl,.inl ⟨_,rfl,s3⟩,fun z=>⟨sz1,h⟩⟩
  ·rw[if_neg (fun z=>z.elim h1 h2)] at h
   exact h
noncomputable abbrev Ug:Stmt:=top 35
theorem Qi:Zl ["matches","count"] ["matches"] (Zj Ug):=fnS
theorem Jq(F:Fun K "check_count" "check_count" Ug f fd)(T:Tx K mg a):Z3 P w K mg base (CX1 P w) 1 f fd ["matches"] (Du K (ca a)):=by
 refine F.okX Qi (by walk_at "ar") fun _ _ _ _ H _ Q E hr h=>?_
 obtain⟨b,ts,rfl,hs,hl,h1,h2⟩:=h;refine⟨_,(Zc (pS 1 Qi.nd (Zw (cL K) (by rfl) T.zlc PySem.boot_len (Za (pv 0) Zd)))
 (Zf (Z9 (Zm Ri (pv 1) (Wh rfl T.zlo) (Zv _))
  (Zf (Xh Xg rfl T.zpc rfl (Za (Vl (Z2 (Vb (pv 1)) (Z2 (X1 (by decide +kernel)) (Z2 (Vb (Wh rfl T.zlo)) Vk))) (by decide)) Zd)))
  Zu))),?_⟩
 refine⟨_,rfl,b,_,rfl,.inl hs,?_⟩;walk_at "rd";refine itD (fun hc=>?_) (fun hc=>?_)
 ·walk_at "rd"
  exact⟨.inl ⟨_,rfl,Yx (by omega) (by omega)⟩,.inl ⟨_,rfl,Yg (by decide)⟩,fun z=>⟨sz1,h1 (by omega)⟩⟩
 ·exact h2 (by omega)
noncomputable abbrev Vr:Stmt:=top 36
theorem W5:Zl ["matches","home","guest","grade"] ["matches"] (Zj Vr):=fnS
theorem Lo(F:Fun K "check_ranges" "check_ranges" Vr f fd)(T:Tx K mg a)(zky:Z7 P w K mg base "check_range" 1 ["value","least","most"] (O2 a.zk7)):Z3 P w K mg base (CX1 P w) 2 f fd ["matches"] (Gx K (ca a)):=by
 refine F.okX W5 (by walk_at "ar") fun _ _ _ _ H _ Q E hr h=>?_
 obtain⟨b,ts,Ms,rfl,hs,tl,sm,h1,h2⟩:=h;refine⟨_,(Zf (Xq PassesOwn.leaving rfl (Yf (K:=K) rfl (pv 0)) (Wi (K:=K) (n:=3) rfl rfl (Z0 (pN 1 W5.nd) (Z0 (pN 2 W5.nd) (Z0 (pN 3 W5.nd) Wg))))
  (Zc (Z6 (pF zky hr (Za (pv 1) (Za Zi (Za (Wh rfl T.zlx) Zd)))))
  (Zc (Z6 (pF zky hr (Za (pv 2) (Za Zi (Za (Wh rfl T.zlx) Zd)))))
  (Zf (Z6 (pF zky hr (Za (pv 3) (Za Zi (Za (Wh rfl T.zl3) Zd)))))))))),?_⟩
 have hlen:ts.length=Ms.length:=by rw[tl.length,zyz]
 let jv1:Nat->L2.St->Hp->Prop:=fun i σ H'=>H'=H/\(∃ v1 v2 v3,σ=[some (.ref b),v1,v2,v3])/\∀ m∈Ms.take i,¬ badM m
 refine⟨_,rfl,b,rfl,⟨_,hs⟩,Xz (K:=K) (a:=b) (xs:=ts) jv1 ⟨rfl,⟨_,_,_,rfl⟩,by simp⟩ (fun i σ H' _ ⟨e,_⟩=>e▸hs) ?_ ?_⟩
 ·rintro i x σ H' hx ⟨rfl,⟨v1,v2,v3,rfl⟩,hi⟩
  obtain⟨t,m,rfl,hm,ht⟩:=Ks tl hx;have hmem:=zze hm;obtain⟨s1,s2,s3⟩:=sm m hmem;have bad:badM m->E (.ref a.zk7) none H':=fun hb=>h1 ⟨m,hmem,hb⟩
  refine⟨t,_,rfl,SqT.of ht,rfl,_,_,rfl,_,_,rfl,_,_,rfl,rfl,?_⟩;refine⟨_,rfl,_,1,99,rfl,s1,Yg (by decide),Yg (by decide),?_⟩
  refine E1 (fun b1=>bad (by unfold badM;omega)) (fun b1=>?_)
  refine⟨_,rfl,_,1,99,rfl,s2,Yg (by decide),Yg (by decide),?_⟩
  refine E1 (fun b2=>bad (by unfold badM;omega)) (fun b2=>?_)
  refine⟨_,rfl,_,1,9,rfl,s3,Yg (by decide),Yg (by decide),?_⟩
  refine E1 (fun b3=>bad (by unfold badM;omega)) (fun b3=>?_)
  exact⟨rfl,⟨_,_,_,rfl⟩,Gw hm hi (by unfold badM;omega)⟩
 ·rintro σ H' ⟨rfl,⟨v1,v2,v3,rfl⟩,hi⟩
  rw[hlen,zzh] at hi
  exact h2 fun ⟨m,hm,hb⟩=>hi m hm hb
noncomputable abbrev Uh:Stmt:=top 37
theorem Vs:Zl ["matches","home","guest","grade"] ["matches"] (Zj Uh):=fnS
theorem Jr(F:Fun K "check_clubs" "check_clubs" Uh f fd)(T:Tx K mg a):Z3 P w K mg base (CX1 P w) 1 f fd ["matches"] (Dv K (ca a)):=by
 refine F.okX Vs (by walk_at "ar") fun _ _ _ _ H _ Q E hr h=>?_
 obtain⟨b,ts,Ms,rfl,hs,tl,sm,h1,h2⟩:=h;refine⟨_,(Zf (Xq PassesOwn.leaving rfl (Yf (K:=K) rfl (pv 0)) (Wi (K:=K) (n:=3) rfl rfl (Z0 (pN 1 Vs.nd) (Z0 (pN 2 Vs.nd) (Z0 (pN 3 Vs.nd) Wg))))
  (Zf (Z9 (Zm Wq (pv 1) (pv 2) (Zv _))
   (Zf (Xh Xg rfl T.zqg rfl (Za (Vl (Z2 (X1 (by decide +kernel)) (Z2 (Vb (pv 1)) (Z2 (X1 (by decide +kernel)) Vk))) (by decide)) Zd)))
   Zu)))),?_⟩
 have hlen:ts.length=Ms.length:=by rw[tl.length,zyz]
 let jv2:Nat->L2.St->Hp->Prop:=fun i σ H'=>H'=H/\(∃ v1 v2 v3,σ=[some (.ref b),v1,v2,v3])/\∀ m∈Ms.take i,¬ (m.1=m.2.1)
 refine⟨_,rfl,b,rfl,⟨_,hs⟩,Xz (K:=K) (a:=b) (xs:=ts) jv2 ⟨rfl,⟨_,_,_,rfl⟩,by simp⟩ (fun i σ H' _ ⟨e,_⟩=>e▸hs) ?_ ?_⟩
 ·rintro i x σ H' hx ⟨rfl,⟨v1,v2,v3,rfl⟩,hi⟩
  obtain⟨t,m,rfl,hm,ht⟩:=Ks tl hx;have hmem:=zze hm;obtain⟨s1,s2,s3⟩:=sm m hmem;refine⟨t,_,rfl,SqT.of ht,rfl,_,_,rfl,_,_,rfl,_,_,rfl,rfl,?_⟩;refine⟨_,rfl,_,rfl,rfl,_,rfl,?_⟩;refine itV (fun he=>?_) (fun he=>?_)
  ·exact⟨_,rfl,.inl ⟨_,rfl,s1⟩,fun z=>⟨sz1,h1 ⟨m,hmem,he⟩⟩⟩
  ·exact⟨rfl,⟨_,_,_,rfl⟩,Gw (p:=fun m=>m.1=m.2.1) hm hi he⟩
 ·rintro σ H' ⟨rfl,⟨v1,v2,v3,rfl⟩,hi⟩
  rw[hlen,zzh] at hi
  exact h2 fun ⟨m,hm,hb⟩=>hi m hm hb
noncomputable abbrev Qz:Stmt:=top 38
theorem B9:Zl ["matches"] ["matches"] (Zj Qz):=fnS
theorem Aa(F:Fun K "checked" "checked" Qz f fd)(T:Tx K mg a)(znz:Z7 P w K mg base "check_count" 1 ["matches"] (Du K (ca a)))(zni:Z7 P w K mg base "check_ranges" 2 ["matches"] (Gx K (ca a)))(znt:Z7 P w K mg base "check_clubs" 1 ["matches"] (Dv K (ca a))):Z3 P w K mg base (CX1 P w) 3 f fd ["matches"] (K2 K (ca a)):=by
 refine F.okX B9 (by walk_at "ar") fun _ _ _ _ H _ Q E hr h=>?_
 obtain⟨b,ts,Ms,rfl,hs,tl,sm,hl,h1,h2,h3,h4⟩:=h;refine⟨_,(Zc (Z6 (pF znz hr (Za (pv 0) Zd)))
 (Zc (Z6 (pF zni hr (Za (pv 0) Zd)))
 (Zc (Z6 (pF znt hr (Za (pv 0) Zd)))
 (Zf (Zo (Y9 (Xs (K:=K) rfl) (by rfl) T.zmb PyProof.Rows.boot_list (Za (pv 0) Zd))))))),?_⟩
 have hlen:ts.length=Ms.length:=by rw[tl.length,zyz]
 refine⟨_,rfl,b,ts,rfl,hs,by omega,fun hc=>h1 (by omega),fun hc=>?_⟩
 refine⟨_,rfl,b,ts,Ms,rfl,hs,tl,sm,fun hb=>h2 (by omega) hb,fun hb=>?_⟩
 refine⟨_,rfl,b,ts,Ms,rfl,hs,tl,sm,fun hb2=>h3 (by omega) hb hb2,fun hb2=>?_⟩
 exact⟨_,rfl,b,ts,rfl,.inl hs,h4 (by omega) hb hb2⟩
noncomputable abbrev Wk:Stmt:=Z4 (top 40) 0
theorem Oh:Zl ["self"] ["self"] (Zj Wk):=fnS
theorem Oi(F:Fun K "__init__" "Roster.__init__" Wk f fd)(T:Tx K mg a):Z3 P w K mg base (CX1 P w) 1 f fd ["self"] (zab (ca a)):=by
 refine F.okX Oh (by walk_at "ar") fun _ _ _ _ H _ Q E hr h=>?_
 obtain⟨p,dx,rfl,hp,h⟩:=h;refine⟨_,(Zf (Y5 (K:=K) rfl (pv 0) Km rfl)),?_⟩;intro d hd;exact⟨_,rfl,p,a.zku,dx,[],rfl,(by rw[Zh (Zg hp hd)];exact hp),T.zk8,T.zlj,(by decide),h d hd⟩
noncomputable abbrev X7:Stmt:=Z4 (top 40) 1
theorem Pb:Zl ["self","number","grade","club"] ["self","number","grade","club"] (Zj X7):=fnS
theorem Pc(F:Fun K "check_new" "Roster.check_new" X7 f fd)(T:Tx K mg a)(zky:Z7 P w K mg base "check_range" 1 ["value","least","most"] (O2 a.zk7)):Z3 P w K mg base (CX1 P w) 2 f fd ["self","number","grade","club"] (P5 (ca a)):=by
 refine F.okX Pb (by walk_at "ar") fun _ _ _ _ H _ Q E hr h=>?_
 obtain⟨p,d,R,n,g,c,rfl,RA,sm,h⟩:=h;have hu:=W2 hr;refine⟨_,(Zc (Z6 (pF zky hr (Za (pv 1) (Za Zi (Za (Wh rfl T.zl7) Zd)))))
 (Zc (Z6 (pF zky hr (Za (pv 2) (Za Zi (Za (Wh rfl T.zl3) Zd)))))
 (Zc (Z6 (pF zky hr (Za (pv 3) (Za Zi (Za (Wh rfl T.zlx) Zd)))))
 (Zc (Z9 (Sa (Pt hu (pv 1) (Zr (K:=K) rfl (pv 0) rfl)))
  (Zf (Xh Xg rfl T.zpz rfl (Za (Vl (Z2 (X1 (by decide +kernel)) (Z2 (Vb (pv 1)) (Z2 (X1 (by decide +kernel)) Vk))) (by decide)) Zd)))
  Zu)
 (Zf (Z9 (Zm zgk (Zw za7 (by rfl) T.zlc PySem.boot_len (Za (Zr (K:=K) rfl (pv 0) rfl) Zd)) (Wh rfl T.zli) (Zv _))
  (Zf (Xh Xg rfl T.zoz rfl (Za (Vl (Z2 (X1 (by decide +kernel)) (Z2 (Vb (Wh rfl T.zli)) (Z2 (X1 (by decide +kernel)) Vk))) (by decide)) Zd)))
  Zu)))))),?_⟩
 obtain⟨sn,sg,sc⟩:=sm;obtain⟨⟨dx,kvs,hp,hd,en⟩,nd⟩:=id RA;have bad:∀ {A B:Prop},(badI n g c->(if badI n g c then A else B)->A):=fun hb z=>by rw[if_pos hb] at z;exact z
 refine⟨_,rfl,n,1,999,rfl,sn,Yg (by decide),Yg (by decide),?_⟩
 refine E1 (fun b1=>bad (by unfold badI;omega) h) (fun b1=>?_)
 refine⟨_,rfl,g,1,9,rfl,sg,Yg (by decide),Yg (by decide),?_⟩
 refine E1 (fun b2=>bad (by unfold badI;omega) h) (fun b2=>?_)
 refine⟨_,rfl,c,1,99,rfl,sc,Yg (by decide),Yg (by decide),?_⟩
 refine E1 (fun b3=>bad (by unfold badI;omega) h) (fun b3=>?_)
 rw[if_neg (by unfold badI;omega)] at h
 refine⟨_,rfl,_,rfl,p,a.zku,dx,_,_,rfl,hp,T.zk8,T.zlj,Ve,d,_,rfl,DGet.k (k:=Sum.inl n) hd,_,rfl,?_⟩;rw[en.isSome nd];refine itD (fun hn=>?_) (fun hn=>?_)
 ·rw[if_pos hn] at h
  exact⟨_,rfl,.inl ⟨_,rfl,sn⟩,fun z=>⟨sz1,h⟩⟩
 rw[if_neg hn] at h
 refine⟨_,rfl,p,a.zku,dx,_,_,rfl,hp,T.zk8,T.zlj,Ve,d,_,rfl,hd,_,_,rfl,rfl,_,rfl,?_⟩;rw[en.length];refine itD (fun hz=>?_) (fun hz=>?_)
 ·rw[if_pos (by omega)] at h
  exact⟨.inl ⟨_,rfl,Yg (by decide)⟩,fun z=>⟨sz1,h⟩⟩
 rw[if_neg (by omega)] at h
 exact h
noncomputable abbrev Xo:Stmt:=Z4 (top 40) 2
theorem Rp:Zl ["self","number"] ["self","number"] (Zj Xo):=fnS
theorem Rq(F:Fun K "check_known" "Roster.check_known" Xo f fd)(T:Tx K mg a):Z3 P w K mg base (CX1 P w) 1 f fd ["self","number"] (S4 (ca a)):=by
 refine F.okX Rp (by walk_at "ar") fun _ _ _ _ H _ Q E hr h=>?_
 obtain⟨p,d,R,n,rfl,RA,sn,h⟩:=h;have hu:=W2 hr;refine⟨_,(Zf (Z9 (Sa (Nu hu (pv 1) (Zr (K:=K) rfl (pv 0) rfl)))
  (Zf (Xh Xg rfl T.zo6 rfl (Za (Vl (Z2 (X1 (by decide +kernel)) (Z2 (Vb (pv 1)) (Z2 (X1 (by decide +kernel)) Vk))) (by decide)) Zd)))
  Zu)),?_⟩
 obtain⟨⟨dx,kvs,hp,hd,en⟩,nd⟩:=id RA;refine⟨_,rfl,_,rfl,p,a.zku,dx,_,_,rfl,hp,T.zk8,T.zlj,Ve,d,_,rfl,DGet.k (k:=Sum.inl n) hd,_,rfl,?_⟩;rw[en.isSome nd];by_cases hn:n∈R.map (·.1)
 ·rw[zy4 hn]
  rw[if_pos hn] at h
  exact iteF h
 ·rw[zzb hn]
  rw[if_neg hn] at h
  exact iteT ⟨_,rfl,.inl ⟨_,rfl,sn⟩,fun z=>⟨sz1,h⟩⟩
noncomputable abbrev U9:Stmt:=Z4 (top 40) 3
theorem Ip:Zl ["self","number","grade","club"] ["self","number","grade","club"] (Zj U9):=fnS
theorem Iq(F:Fun K "add" "Roster.add" U9 f fd)(T:Tx K mg a)(zlb:Zx P w K mg base a.zku "check_new" 2 ["self","number","grade","club"] (P5 (ca a))):Z3 P w K mg base (CX1 P w) 3 f fd ["self","number","grade","club"] (zd3 (ca a)):=by
 refine F.okX Ip (by walk_at "ar") fun _ _ _ _ H _ Q E hr h=>?_
 obtain⟨p,d,R,n,g,c,rfl,RA,sm,hl,h⟩:=h;have hu:=W2 hr;refine⟨_,(Zc (Z6 (X2 (pv 0) T.zk8 zlb (hr.mono (by decide)) Zk (Za (pv 1) (Za (pv 2) (Za (pv 3) Zd)))))
 (Zf (Yl hu (Zr (K:=K) rfl (pv 0) rfl) (pv 1) (Yd (Za (pv 2) (Za (pv 3) Zd))) rfl))),?_⟩
 obtain⟨⟨dx,kvs,hp,hd,en⟩,nd⟩:=id RA;refine⟨_,rfl,p,dx,_,rfl,hp,Xj.no (by decide +kernel),_,rfl,_,rfl,_,rfl,p,d,R,n,g,c,rfl,RA,sm,?_⟩
 refine it2 h (fun _ z=>z) fun hb h=>it2 h (fun _ z=>z) fun hn h=>it2 h (fun _ z=>z) fun hz h=>?_
 refine⟨_,rfl,_,rfl,sz2,fun t ht=>?_⟩
 have ntp:p≠t:=Zg hp ht;have ntd:d≠t:=Zg hd ht;have npd:p≠d:=Ym hp hd (by intro z;cases z)
 refine⟨_,rfl,p,a.zku,dx,_,_,rfl,(by rw[Zh ntp];exact hp),T.zk8,T.zlj,Ve,_,rfl,d,_,rfl,DPut.k (k:=Sum.inl n) (by rw[Zh ntd];exact hd) (Sl (by rw[en.length];exact hl)),?_⟩
 rw[zbp (en.val_none hn)];refine h _ ⟨⟨dx,_,(by rw[Zh npd,Zh ntp];exact hp),Zb,?_⟩,?_⟩ fun b o e hb=>(by rw[Zh hb,Zh (Zg e ht)];exact e)
 ·refine Vd.snoc (by rw[Zh (Ne.symm ntd)];exact Zb) (en.mono fun b xs e=>?_)
  rw[Zh (Ym e hd (by intro z;cases z)),Zh (Zg e ht)];exact e
 ·rw[zy7]
  exact Fc nd hn
noncomputable abbrev W6:Stmt:=Z4 (top 40) 4
theorem Md:Zl ["self","number"] ["self","number"] (Zj W6):=fnS
theorem Me(F:Fun K "strike" "Roster.strike" W6 f fd)(T:Tx K mg a):Z3 P w K mg base (CX1 P w) 1 f fd ["self","number"] (Df (ca a)):=by
 refine F.okX Md (by walk_at "ar") fun _ _ _ _ H _ Q E hr h=>?_
 obtain⟨p,d,R,n,g,c,rfl,RA,h⟩:=h;refine⟨_,(Zf (Z6 (zc5 (Zr (K:=K) rfl (pv 0) rfl) (pv 1) ⟨rfl,rfl,rfl,rfl⟩))),?_⟩;obtain⟨⟨dx,kvs,hp,hd,en⟩,nd⟩:=id RA;have npd:p≠d:=Ym hp hd (by intro z;cases z)
 obtain⟨t,e1,e2⟩:=en.val_some nd (show (n,g,c)∈R++[(n,g,c)] by simp)
 have hn:n∉R.map (·.1):=by
  rw[zy7,z04] at nd
  exact fun z=>nd.2.2 n z n (by simp) rfl
 refine⟨_,rfl,p,a.zku,dx,_,_,rfl,hp,T.zk8,T.zlj,Ve,d,rfl,.inl ⟨kvs,.inl hd⟩,_,rfl,kvs,Sum.inl n,_,hd,rfl,e1,?_⟩;refine h _ ⟨⟨dx,_,(by rw[Zh npd];exact hp),Zb,(en.unsnoc hn).mono fun b xs e=>?_⟩,?_⟩ fun b o e hb=>(by rw[Zh hb];exact e)
 ·rw[Zh (Ym e hd (by intro z;cases z))];exact e
 ·rw[zy7,z04] at nd;exact nd.1
noncomputable abbrev Wv:Stmt:=Z4 (top 40) 6
theorem O5:Zl ["self"] ["self"] (Zj Wv):=fnS
theorem O6(F:Fun K "numbers" "Roster.numbers" Wv f fd)(T:Tx K mg a):Z3 P w K mg base (CX1 P w) 1 f fd ["self"] (Kx (ca a)):=by
 refine F.okX O5 (by walk_at "ar") fun _ _ _ _ H _ Q E hr h=>?_
 obtain⟨p,d,R,rfl,RA,h⟩:=h;refine⟨_,(Zf (Zo (Y9 (Bl rfl) (by rfl) T.zmb PyProof.Rows.boot_list (Za (Zr (K:=K) rfl (pv 0) rfl) Zd)))),?_⟩
 obtain⟨⟨dx,kvs,hp,hd,en⟩,nd⟩:=id RA;refine⟨_,rfl,p,a.zku,dx,_,_,rfl,hp,T.zk8,T.zlj,Ve,d,kvs,rfl,.inl hd,fun l hl=>?_⟩
 rw[en.keys];exact h l hl
noncomputable abbrev Vt:Stmt:=Z4 (top 40) 7
theorem Lp:Zl ["self","number"] ["self","number"] (Zj Vt):=fnS
theorem Lq(F:Fun K "entry" "Roster.entry" Vt f fd)(T:Tx K mg a)(zk6:Zx P w K mg base a.zku "check_known" 1 ["self","number"] (S4 (ca a))):Z3 P w K mg base (CX1 P w) 2 f fd ["self","number"] (Dg (ca a)):=by
 refine F.okX Lp (by walk_at "ar") fun _ _ _ _ H _ Q E hr h=>?_
 obtain⟨p,d,R,n,rfl,RA,sn,h1,h2⟩:=h;have hu:=W2 hr;refine⟨_,(Zc (Z6 (X2 (pv 0) T.zk8 zk6 (hr.mono (by decide)) Zk (Za (pv 1) Zd)))
 (Zf (Zo (pD hu (Zr (K:=K) rfl (pv 0) rfl) (pv 1))))),?_⟩
 obtain⟨⟨dx,kvs,hp,hd,en⟩,nd⟩:=id RA;refine⟨_,rfl,p,dx,_,rfl,hp,Xj.no (by decide +kernel),_,rfl,p,d,R,n,rfl,RA,sn,?_⟩
 refine E1 (fun hn=>?_) (fun hn=>h1 hn)
 obtain⟨⟨m,g,c⟩,q,rfl⟩:=zy9.mp hn;obtain⟨t,e1,e2⟩:=en.val_some nd q;exact⟨_,rfl,p,a.zku,dx,_,_,rfl,hp,T.zk8,T.zlj,Ve,_,rfl,d,_,rfl,(by rw[<- e1];exact DGet.k (k:=Sum.inl m) hd),h2 g c t q e2⟩
noncomputable abbrev W7:Stmt:=Z4 (top 40) 10
theorem Mf:Zl ["self","number"] ["self","number"] (Zj W7):=fnS
theorem Mg(F:Fun K "person" "Roster.person" W7 f fd)(T:Tx K mg a)(zne:Zx P w K mg base a.zku "entry" 2 ["self","number"] (Dg (ca a))):Z3 P w K mg base (CX1 P w) 3 f fd ["self","number"] (Dh (ca a)):=by
 refine F.okX Mf (by walk_at "ar") fun _ _ _ _ H _ Q E hr h=>?_
 obtain⟨p,d,R,n,rfl,RA,sn,h1,h2⟩:=h;refine⟨_,(Zf (Zo (Zp (Dj (K:=K) rfl) (Yd (Za (pv 1) Zd)) (X2 (pv 0) T.zk8 zne (hr.mono (by decide)) Zk (Za (pv 1) Zd))))),?_⟩
 obtain⟨⟨dx,kvs,hp,hd,en⟩,nd⟩:=id RA;refine⟨_,rfl,sz1,fun t1 ht1=>?_⟩
 have s1:=Ze (o:=.tup [.int n]) ht1;have q1:upd H t1 (.tup [.int n]) t1=some (.tup [.int n]):=Zb;generalize upd H t1 (.tup [.int n])=H1 at s1 q1
 refine⟨_,rfl,p,dx,_,rfl,s1 _ _ hp,Xj.no (by decide +kernel),_,rfl,p,d,R,n,rfl,RA.same s1,sn,fun hn=>h1 hn H1 s1,fun g c t q ht=>?_⟩
 refine⟨t1,t,_,_,rfl,rfl,SqT.of q1,SqT.of ht,by simp,by show 1+2<=sizeLine;exact sz3,fun z=>absurd z (by simp),fun _ t2 ht2=>?_⟩
 exact h2 g c t2 _ q Zb (s1.trans (Ze ht2)) (s1.free ht2)
noncomputable abbrev O7:Stmt:=top 4
theorem zb9:Zl ["people","match","out","ledger","rest"] ["people","match","out","ledger","rest"] (Zj O7):=fnS
theorem zca(F:Fun K "takers" "takers" O7 f fd)(T:Tx K mg a)(zpg:Z7 P w K mg base "reasons" 3 ["referee","match","out","ledger","rest"] (Gi K a.zkt)):Z3 P w K mg base (CX1 P w) 4 f fd ["people","match","out","ledger","rest"] (E8 K a.zkt):=by
 refine F.okX zb9 (by walk_at "ar") fun _ _ _ _ H _ Q E hr h=>?_
 obtain⟨lp,lo,tm,p,lr,ld,Rs,ts,Ms,os,h,gu,d,rest,rfl,hp,tl,ho,hoo,ht,LA,hl,hq⟩:=h;refine⟨_,(Zf (Zo (Ut rfl (cT ["match","ledger","rest","out"] [1,3,4,2]) (Yf (K:=K) rfl (pv 0)) (fun _ _ _ _ _=>Ov (Kh (Gf (K:=K) rfl (Av zpg (hr.mono (by decide)) Au rfl (Za (pv 0) (Za (pv 1) (Za (Qq (Pw (K:=K) rfl) (pI (iU K) (pv 0) Zi) (pv 4) (by with_unfolding_all rfl)) (Za (pv 2) (Za (pv 3) Zd)))))) (fun _=>rfl)))) (fun _ _ _ _ _=>(pI (iU K) (pv 0) Zi))))),?_⟩
 have hlen:ts.length=Ms.length:=by rw[tl.length,zyz]
 refine⟨_,rfl,lp,rfl,⟨_,SqL.of hp⟩,?_⟩;refine We (K:=K) (a:=lp) (xs:=ts) (fun i ys H'=>Same H H'/\ys=((Ms.take i).filter (R8 Rs h gu d os rest)).map fun m=>V.int m.1) ⟨Same.refl _,rfl⟩ (fun i ys H' _ ⟨s,_⟩=>SqL.of (s _ _ hp)) (by rw[hlen];exact szN hl) (fun i ys H' ⟨_,e⟩=>by rw[e,zyz];exact zzg (zz2 _ _) (z0c _ _)) ?_ ?_
 ·rintro i x ys H' hx ⟨sm,rfl⟩
  obtain⟨t,m,rfl,hm,htt⟩:=Ks tl hx;have htt':=sm _ _ htt;refine⟨_,rfl,_,rfl,_,rfl,t,_,_,_,rfl,rfl,SqT.of htt',(show atI (pV m) 0=some _ from rfl),_,rfl,lo,os,rfl,.inl (SqL.of (sm _ _ ho)),rfl,z06.mpr (fun y hy=>zdm (hoo y hy)),_,rfl,_,rfl,t,tm,p,lr,ld,Rs,m.1,m.2.1,m.2.2,h,gu,d,rest,inV (.int m.1) os,rfl,htt',sm _ _ ht,LA.same sm,fun l H2 hl2 s2 _=>?_⟩
  refine⟨_,.inl ⟨_,SqL.of hl2,rfl⟩,?_⟩;have e:((whyS Rs m.1 m.2.1 m.2.2 h gu d (inV (.int m.1) os) rest).map V.str).isEmpty=R8 Rs h gu d os rest m:=by unfold R8;rw[List.isEmpty_map]
  have hys:∀ ys',((Ms.take (i+1)).filter (R8 Rs h gu d os rest)).map (fun m=>V.int m.1)=((Ms.take i).filter (R8 Rs h gu d os rest)).map (fun m=>V.int m.1)++ys'↔ys'=if R8 Rs h gu d os rest m then [V.int m.1] else []:=fun ys'=>by
   rw[zz6,hm,z0y,zy7,List.append_cancel_left_eq];cases q:R8 Rs h gu d os rest m<;>simp[q,eq_comm]
  dsimp only;rw[e];refine itB (fun hb=>?_) (fun hb=>?_)
  ·rw[Bool.not_not] at hb
   refine⟨_,rfl,t,_,_,_,rfl,rfl,SqT.of (s2 _ _ htt'),(show atI (pV m) 0=some _ from rfl),sm.trans s2,?_⟩
   exact((hys [V.int m.1]).mpr (by rw[hb];rfl)).symm
  ·rw[Bool.not_not] at hb
   refine⟨sm.trans s2,?_⟩;have:=(hys []).mpr (by rw[hb];rfl)
   rw[z1a] at this
   exact this.symm
 ·rintro ys H' ⟨sm,rfl⟩ l hl'
  rw[hlen,zzh];exact hq l _ Zb (sm.trans (Ze hl')) (sm.free hl')
noncomputable abbrev Vu:Stmt:=top 42
theorem W8:Zl ["given","taken","place","number"] ["given"] (Zj Vu):=fnS
theorem Lr(F:Fun K "places_taken" "places_taken" Vu f fd)(T:Tx K mg a):Z3 P w K mg base (CX1 P w) 1 f fd ["given"] (A9 K):=by
 refine F.okX W8 (by walk_at "ar") fun _ _ _ _ H _ Q E hr h=>?_
 obtain⟨b,gs,rfl,hb,ho,hinj,hl,h⟩:=h;have hu:=W2 hr;refine⟨_,(Zc (pS 1 W8.nd Km)
 (Zc (Xq PassesOwn.leaving rfl (zfq (K:=K) rfl rfl T.zm2 (Za (pv 0) Zd)) (Wi (K:=K) (n:=2) rfl rfl (Z0 (pN 2 W8.nd) (Z0 (pN 3 W8.nd) Wg)))
  (Zf (Z9 (Zm Vi (pv 3) Y0 (Zv _))
   (Zf (Yl hu (pv 1) (pv 3) (pv 2) rfl))
   Zu)))
 (Zf (Zo (pv 1))))),?_⟩
 have line:100<sizeLine:=by rw[sizeLine_eq];decide
 intro d hd
 let jv1:Nat->L2.St->Hp->Prop:=fun i σ' H'=>(∃ u v,σ'=[some (.ref b),some (.ref d),u,v])/\Same H H'/\∃ kvs,H' d=some (.dK kvs)/\kvs.length<=i/\(∀ (n:Int) (j:Nat),j<i->gs[j]?=some (.int n)->valV kvs (Sum.inl n:Key)=some (.int (j:Nat)))/\(∀ n:Int,(∀ j:Nat,j<i->gs[j]?≠some (.int n))->valV kvs (Sum.inl n:Key)=none)
 refine⟨_,rfl,b,rfl,⟨gs,SqL.of (Ze hd _ _ hb)⟩,zdt (xs:=gs) jv1
  ⟨⟨none,none,rfl⟩,Ze hd,[],Zb,zza _,fun n j hj=>absurd hj (z1c _),fun n _=>rfl⟩ (fun i σ' H' hi p=>SqL.of (p.2.1 _ _ hb)) (fun i x t σ' H' hx p htn=>?_) (fun σ' H' p=>?_)⟩
 ·obtain⟨⟨u,v,rfl⟩,hs,kvs,hk,hkl,h1,h2⟩:=p
  have s2:=hs.trans (Ze (o:=.tup [.int (i:Nat),x]) htn);have hk2:=Ze (o:=.tup [.int (i:Nat),x]) htn _ _ hk;refine⟨t,_,rfl,SqT.of Zb,rfl,_,_,rfl,_,_,rfl,rfl,?_⟩;generalize upd H' t (.tup [.int (i:Nat),x])=H2 at s2 hk2
  have hi:i<gs.length:=(zy0.mp hx).1;refine Vm (b:=!decide (x=.non)) (fun Q k=>⟨_,rfl,rfl,_,rfl,k⟩) ?_
  rcases ho x (zze hx) with rfl|⟨n,rfl⟩
  ·refine iteF (Z1 ⟨⟨_,_,rfl⟩,s2,kvs,hk2,by omega,fun n j hj hg=>?_,fun n hn=>h2 n fun j hj=>hn j (by omega)⟩)
   by_cases e:j=i
   ·subst e;rw[hx] at hg;cases hg
   ·exact h1 n j (by omega) hg
  ·refine iteT ⟨_,rfl,_,rfl,_,rfl,d,_,rfl,DPut.k (k:=Sum.inl n) hk2 (by omega),⟨_,_,rfl⟩,?_,_,Zb,?_,fun m j hj hg=>?_,fun m hm=>?_⟩
   ·exact Z8 hd s2
   ·exact zzg (Y7 kvs _ _) (by omega)
   ·rw[Vj]
    by_cases e:j=i
    ·subst e
     rw[hx] at hg;cases hg
     rw[if_pos rfl]
    ·have hne:¬ ((Sum.inl m:Key)=Sum.inl n):=fun z=>by
      rw[Sum.inl.inj z] at hg
      exact e (hinj j i n hg hx)
     rw[if_neg hne];exact h1 m j (by omega) hg
   ·have hne:¬ ((Sum.inl m:Key)=Sum.inl n):=fun z=>by
     rw[Sum.inl.inj z] at hm
     exact hm i (by omega) hx
    rw[Vj,if_neg hne];exact h2 m fun j hj=>hm j (by omega)
 ·obtain⟨⟨u,v,rfl⟩,hs,kvs,hk,hkl,h1,h2⟩:=p
  exact⟨_,rfl,h d kvs H' hk ⟨fun n j hj=>h1 n j (zy0.mp hj).1 hj,fun n hn=>h2 n fun j _=>hn j⟩ hs hd⟩
noncomputable abbrev Ta:Stmt:=top 43
theorem Xu:Zl ["may","taken","start","into","waiting","done","place","number"] ["may","taken","start"] (Zj Ta):=fnS
theorem Ir(F:Fun K "steps_into" "steps_into" Ta f fd)(T:Tx K mg a):Z3 P w K mg base (CX1 P w) 1 f fd ["may","taken","start"] (zdz K):=by
 refine F.okX Xu (by walk_at "ar") fun _ _ _ _ H _ Q E hr h=>?_
 obtain⟨l,d,ls,rows,kvs,gs,p,rfl,hl,il,hrl,hd,tk,FP,hp,h⟩:=h;have hu:=W2 hr;refine⟨_,(Zc (pS 3 Xu.nd (Al (Uq (pv 2) Y0 G6) rfl rfl (by simp) (by decide)))
 (Zc (pS 4 Xu.nd (Ya (Za (pv 2) Zd)))
 (Zc (pS 5 Xu.nd Zi)
 (Zc (Em PassesOwn.leaving (Zm Ai (pv 5) (Zw (cL K) (by rfl) T.zlc PySem.boot_len (Za (pv 4) Zd)) (Zv _))
  (Zc (pS 6 Xu.nd (pI (iL K) (pv 4) (pv 5)))
  (Zc (pS 5 Xu.nd (Zp Ys (pv 5) Zi))
  (Zf (Xq PassesOwn.leaving rfl (Yf (K:=K) rfl (pI (iL K) (pv 0) (pv 6))) (pN 7 Xu.nd)
   (Zf (Z9 (PW.pt (Np (Sa (Pt hu (pv 7) (pv 1))) (Qp (Sa (Nu hu (pD hu (pv 1) (pv 7)) (pv 3))))))
    (Zc (Yl hu (pv 3) (pD hu (pv 1) (pv 7)) (Yd (Za (pv 6) (Za (pv 7) Zd))) rfl)
    (Zf (Yv (pv 4) (pD hu (pv 1) (pv 7)))))
    Zu)))))))
 (Zf (Zo (pv 3))))))),?_⟩
 show let y1:TS:=_;let y2:TS:=Zz _ y1;let y3:TS:=_;let y4:TS:=Zz (zcn _ (Zz _ y2)) y3;let y5:TS:=Zz _ y4;let y6:TS:=Zz _ y5;Zz _ y6 _ _ _;intro y1 y2 y3 y4 y5 y6;have line0:200<sizeLine:=by rw[sizeLine_eq];decide
 intro ld hld;refine⟨_,rfl,Zb,[(Sum.inl (p:Int),.non)],rfl,(by show 1<=15;decide),?_⟩
 have s0:Same H (upd (upd H ld (.dK [])) ld (.dK (Sw [] [(Sum.inl (p:Int),.non)]))):=Z8 hld (Ze hld);have q0:upd (upd H ld (.dK [])) ld (.dK (Sw [] [(Sum.inl (p:Int),.non)])) ld=some (.dK [((Sum.inl (p:Int):Key),V.non)]):=Zb;generalize upd (upd H ld (.dK [])) ld (.dK (Sw [] [(Sum.inl (p:Int),.non)]))=H1 at s0 q0
 refine⟨_,rfl,sz1,fun ln hln=>?_⟩
 have s1:=Ze (o:=.lst [.int p]) hln;have e1:upd H1 ln (.lst [.int p]) ln=some (.lst (Rk [p])):=Zb;have q1:=s1 _ _ q0;have s01:=s0.trans s1;have nln:ld≠ln:=Zg q0 hln;have fln:H ln=none:=s0.free hln;generalize upd H1 ln (.lst [.int p])=H2 at s1 e1 q1 s01
 have hbound:∀ line:List Nat,line.Nodup->(∀ c∈line,c<rows.length)->line.length<=rows.length:=fun line nd hc=>by
  have:=nd.length_le_of_subset (l₂:=List.range rows.length) fun c hcc=>zzx.mpr (hc c hcc)
  rw[z0g] at this;exact this
 refine⟨fun m σ' H'=>∃ (line:List Nat) (dep:Nat->Nat) (fr:Nat->Option (Nat×Int)) (into:List (Key×V)) (dn:Nat) (v6 v7:Option V),m=rows.length-dn/\dn<=line.length/\σ'=[some (.ref l),some (.ref d),some (.int p),some (.ref ld),some (.ref ln),some (.int (dn:Nat)),v6,v7]/\Same H H'/\H' ld=some (.dK into)/\H' ln=some (.lst (Rk line))/\Xt H' into line fr/\Bfs rows gs p line dep/\Done rows gs line dep dn/\To rows gs p line dep fr/\(∀ q∈line,q<rows.length)/\∀ here,line[dn]?=some here->∀ x∈line,dep x<=dep here+1,
  ⟨_,[p],fun _=>0,fun _=>none,_,0,_,_,rfl,zzs _,rfl,s01,q1,e1,Br _ _,zbj rows gs p,fun i q hi=>absurd hi (z1c _),Bs,by simpa using hp,fun here _ x _=>zzs _⟩,?_⟩
 rintro m σ Ha ⟨line,dep,fr,into,dn,v6,v7,rfl,hdn,rfl,sa,hda,hna,io,B,Dn,fo,hlt,near⟩;have hll:=hbound _ B.nodup hlt;have hnl:(Rk line).length=line.length:=by unfold Rk;rw[zyz]
 refine⟨_,rfl,_,rfl,ln,_,rfl,.inl (SqL.of hna),_,_,rfl,rfl,_,rfl,?_⟩;rw[hnl];by_cases hlt2:dn<line.length
 ·rw[zy4 (show ((dn:Nat):Int)<(line.length:Nat) by omega)]
  refine iteT ?_;obtain⟨here,hh⟩:∃ here,line[dn]?=some here:=⟨_,zy1 hlt2⟩
  have hhm:=zze hh;have hhere:=hlt here hhm;have hhv:(Rk line)[dn]?=some (.int (here:Nat)):=by unfold Rk;rw[zy5,hh];rfl
  refine⟨fun σ' H'=>∃ (line:List Nat) (dep:Nat->Nat) (fr:Nat->Option (Nat×Int)) (into:List (Key×V)) (v6 v7:Option V),dn+1<=line.length/\σ'=[some (.ref l),some (.ref d),some (.int p),some (.ref ld),some (.ref ln),some (.int ((dn+1:Nat):Int)),v6,v7]/\Same H H'/\H' ld=some (.dK into)/\H' ln=some (.lst (Rk line))/\Xt H' into line fr/\Bfs rows gs p line dep/\Done rows gs line dep (dn+1)/\To rows gs p line dep fr/\(∀ q∈line,q<rows.length)/\∀ here,line[dn+1]?=some here->∀ x∈line,dep x<=dep here+1,
   fun σ' H' ⟨line,dep,fr,into,v6,v7,a1,a2,a3,a4,a5,a6,a7,a8,a9,a10,a11⟩=>⟨rows.length-(dn+1),by omega,line,dep,fr,into,dn+1,v6,v7,rfl,a1,a2,a3,a4,a5,a6,a7,a8,a9,a10,a11⟩,?_⟩
  have hr':rows[here]?=some (rows[here]'hhere):=zy1 hhere;generalize (rows[here]'hhere)=r at hr'
  obtain⟨lr,e2,e3⟩:=il.getR hr';have hl':(ls.map V.ref)[here]?=some (.ref lr):=by rw[zy5,e2];rfl
  refine⟨_,rfl,_,rfl,ln,_,_,_,rfl,rfl,SqL.of hna,Y4 hhv,?_⟩;refine⟨_,rfl,_,_,rfl,rfl,?_⟩;refine⟨_,rfl,_,rfl,l,_,_,_,rfl,rfl,SqL.of (sa _ _ hl),Y4 hl',lr,rfl,⟨_,SqL.of (sa _ _ e3)⟩,?_⟩
  let jv2:Nat->L2.St->Hp->Prop:=fun j σ' H'=>∃ (line:List Nat) (dep:Nat->Nat) (fr:Nat->Option (Nat×Int)) (into:List (Key×V)) (v7:Option V),σ'=[some (.ref l),some (.ref d),some (.int p),some (.ref ld),some (.ref ln),some (.int ((dn+1:Nat):Int)),some (.int (here:Nat)),v7]/\Same H H'/\H' ld=some (.dK into)/\H' ln=some (.lst (Rk line))/\Xt H' into line fr/\Bfs rows gs p line dep/\Done rows gs line dep dn/\To rows gs p line dep fr/\(∀ q∈line,q<rows.length)/\line[dn]?=some here/\(∀ x∈line,dep x<=dep here+1)/\∀ n∈r.take j,∀ q':Nat,gs[q']?=some (.int n)->q'∈line
  refine Xz (K:=K) (a:=lr) (xs:=r.map V.int) jv2
   ⟨line,dep,fr,into,_,rfl,sa,hda,hna,io,B,Dn,fo,hlt,hh,near here hh,by simp⟩ (fun j σ' H' _ ⟨_,_,_,_,_,_,z,_⟩=>SqL.of (z _ _ e3)) ?_ ?_
  ·rintro j y σ' Hx hy ⟨line,dep,fr,into,w7,rfl,sx,hdx,hnx,io,B,Dn,fo,hlt,hh,near,pr⟩
   have hj:j<r.length:=by have:=(zy0.mp hy).1;rw[zyz] at this;exact this
   have hhm:=zze hh;have hrj:r[j]?=some (r[j]'hj):=zy1 hj;have etk:r.take (j+1)=r.take j++[r[j]'hj]:=zzv hj;generalize (r[j]'hj)=n at hrj etk
   have ey:y=.int n:=by rw[zy5,hrj] at hy;exact(Option.some.inj hy).symm
   subst ey;have hnr:=zze hrj;have hll:=hbound _ B.nodup hlt;have prev:(∀ q':Nat,gs[q']?=some (.int n)->q'∈line)->∀ m∈r.take (j+1),∀ q':Nat,gs[q']?=some (.int m)->q'∈line:=fun k m hm=>by
    rw[etk] at hm
    rcases zy6.mp hm with z|z
    ·exact pr m z
    ·rw[zy3.mp z];exact k
   rcases tk.iff n with ⟨q',hq',hv⟩|⟨hno,hv⟩
   ·by_cases hin:q'∈line
    ·refine Vm (b:=false) (fun Q k=>?_) (iteF (Z1 ⟨line,dep,fr,into,_,rfl,sx,hdx,hnx,io,B,Dn,fo,hlt,hh,near,prev fun q2 h2=>by rw[FP.inj q2 q' n h2 hq'];exact hin⟩))
     refine⟨_,rfl,_,rfl,d,_,rfl,DGet.k (k:=Sum.inl n) (sx _ _ hd),_,rfl,?_⟩;rw[hv];refine iteT ⟨_,rfl,_,rfl,d,_,rfl,hv▸DGet.k (k:=Sum.inl n) (sx _ _ hd),_,rfl,ld,_,rfl,DGet.k (k:=Sum.inl (q':Int)) hdx,_,rfl,?_⟩;rw[(io.has q').mpr hin];exact k
    ·have hnin:(valV into (Sum.inl (q':Int):Key)).isSome=false:=by
      rw[Bool.eq_false_iff];exact fun z=>hin ((io.has q').mp z)
     have hq'l:q' < rows.length:=by
      have:=(zy0.mp hq').1;rw[FP.len] at this;exact this
     have ha:adjN rows gs here n q':=⟨⟨r,hr',hnr⟩,hq'⟩;obtain⟨B',old,all⟩:=B.app (dn:=dn) hh near ha hin;refine Vm (b:=true) (fun Q k=>?_) (iteT ?_)
     ·refine⟨_,rfl,_,rfl,d,_,rfl,DGet.k (k:=Sum.inl n) (sx _ _ hd),_,rfl,?_⟩
      rw[hv];refine iteT ⟨_,rfl,_,rfl,d,_,rfl,hv▸DGet.k (k:=Sum.inl n) (sx _ _ hd),_,rfl,ld,_,rfl,DGet.k (k:=Sum.inl (q':Int)) hdx,_,rfl,?_⟩;rw[hnin];exact k
     ·refine⟨_,rfl,_,rfl,sz2,fun t ht=>?_⟩
      have t1:=Ze (o:=.tup [.int (here:Nat),.int n]) ht;have st:=sx.trans t1;have hdt:=t1 _ _ hdx;have hnt:=t1 _ _ hnx;have et:upd Hx t (.tup [.int (here:Nat),.int n]) t=some (.tup [.int (here:Nat),.int n]):=Zb;have iot:=io.same t1;generalize upd Hx t (.tup [.int (here:Nat),.int n])=Ht at t1 st hdt hnt et iot
      refine⟨_,rfl,_,rfl,_,rfl,d,_,rfl,hv▸DGet.k (k:=Sum.inl n) (st _ _ hd),ld,_,rfl,DPut.k (k:=Sum.inl (q':Int)) hdt ?_,?_⟩
      ·have:=io.len;omega
      have sd:Same H (upd Ht ld (.dK (putK into (Sum.inl (q':Int)) (.ref t)))):=Z8 hld st;have ed:upd Ht ld (.dK (putK into (Sum.inl (q':Int)) (.ref t))) ld=some (.dK (putK into (Sum.inl (q':Int)) (.ref t))):=Zb;have en:upd Ht ld (.dK (putK into (Sum.inl (q':Int)) (.ref t))) ln=some (.lst (Rk line)):=by rw[Zh (Ne.symm nln)];exact hnt
      have iod:Xt (upd Ht ld (.dK (putK into (Sum.inl (q':Int)) (.ref t)))) (putK into (Sum.inl (q':Int)) (.ref t)) (line++[q']) (My fr q' (here,n)) :=
       (iot.app hin et).mono fun c xs e=>by rw[Zh (Ym e hdt (fun z=>nomatch z))];exact e
      generalize upd Ht ld (.dK (putK into (Sum.inl (q':Int)) (.ref t)))=Hd at sd ed en iod
      have hsz:(Rk line).length<sizeLine:=by unfold Rk;rw[zyz];omega
      refine⟨_,rfl,ln,_,rfl,en,_,rfl,_,rfl,d,_,rfl,hv▸DGet.k (k:=Sum.inl n) (sd _ _ hd),_,en,hsz,line++[q'],Vn dep q' (dep here+1),My fr q' (here,n),putK into (Sum.inl (q':Int)) (.ref t),_,rfl,Z8 fln sd,?_,?_,?_,B',Dn.app ?_ ⟨_,rfl⟩ old,fo.app hin B.memp hhm ha,?_,?_,?_,?_⟩
      ·rw[Zh nln];exact ed
      ·rw[Zb];unfold Rk;rw[zy7];rfl
      ·exact iod.mono fun c xs e=>by rw[Zh (Ym e en (fun z=>nomatch z))];exact e
      ·have:=(zy0.mp hh).1;omega
      ·intro q hq
       rcases zy6.mp hq with z|z
       ·exact hlt q z
       ·rw[zy3.mp z];exact hq'l
      ·rw[zz0 (zy0.mp hh).1];exact hh
      ·intro x hx
       rw[old here hhm];exact all x hx
      ·intro m hm q2 h2
       rw[etk] at hm
       rcases zy6.mp hm with z|z
       ·exact zzu _ (pr m z q2 h2)
       ·rw[zy3.mp z] at h2
        rw[FP.inj q2 q' n h2 hq'];exact zzj _ (zy3.mpr rfl)
   ·refine Vm (b:=false) (fun Q k=>?_) (iteF (Z1 ⟨line,dep,fr,into,_,rfl,sx,hdx,hnx,io,B,Dn,fo,hlt,hh,near,prev fun q2 h2=>absurd h2 (hno q2)⟩))
    refine⟨_,rfl,_,rfl,d,_,rfl,DGet.k (k:=Sum.inl n) (sx _ _ hd),_,rfl,?_⟩;rw[hv];exact iteF k
  ·rintro σ' Hx ⟨line,dep,fr,into,w7,rfl,sx,hdx,hnx,io,B,Dn,fo,hlt,hh,near,pr⟩
   rw[zyz,zzh] at pr
   have hlt3:=(zy0.mp hh).1;refine⟨line,dep,fr,into,_,_,by omega,rfl,sx,hdx,hnx,io,B,fun i q hi hq n q' ha=>?_,fo,hlt,fun here2 hh2 x hx=>?_⟩
   ·by_cases e:i=dn
    ·rw[e,hh] at hq;cases hq
     obtain⟨⟨r2,h1,h2⟩,h3⟩:=ha;rw[hr'] at h1;cases h1
     have hm:=pr n h2 q' h3;exact⟨hm,near q' hm⟩
    ·exact Dn i q (by omega) hq n q' ha
   ·have:=B.sorted dn (dn+1) here here2 (by omega) hh hh2
    have:=near x hx;omega
 ·rw[zzb (show ¬ (((dn:Nat):Int)<(line.length:Nat)) by omega)]
  refine iteF ⟨_,rfl,?_⟩;have e:dn=line.length:=by omega
  subst e;exact h ld into line dep fr Ha hda io B Dn fo hlt sa hld
noncomputable abbrev Vv:Stmt:=top 44
theorem Rn:Zl ["numbers","taken","number"] ["numbers","taken"] (Zj Vv):=fnS
theorem Ls(F:Fun K "free_referee" "free_referee" Vv f fd)(T:Tx K mg a):Z3 P w K mg base (CX1 P w) 1 f fd ["numbers","taken"] (Gp K):=by
 refine F.okX Rn (by walk_at "ar") fun _ _ _ _ H _ Q E hr h=>?_
 obtain⟨l,d,r,kvs,rfl,hl,hd,h⟩:=h;have hu:=W2 hr;refine⟨_,(Zc (Xq PassesOwn.leaving rfl (Yf (K:=K) rfl (pv 0)) (pN 2 Rn.nd)
  (Zf (Z9 (Sa (Nu hu (pv 2) (pv 1)))
   (Zf (Zo (pv 2)))
   Zu)))
 (Zf (Zo Y0))),?_⟩
 let jv3:Nat->L2.St->Hp->Prop:=fun i σ' H'=>(∃ u,σ'=[some (.ref l),some (.ref d),u])/\H'=H/\∀ n∈r.take i,(valV kvs (Sum.inl n:Key)).isSome=true
 refine⟨_,rfl,l,rfl,⟨_,SqL.of hl⟩,Xz (xs:=r.map V.int) jv3
  ⟨⟨none,rfl⟩,rfl,by simp⟩ (fun i σ' H' hi p=>by rw[p.2.1];exact SqL.of hl) (fun i x σ' H' hx p=>?_) (fun σ' H' p=>?_)⟩
 ·obtain⟨⟨u,rfl⟩,rfl,hp⟩:=p
  have hi:i<r.length:=by have:=(zy0.mp hx).1;rw[zyz] at this;exact this
  have e:x=.int (r[i]'hi):=by
   rw[zy5,zy1 hi] at hx
   exact(Option.some.inj hx).symm
  subst e;refine Vm (b:=!(valV kvs (Sum.inl (r[i]'hi):Key)).isSome) (fun Q k=>⟨_,rfl,_,rfl,d,_,rfl,DGet.k (k:=Sum.inl (r[i]'hi)) hd,_,rfl,k⟩) ?_
  cases hv:valV kvs (Sum.inl (r[i]'hi):Key) with
  | none=>exact iteT ⟨_,rfl,h (some (r[i]'hi)) (fun n hn=>by cases hn;exact⟨zz4 hi,hv⟩) (fun z=>nomatch z)⟩
  | some y =>
    refine iteF (Z1 ⟨⟨_,rfl⟩,rfl,fun n hn=>?_⟩)
    rw[zzv hi] at hn
    rcases zy6.mp hn with z|z
    ·exact hp n z
    ·rw[zy3.mp z,hv];rfl
 ·obtain⟨⟨u,rfl⟩,rfl,hp⟩:=p
  rw[zyz,zzh] at hp
  exact h none (fun n z=>nomatch z) fun _=>hp
noncomputable abbrev O8:Stmt:=top 45
theorem Q0:Zl ["into","place","number","steps","step"] ["into","place","number"] (Zj O8):=fnS
theorem zcb(F:Fun K "traced" "traced" O8 f fd)(T:Tx K mg a):Z3 P w K mg base (CX1 P w) 1 f fd ["into","place","number"] (Dd K):=by
 refine F.okX Q0 (by walk_at "ar") fun _ _ _ _ H _ Q E hr h=>?_
 obtain⟨t,q,p,w,rows,gs,into,line,dep,fr,rfl,ht,io,fo,d0,hp,hq,hdq,h⟩:=h;have hu:=W2 hr;refine⟨_,(Zc (pS 3 Q0.nd (Ya (Za (Yd (Za (pv 1) (Za (pv 2) Zd))) Zd)))
 (Zc (pS 4 Q0.nd (pD hu (pv 0) (pv 1)))
 (Zc (Em PassesOwn.leaving (Zm Vi (pv 4) Y0 (Zv _))
  (Zc (Yv (pv 3) (pv 4))
  (Zf (pS 4 Q0.nd (pD hu (pv 0) (pI (iU K) (pv 4) Zi))))))
 (Zc (Z6 (zc8 PySem.F.plainAttrs_list PySem.F.slot_list_reverse PySem.F.type_list_reverse Bh (pv 3)))
 (Zf (Zo (pv 3))))))),?_⟩
 have line0:200<sizeLine:=by rw[sizeLine_eq];decide
 have get:∀ {H':Hp},Same H H'->∀ k:Nat,DGet H' t (.int (k:Nat)) (valV into (Sum.inl (k:Int):Key)):=fun {H'} hs k=>.inl ⟨into,Sum.inl (k:Int),ht.imp (hs _ _) (fun ⟨o,e⟩=>⟨o,hs _ _ e⟩),rfl,rfl⟩
 have fr0:∀ c∈line,fr c=none->c=p:=fun c hc hf=>by
  by_cases e:c=p
  ·exact e
  ·obtain⟨par,n,h1,_⟩:=fo.2 c hc e
   rw[hf] at h1;cases h1
 have some_of:∀ c∈line,∃ v,valV into (Sum.inl (c:Int):Key)=some v:=fun c hc=>z0d.mp ((io.has c).mpr hc)
 refine⟨_,rfl,_,rfl,sz2,fun m hm=>⟨sz1,fun lt hlt=>?_⟩⟩
 have s1:=Ze (o:=.tup [.int (q:Nat),oV w]) hm;have e1:upd H m (.tup [.int (q:Nat),oV w]) m=some (.tup (V5 (q,w))):=Zb;generalize upd H m (.tup [.int (q:Nat),oV w])=H1 at s1 e1 hlt
 have s2:=Ze (o:=.lst [V.ref m]) hlt;have e2:upd H1 lt (.lst [V.ref m]) lt=some (.lst [V.ref m]):=Zb;have e3:=s2 _ _ e1;have s3:=s1.trans s2;have hltn:H lt=none:=s1.free hlt;generalize upd H1 lt (.lst [V.ref m])=H2 at s2 e2 e3 s3
 obtain⟨v0,hv0⟩:=some_of q hq;refine⟨_,rfl,_,rfl,t,v0,rfl,hv0▸get s3 q,?_⟩;refine⟨fun mm σ' H'=>∃ (cur:Nat) (st:List (Nat×Option Int)) (ts:List V) (v:V),mm=dep cur/\cur∈line/\valV into (Sum.inl (cur:Int):Key)=some v/\σ'=[some (.ref t),some (.int (q:Nat)),some (oV w),some (.ref lt),some v]/\Same H H'/\H' lt=some (.lst ts)/\TupL H' ts (st.reverse.map V5)/\Ch rows gs cur st q w/\st.length+dep cur=dep q+1,
  ⟨_,q,[(q,w)],_,v0,rfl,hq,hv0,rfl,s3,e2,.cons e3 .nil,.one q w,by show 1+dep q=_;omega⟩,?_⟩
 rintro mm σ' Ha ⟨cur,st,ts,v,rfl,hc,hv,rfl,sa,hta,htl,hch,hlen⟩;have htsl:ts.length=st.length:=by have:=htl.length;rw[zyz,List.length_reverse] at this;exact this
 refine⟨_,rfl,rfl,_,rfl,?_⟩;cases hf:fr cur with
 | none =>
   have hcp:=fr0 cur hc hf;subst hcp;have hvn:=io.none cur hc hf;rw[hv] at hvn
   cases hvn;refine iteF ?_;refine⟨_,rfl,.inl ⟨rfl,_,SqL.of hta⟩,lt,ts,rfl,rfl,hta,_,rfl,?_⟩;refine h lt ts.reverse st _ Zb ?_ hch (by omega) (Z8 hltn sa) hltn
   have hr:=htl.reverse;rw[<- List.map_reverse,List.reverse_reverse] at hr
   exact hr.mono fun c xs e=>by rw[Zh (Ym e hta (fun z=>nomatch z))];exact e
 | some x =>
   obtain⟨par,n⟩:=x;obtain⟨tt,h1,h2⟩:=io.some cur hc par n hf;rw[hv] at h1
   cases h1;have hcp:cur≠p:=fun z=>by rw[z,fo.1] at hf;cases hf
   obtain⟨par',n',h3,h4,h5,h6⟩:=fo.2 cur hc hcp;rw[hf] at h3
   cases h3;obtain⟨v',hv'⟩:=some_of par h4;refine iteT ?_;refine⟨fun σ' H'=>∃ (st:List (Nat×Option Int)) (ts:List V),σ'=[some (.ref t),some (.int (q:Nat)),some (oV w),some (.ref lt),some v']/\Same H H'/\H' lt=some (.lst ts)/\TupL H' ts (st.reverse.map V5)/\Ch rows gs par st q w/\st.length+dep par=dep q+1,
    fun σ' H' ⟨st,ts,a1,a2,a3,a4,a5,a6⟩=>⟨dep par,by omega,par,st,ts,v',rfl,h4,hv',a1,a2,a3,a4,a5,a6⟩,?_⟩
   have s4:Same H (upd Ha lt (.lst (ts++[V.ref tt]))):=Z8 hltn sa;refine⟨_,rfl,lt,_,rfl,hta,_,rfl,_,hta,by omega,?_⟩
   refine⟨_,rfl,_,rfl,tt,_,_,_,rfl,rfl,SqT.of (s4 _ _ h2),rfl,t,v',rfl,hv'▸get s4 par,(par,some n) :: st,ts++[V.ref tt],rfl,s4,Zb,?_,.step h5 hch,?_⟩
   ·rw[z03,zy7]
    exact(htl.mono fun c xs e=>by rw[Zh (Ym e hta (fun z=>nomatch z))];exact e).snoc (s4 _ _ h2)
   ·rw[zzl];omega
noncomputable abbrev Kf:Stmt:=top 46
theorem Qj:Zl ["may","given","place","taken","into","reached","number"] ["may","given","place"] (Zj Kf):=fnS
theorem zeu(F:Fun K "chain" "chain" Kf f fd)(T:Tx K mg a)(znb:Z7 P w K mg base "places_taken" 1 ["given"] (A9 K))(zoe:Z7 P w K mg base "steps_into" 1 ["may","taken","start"] (zdz K))(znl:Z7 P w K mg base "free_referee" 1 ["numbers","taken"] (Gp K))(zoy:Z7 P w K mg base "traced" 1 ["into","place","number"] (Dd K)):Z3 P w K mg base (CX1 P w) 2 f fd ["may","given","place"] (Fi K):=by
 refine F.okX Qj (by walk_at "ar") fun _ _ _ _ H _ Q E hr h=>?_
 obtain⟨l,lg,ls,rows,nu,gs,p,rfl,hl,il,mo,hg,FP,hp,hgp,h⟩:=h;refine⟨_,(Zc (pS 3 Qj.nd (pF znb hr (Za (pv 1) Zd)))
 (Zc (pS 4 Qj.nd (pF zoe hr (Za (pv 0) (Za (pv 3) (Za (pv 2) Zd)))))
 (Zc (Xq PassesOwn.leaving rfl (zfr (pv 4)) (pN 5 Qj.nd)
  (Zc (pS 6 Qj.nd (pF znl hr (Za (pI (iL K) (pv 0) (pv 5)) (Za (pv 3) Zd))))
  (Zf (Z9 (Zm Vi (pv 6) Y0 (Zv _))
   (Zf (Zo (pF zoy hr (Za (pv 4) (Za (pv 5) (Za (pv 6) Zd))))))
   Zu))))
 (Zf (Zo (pF zoy hr (Za (pv 4) (Za (Zw (zbn rfl) (by rfl) T.zpq PyProof.Rows.boot_max (Za (pv 4) Zd)) (Za Y0 Zd))))))))),?_⟩
 have hrl:rows.length<=100:=zzg mo.few (by decide)
 refine⟨_,rfl,lg,gs,rfl,hg,FP.one,FP.inj,by rw[FP.len];exact hrl,fun d kvs H1 hd1 tk s1 hdn=>?_⟩
 refine⟨_,rfl,_,rfl,_,rfl,l,d,ls,rows,kvs,gs,p,rfl,s1 _ _ hl,il.same s1,hrl,hd1,tk,FP,hp,fun t into line dep fr H2 ht io B Dn fo hlt s2 htn=>?_⟩
 have hbound:line.length<=rows.length:=by
  have:=B.nodup.length_le_of_subset (l₂:=List.range rows.length) fun c hcc=>zzx.mpr (hlt c hcc)
  rw[z0g] at this;exact this
 have hd2:=s2 _ _ hd1;have s02:=s1.trans s2;have hfree:∀ q n,(∃ r,rows[q]?=some r/\n∈r)->valV kvs (Sum.inl n:Key)=none->Px rows gs q n:=fun q n hr hv=>⟨hr,fun j hj=>by rw[tk.has n j hj] at hv;cases hv⟩
 have hdep:∀ q∈line,dep q<=100:=fun q hq=>by
  obtain⟨pre,hc,hlp⟩:=fo.back B.d0 (dep q) q q none [(q,none)] rfl hq (.one q none);have nd:=hc.nodup fun k hk=>by
   rw[zy2,hlp];have:=(B.full Dn hk).2;show dep q+1<=k+1;omega
  have hlt':=hc.lt FP hp;have:=nd.length_le_of_subset (l₂:=List.range rows.length) fun x hx=>by
   obtain⟨s,hs,rfl⟩:=zy9.mp hx;exact zzx.mpr (hlt' s hs)
  rw[zyz,z0g,zy2,hlp] at this
  omega
 have htH:H t=none:=s1.free htn;refine⟨_,rfl,t,into,rfl,ht,fun o=>?_⟩
 have e0:upd H2 t (.frz o (.dK into)) t=some (.frz o (.dK into)):=Zb;have s3:Same H (upd H2 t (.frz o (.dK into))):=Z8 htH s02;have hd3:upd H2 t (.frz o (.dK into)) d=some (.dK kvs):=by rw[Zh (Zg hd1 htn)];exact hd2
 have io3:Xt (upd H2 t (.frz o (.dK into))) into line fr:=io.mono fun c xs e=>by rw[Zh (Ym e ht (fun z=>nomatch z))];exact e
 generalize upd H2 t (.frz o (.dK into))=H3 at e0 s3 hd3 io3
 have hil:into.length=line.length:=io.len;have key:∀ (i:Nat) (k:Key) (v:V),into[i]?=some (k,v)->∃ q:Nat,line[i]?=some q/\k=Sum.inl (q:Int):=fun i k v e=>by
  have:=congrArg (·[i]?) io.keys
  simp only[zy5,e,z0b] at this
  cases hq:line[i]? with
  | none=>rw[hq] at this;cases this
  | some q=>rw[hq] at this;exact⟨q,rfl,Option.some.inj this⟩
 let jv4:Nat->L2.St->Hp->Prop:=fun i σ' H'=>(∃ u v,σ'=[some (.ref l),some (.ref lg),some (.int p),some (.ref d),some (.ref t),u,v])/\H'=H3/\∀ (j q:Nat),j<i->line[j]?=some q->¬ U1 rows gs q
 refine zdw (a:=t) (o:=o) (kvs:=into) jv4 ⟨⟨none,none,rfl⟩,rfl,fun j q hj=>absurd hj (z1c _)⟩ (fun i σ' H' _ p=>by rw[p.2.1];exact e0) (fun i k v σ' H' hk hP=>?_) (fun σ' H' hP=>?_)
 ·obtain⟨⟨u,v',rfl⟩,rfl,hno⟩:=hP
  obtain⟨q,hq,rfl⟩:=key i k v hk;have hqm:=zze hq;have hqr:rows[q]?=some (rows[q]'(hlt q hqm)):=zy1 (hlt q hqm);generalize (rows[q]'(hlt q hqm))=r at hqr
  obtain⟨lr,e2,e3⟩:=il.getR hqr;have hl':(ls.map V.ref)[q]?=some (.ref lr):=by rw[zy5,e2];rfl
  refine⟨_,rfl,_,rfl,l,_,_,_,rfl,rfl,SqL.of (s3 _ _ hl),Y4 hl',_,rfl,lr,d,r,kvs,rfl,s3 _ _ e3,hd3,fun w hw1 hw2=>?_⟩
  walk_at "if";refine Vm (b:=!decide (oV w=.non)) (fun Q k=>⟨_,rfl,rfl,_,rfl,k⟩) ?_
  cases w with
  | none =>
    refine iteF (Z1 ⟨⟨_,_,rfl⟩,rfl,fun j q2 hj hq2=>?_⟩)
    by_cases e:j=i
    ·rw[e,hq] at hq2
     cases hq2;rintro⟨n,⟨r2,h1,h2⟩,h3⟩;rw[hqr] at h1;cases h1
     have:=hw2 rfl n h2;rw[tk.not n h3] at this;cases this
    ·exact hno j q2 (by omega) hq2
  | some n =>
    obtain⟨hn1,hn2⟩:=hw1 n rfl;refine iteT ⟨_,rfl,_,rfl,_,rfl,t,q,p,some n,rows,gs,into,line,dep,fr,rfl,.inr ⟨o,e0⟩,io3,fo,B.d0,B.memp,hqm,hdep q hqm,fun lt ts st H4 h1 h2 h3 h4 s4 hltn=>?_⟩
    have hf:=hfree q n ⟨r,hqr,hn1⟩ hn2;have Di:Done rows gs line dep i:=fun j x hj=>Dn j x (Nat.lt_trans hj (zy0.mp hq).1)
    exact h lt ts st q (some n) H4 h1 h2 (Bo B Di hq hno hf h3 h4) (s3.trans s4) (s3.free hltn)
 ·obtain⟨⟨u,v',rfl⟩,rfl,hno⟩:=hP
  have hpos:0<line.length:=List.length_pos_of_mem B.memp;refine⟨_,rfl,⟨_,rfl,t,into,line.map fun q:Nat=>(q:Int),rfl,.inr ⟨o,e0⟩,by rw[io.keys,z0o];rfl,by rw[zyz];exact hpos,fun M hM hmax=>?_⟩⟩
  obtain⟨e,he,rfl⟩:=zy9.mp hM;refine⟨t,e,p,none,rows,gs,into,line,dep,fr,rfl,.inr ⟨o,e0⟩,io3,fo,B.d0,B.memp,he,hdep e he,fun lt ts st H4 h1 h2 h3 h4 s4 hltn=>?_⟩
  refine h lt ts st e none H4 h1 h2 (Bp B Dn (fun q hq=>?_) (fun q hq=>?_) h3 h4) (s3.trans s4) (s3.free hltn)
  ·obtain⟨j,hj,e2⟩:=zz9 hq
   exact hno j q (by omega) (by rw[zy1 hj,e2])
  ·have:=hmax _ (zy9.mpr ⟨q,hq,rfl⟩)
   omega
noncomputable abbrev Q4:Stmt:=top 47
theorem S8:Zl ["given","steps","behind","place","number"] ["given","steps"] (Zj Q4):=fnS
theorem Ab(F:Fun K "stepped" "stepped" Q4 f fd)(T:Tx K mg a):Z3 P w K mg base (CX1 P w) 1 f fd ["given","steps"] (N5 K):=by
 refine F.okX S8 (by walk_at "ar") fun _ _ _ _ H _ Q E hr h=>?_
 obtain⟨b,c,xs,ts,st,rfl,hb,hc,ht,hst,ho,hl,hls,h⟩:=h;refine⟨_,(Zc (pS 2 S8.nd (Y9 (Xs (K:=K) rfl) (by rfl) T.zmb PyProof.Rows.boot_list (Za (pv 0) Zd)))
 (Zc (Xq PassesOwn.leaving rfl (Yf (K:=K) rfl (pv 1)) (Wi (K:=K) (n:=2) rfl rfl (Z0 (pN 3 S8.nd) (Z0 (pN 4 S8.nd) Wg)))
  (Zf (Ki (pv 4) (zg6 (pv 2) (pv 3) zc7))))
 (Zf (Zo (pv 2))))),?_⟩
 have htl:ts.length=st.length:=by have:=ht.length;rw[zyz] at this;exact this
 refine⟨_,rfl,b,_,rfl,.inl (SqL.of hb),fun l hln=>?_⟩
 let jv5:Nat->L2.St->Hp->Prop:=fun i σ' H'=>(∃ u v,σ'=[some (.ref b),some (.ref c),some (.ref l),u,v])/\H' l=some (.lst (Yq (st.take i) xs))/\(∀ a o,H a=some o->H' a=some o)
 refine⟨_,rfl,c,rfl,⟨ts,SqL.of (Ze hln _ _ hc)⟩,Xz (xs:=ts) jv5 ⟨⟨none,none,rfl⟩,Zb,Ze hln⟩ (fun i σ' H' hi p=>SqL.of (p.2.2 _ _ hc)) (fun i x σ' H' hx p=>?_) (fun σ' H' p=>?_)⟩
 ·obtain⟨⟨u,v,rfl⟩,hl2,hs⟩:=p
  have hi:i<st.length:=by rw[<- htl];exact(zy0.mp hx).1
  obtain⟨t,e1,e2⟩:=zjr ht (zy1 hi);rw[hx] at e1
  cases e1;refine⟨t,_,rfl,SqT.of (hs _ _ e2),rfl,_,_,rfl,_,_,rfl,rfl,?_⟩;have hlen:(Yq (st.take i) xs).length=xs.length:=X5 _ _;have hp:(st[i]'hi).1<xs.length:=hst _ (zz4 hi);have e3:Yq (st.take (i+1)) xs=(Yq (st.take i) xs).set (st[i]'hi).1 (oV (st[i]'hi).2):=by
   rw[zzv hi,Gn];rfl
  refine⟨_,rfl,_,rfl,_,rfl,l,_,_,(st[i]'hi).1,rfl,rfl,hl2,(show ixN _ (((st[i]'hi).1:Nat):Int)=some _ by unfold ixN;rw[if_pos (by omega),if_pos (by omega),zzm]),⟨_,_,rfl⟩,?_,fun a o q=>?_⟩
  ·rw[e3];exact Zb
  ·rw[Zh (Zg q hln)];exact hs a o q
 ·obtain⟨⟨u,v,rfl⟩,hl2,hs⟩:=p
  rw[htl,zzh] at hl2
  exact⟨_,rfl,h l H' hl2 hs hln⟩
noncomputable abbrev Eb:Stmt:=top 49
theorem Kg:Zl ["may","given","place"] ["may"] (Zj Eb):=fnS
theorem zgf(F:Fun K "fill" "fill" Eb f fd)(T:Tx K mg a)(zmr:Z7 P w K mg base "stepped" 1 ["given","steps"] (N5 K))(zok:Z7 P w K mg base "chain" 2 ["may","given","place"] (Fi K)):Z3 P w K mg base (CX1 P w) 3 f fd ["may"] (zdo K):=by
 refine F.okX Kg (by walk_at "ar") fun _ _ _ _ H _ Q E hr h=>?_
 obtain⟨l,ls,rows,nu,rfl,hl,il,mo,h⟩:=h;refine⟨_,(Zc (T2 (i:=1) Kg.nd rfl rfl rfl (cT [] []) (Yf (K:=K) rfl (pv 0)) (fun _ _ _ _ _=>Uc) (fun _ _ _ _ _=>Y0))
 (Zc (Xq PassesOwn.leaving rfl (V8 rfl T.zl9 (Za (Zw (cL K) (by rfl) T.zlc PySem.boot_len (Za (pv 0) Zd)) Zd)) (pN 2 Kg.nd)
  (Zf (pS 1 Kg.nd (pF zmr hr (Za (pv 1) (Za (pF zok hr (Za (pv 0) (Za (pv 1) (Za (pv 2) Zd)))) Zd))))))
 (Zf (Zo (pv 1))))),?_⟩
 have hlen:=il.length;have hrl:rows.length<=100:=zzg mo.few (by decide)
 refine⟨_,rfl,l,rfl,⟨_,SqL.of hl⟩,?_⟩;refine We (K:=K) (a:=l) (xs:=ls.map V.ref) (fun i ys H'=>H'=H/\ys=(rows.take i).map fun _=>V.non) ⟨rfl,by simp⟩ (fun i ys H' _ z=>by rw[z.1];exact SqL.of hl) (szN (by rw[zyz];omega)) (fun i ys H' z=>by rw[z.2,zyz,z0u];omega) ?_ ?_
 ·rintro i x ys H' hx ⟨rfl,rfl⟩
  have hi:i<rows.length:=by
   have:=(zy0.mp hx).1;rw[zyz] at this;omega
  unfold tYes;dsimp only;rw[if_pos rfl];refine⟨rfl,?_⟩;rw[zzv hi,zy7];rfl
 ·rintro ys H' ⟨rfl,rfl⟩ lg hlg
  rw[zyz,hlen,zzh];have s1:=Ze (o:=.lst (rows.map fun _=>V.non)) hlg
  have e1:upd H' lg (.lst (rows.map fun _=>V.non)) lg=some (.lst (rows.map fun _=>V.non)):=Zb
  generalize upd H' lg (.lst (rows.map fun _=>V.non))=H1 at s1 e1
  refine⟨_,rfl,l,_,rfl,.inl (SqL.of (s1 _ _ hl)),_,rfl,by omega,by rw[zyz];omega,?_⟩
  rw[zyz,hlen,zzm]
  let jv6:Nat->L2.St->Hp->Prop:=fun i σ' Hx=>∃ (lg:Addr) (gs:List V) (v2:Option V),σ'=[some (.ref l),some (.ref lg),v2]/\Same H' Hx/\Hx lg=some (.lst gs)/\U2 rows gs i/\H' lg=none
  refine Ti jv6 ⟨lg,_,_,rfl,s1,e1,Ii rows,hlg⟩ ?_ ?_
  ·rintro i σ' Hx hi ⟨lg,gs,v2,rfl,sx,hgx,F,hn⟩
   rw[z1d];refine⟨_,rfl,⟨_,rfl,_,rfl,_,rfl,l,lg,ls,rows,nu,gs,i,rfl,sx _ _ hl,il.same sx,mo,hgx,F.fill,hi,F.non (zza _) hi,fun lt ts st e w H2 h1 h2 c s2 hltn=>?_⟩⟩
   refine⟨lg,lt,gs,ts,st,rfl,s2 _ _ hgx,h1,h2,fun s hs=>?_,F.fill.one,by rw[F.fill.len];omega,?_,fun l' H3 h3 s3 hl'=>?_⟩
   ·rw[F.fill.len];exact c.ch.lt F.fill hi s hs
   ·have:=c.len F.fill hi;omega
   ·exact⟨l',_,_,rfl,(sx.trans s2).trans s3,h3,F.step hi c,(sx.trans s2).free hl'⟩
  ·rintro σ' Hx ⟨lg,gs,v2,rfl,sx,hgx,F,hn⟩
   exact⟨_,rfl,h lg gs Hx hgx F.fill F.last sx hn⟩
noncomputable abbrev S9:Stmt:=top 50
theorem Cn:Zl ["given","number"] ["given","number"] (Zj S9):=fnS
theorem Co(F:Fun K "place_of" "place_of" S9 f fd)(T:Tx K mg a):Z3 P w K mg base (CX1 P w) 1 f fd ["given","number"] (Gj K):=by
 refine F.okX Cn (by walk_at "ar") fun _ _ _ _ H _ Q E hr h=>?_
 obtain⟨b,xs,n,rfl,hb,ho,hl,h⟩:=h;refine⟨_,(Zf (Zo (El (Zm (Pw (K:=K) rfl) (pv 1) (pv 0) (by with_unfolding_all rfl)) (zjg PySem.F.plainAttrs_list PySem.F.slot_list_index PySem.F.type_list_index zdr (pv 0) (Za (pv 1) Zd)) Y0))),?_⟩
 have fl:xs.all Sj=true:=z06.mpr fun x hx=>by rcases ho x hx with rfl|⟨_,rfl⟩<;>rfl
 refine⟨_,rfl,_,rfl,b,xs,rfl,.inl (SqL.of hb),rfl,fl,_,rfl,?_⟩;have key:=@zds xs n ho;show if inV (V.int n) xs=true then _ else _
 cases hp:Wr xs n with
 | none =>
   rw[hp] at h
   have hno:¬ inV (V.int n) xs=true:=fun z=>by
    obtain⟨j,hj⟩:=key.mp z;have:=List.find?_eq_none.mp hp j (zzx.mpr (zy0.mp hj).1);exact this (zy4 hj)
   rw[if_neg hno];exact h H (Same.refl H)
 | some j =>
   rw[hp] at h
   obtain⟨h1,h2,h3⟩:=List.find?_range_eq_some.mp hp;have hj:xs[j]?=some (.int n):=of_decide_eq_true h1;rw[if_pos (key.mpr ⟨j,hj⟩)];refine⟨_,rfl,?_,_,rfl,b,xs,.int n,j,rfl,rfl,hb,rfl,fl,⟨_,hj,(Kd (.inr ⟨_,rfl⟩)).mpr rfl⟩,fun m z hm hz=>?_,h H (Same.refl H)⟩
   ·exact .inl ⟨rfl,xs,SqL.of hb⟩
   ·have:=h3 m hm
    have hne:¬ z=.int n:=fun q=>by
     rw[q] at hz
     rw[zy4 hz] at this
     cases this
    cases hb2:eqV z (.int n) with
    | false=>rfl
    | true=>exact absurd ((Kd (ho z (zze hz))).mp hb2) hne
noncomputable abbrev Ww:Stmt:=Z4 (top 52) 0
theorem O9:Zl ["self","listed","lists","given","gaps"] ["self","listed","lists","given","gaps"] (Zj Ww):=fnS
theorem Na(F:Fun K "__init__" "Sheet.__init__" Ww f fd)(T:Tx K mg a):Z3 P w K mg base (CX1 P w) 1 f fd ["self","listed","lists","given","gaps"] (O3 (ca a)):=by
 refine F.okX O9 (by walk_at "ar") fun _ _ _ _ H _ Q E hr h=>?_
 obtain⟨q,dx,l1,l2,l3,l4,rfl,hq,h⟩:=h;refine⟨_,(Zc (Y5 (K:=K) rfl (pv 0) (pv 1) rfl)
 (Zc (Y5 (K:=K) rfl (pv 0) (pv 2) rfl)
 (Zc (Y5 (K:=K) rfl (pv 0) (pv 3) rfl)
 (Zf (Y5 (K:=K) rfl (pv 0) (pv 4) rfl))))),?_⟩
 refine⟨_,rfl,_,rfl,q,a.zkv,dx,[],rfl,hq,T.zk3,T.zml,(by decide),?_⟩
 refine⟨_,rfl,_,rfl,q,a.zkv,dx,[("listed",.ref l1)],rfl,Zb,T.zk3,T.zo0,(by show 1<1000;decide),?_⟩
 rw[zkg];refine⟨_,rfl,_,rfl,q,a.zkv,dx,_,rfl,Zb,T.zk3,T.zmy,(by show 2<1000;decide),?_⟩
 rw[zkh];refine⟨_,rfl,_,rfl,q,a.zkv,dx,_,rfl,Zb,T.zk3,T.zof,(by show 3<1000;decide),?_⟩
 rw[zki];refine h _ ?_;rw[Ka,Ka,Ka];rfl
noncomputable abbrev Vw:Stmt:=Z4 (top 52) 1
theorem Lu:Zl ["self","lists"] ["self","lists"] (Zj Vw):=fnS
theorem Lv(F:Fun K "barred" "Sheet.barred" Vw f fd)(T:Tx K mg a)(zna:Sx P w K mg base "Sheet" a.zkv 1 ["self","listed","lists","given","gaps"] (O3 (ca a))):Z3 P w K mg base (CX1 P w) 3 f fd ["self","lists"] (Dl (ca a)):=by
 refine F.okX Lu (by walk_at "ar") fun _ _ _ _ H _ Q E hr h=>?_
 obtain⟨ok,q,l2,ls,rows,s,rfl,SA,hl2,il,ok2,okl,no,h⟩:=h;refine⟨_,(Zf (Zo (Fd zna (hr.mono (by decide)) Zk rfl (Za (Zr (K:=K) rfl (pv 0) rfl) (Za (pv 1) (Za (Zr (K:=K) rfl (pv 0) rfl) (Za (Zr (K:=K) rfl (pv 0) rfl) Zd))))))),?_⟩
 obtain⟨dx,m1,m2,m3,m4,ts,ms,gts,a1,a2,a3,a4,a5,a6,a7,a8,o1,o2,o3,o4,o5,o6⟩:=id SA;refine⟨_,rfl,q,a.zkv,dx,_,_,rfl,a1,T.zk3,T.zml,Qv,_,rfl,_,rfl,q,a.zkv,dx,_,_,rfl,a1,T.zk3,T.zmy,Qa,_,rfl,q,a.zkv,dx,_,_,rfl,a1,T.zk3,T.zof,Fj,?_⟩;intro q' dx' hq' hdx' ne;refine⟨q',dx',m1,l2,m3,m4,rfl,Zb,fun H' e=>⟨rfl,?_⟩⟩
 obtain⟨s1,q1⟩:=P6 (C:=a.zkv) (l1:=m1) (l2:=l2) (l3:=m3) (l4:=m4) hq' hdx' ne;rw[<- e] at s1 q1
 exact h q' H' ⟨dx',m1,l2,m3,m4,ts,ls,gts,q1,s1 _ _ a2,a3.same s1,s1 _ _ hl2,il.same s1,s1 _ _ a6,s1 _ _ a7,a8.keep (fun _ _ _ z=>s1 _ _ z) (fun _ _ z=>s1 _ _ z),no _ hq',o2,ok2,o4,o5,okl⟩ s1 hq'
noncomputable abbrev X8:Stmt:=Z4 (top 52) 2
theorem Xw:Zl ["self","number","lists","place","gap","steps"] ["self","number","lists"] (Zj X8):=fnS
theorem Pd(F:Fun K "fallen_out" "Sheet.fallen_out" X8 f fd)(T:Tx K mg a)(zlt:Zx P w K mg base a.zkv "where" 2 ["self","number"] (N6 (ca a)))(zmr:Z7 P w K mg base "stepped" 1 ["given","steps"] (N5 K))(zok:Z7 P w K mg base "chain" 2 ["may","given","place"] (Fi K))(zna:Sx P w K mg base "Sheet" a.zkv 1 ["self","listed","lists","given","gaps"] (O3 (ca a))):Z3 P w K mg base (CX1 P w) 3 f fd ["self","number","lists"] (Dm (ca a)):=by
 refine F.okX Xw (by walk_at "ar") fun _ _ _ _ H _ Q E hr h=>?_
 obtain⟨ok,q,l2,ls,rows,nu,s,n,p,rfl,SA,hl2,il,ok2,okl,no,mo,ho,hgp,hun,FP,hgz,h⟩:=h;refine⟨_,(Zc (pS 3 Xw.nd (X2 (pv 0) T.zk3 zlt (hr.mono (by decide)) Zk (Za (pv 1) Zd)))
 (Zc (pS 4 Xw.nd (pF zmr hr (Za (Zr (K:=K) rfl (pv 0) rfl) (Za (Ya (Za (Yd (Za (pv 3) (Za Y0 Zd))) Zd)) Zd))))
 (Zc (pS 5 Xw.nd (pF zok hr (Za (pv 2) (Za (pv 4) (Za (pv 3) Zd)))))
 (Zf (Zo (Fd zna (hr.mono (by decide)) Zk rfl (Za (Zr (K:=K) rfl (pv 0) rfl) (Za (pv 2) (Za (pF zmr hr (Za (pv 4) (Za (pv 5) Zd))) (Za (Zp Ko (Zr (K:=K) rfl (pv 0) rfl) (Ya (Za (Yd (Za (pv 1) (Za (pv 5) Zd))) Zd))) Zd)))))))))),?_⟩
 obtain⟨dx,m1,m2,m3,m4,ts,ms,gts,a1,a2,a3,a4,a5,a6,a7,a8,o1,o2,o3,o4,o5,o6⟩:=id SA;have hrl:rows.length<=100:=zzg mo.few (by decide)
 have hgl:s.gv.length<=100:=by have:=FP.len;rw[z0q] at this;omega
 have hpl:p<s.gv.length:=(zy0.mp hgp).1;have hpr:p<rows.length:=by have:=FP.len;rw[z0q] at this;omega
 have hplace:Wr s.gv n=some p:=by
  unfold Wr;rw[List.find?_eq_some_iff_getElem];refine⟨zy4 hgp,p,by rw[z0g];exact hpl,by rw[List.getElem_range],fun j hj=>?_⟩
  rw[List.getElem_range,Bool.not_eq_true',decide_eq_false_iff_not];exact fun z=>absurd (hun j z) (by omega)
 refine⟨_,rfl,q,dx,_,rfl,a1,S5 (by decide +kernel) (by decide +kernel) (by decide +kernel) (by decide +kernel),_,rfl,ok,q,s,n,rfl,SA,ho,hgl,fun H1 s1=>?_⟩
 rw[hplace,show oN (some p)=V.int (p:Nat) from rfl]
 have SA1:=SA.same s1;refine⟨_,rfl,q,a.zkv,dx,_,_,rfl,s1 _ _ a1,T.zk3,T.zmy,Qa,_,rfl,sz2,fun t1 ht1=>⟨sz1,fun lx hlx=>?_⟩⟩
 have s2:=Ze (o:=.tup [.int (p:Nat),.non]) ht1;have q2:upd H1 t1 (.tup [.int (p:Nat),.non]) t1=some (.tup (V5 (p,none))):=Zb;generalize upd H1 t1 (.tup [.int (p:Nat),.non])=H2 at s2 q2 hlx
 have s3:=Ze (o:=.lst [V.ref t1]) hlx;have q3:upd H2 lx (.lst [V.ref t1]) lx=some (.lst [V.ref t1]):=Zb;have q23:=s3 _ _ q2;generalize upd H2 lx (.lst [V.ref t1])=H3 at s3 q3 q23
 have s13:=s1.trans (s2.trans s3);refine⟨m3,lx,s.gv,[V.ref t1],[(p,none)],rfl,s13 _ _ a6,q3,.cons q23 .nil,fun st hst=>by rw[zy3.mp hst];exact hpl,ho,hgl,by show 1<=100;decide,fun lg H4 hg4 s4 f4=>?_⟩
 have s14:=s13.trans s4;have hg4:H4 lg=some (.lst (s.gv.set p .non)):=hg4;refine⟨_,rfl,_,rfl,_,rfl,l2,lg,ls,rows,nu,s.gv.set p .non,p,rfl,s14 _ _ hl2,il.same s14,mo,hg4,FP,hpr,by rw[zz8 hpl],fun lt us st e w H5 hlt tl CR s5 f5=>?_⟩
 have s15:=s14.trans s5;have hst100:st.length<=100:=zzg (CR.len FP hpr) hrl;refine⟨_,rfl,q,a.zkv,dx,_,_,rfl,s15 _ _ a1,T.zk3,T.zml,Qv,_,rfl,_,rfl,_,rfl,lg,lt,s.gv.set p .non,us,st,rfl,s5 _ _ hg4,hlt,tl,fun x hx=>?_,FP.one,by rw[FP.len];exact hrl,hst100,fun l3 H6 h6 s6 f6=>?_⟩
 ·rw[FP.len];exact CR.ch.lt FP hpr x hx
 have s16:=s15.trans s6;refine⟨_,rfl,q,a.zkv,dx,_,_,rfl,s16 _ _ a1,T.zk3,T.zof,Fj,_,rfl,_,rfl,sz2,fun t2 ht2=>⟨sz1,fun ly hly=>?_⟩⟩
 have s7:=Ze (o:=.tup [.int n,.ref lt]) ht2;have q7:upd H6 t2 (.tup [.int n,.ref lt]) t2=some (.tup [.int n,.ref lt]):=Zb;generalize upd H6 t2 (.tup [.int n,.ref lt])=H7 at s7 q7 hly
 have s8:=Ze (o:=.lst [V.ref t2]) hly;have q8:upd H7 ly (.lst [V.ref t2]) ly=some (.lst [V.ref t2]):=Zb;have q78:=s8 _ _ q7;generalize upd H7 ly (.lst [V.ref t2])=H8 at s8 q8 q78
 have s18:=s16.trans (s7.trans s8);refine⟨m4,ly,gts,[V.ref t2],rfl,rfl,s18 _ _ a7,q8,by have:=a8.length;show gts.length+1<=sizeLine;have:=Tp;omega,fun l4 hl4=>?_⟩
 have s9:=Ze (o:=.lst (gts++[V.ref t2])) hl4;have q9:upd H8 l4 (.lst (gts++[V.ref t2])) l4=some (.lst (gts++[V.ref t2])):=Zb;generalize upd H8 l4 (.lst (gts++[V.ref t2]))=H9 at s9 q9
 have s19:=s18.trans s9;intro q' dx' hq' hdx' ne;refine⟨q',dx',m1,l2,l3,l4,rfl,Zb,fun H' e'=>⟨rfl,?_⟩⟩
 obtain⟨s10,q10⟩:=P6 (C:=a.zkv) (l1:=m1) (l2:=l2) (l3:=l3) (l4:=l4) hq' hdx' ne;rw[<- e'] at s10 q10
 have s:=s19.trans s10;have s6x:=s7.trans (s8.trans (s9.trans s10));have s5x:=s6.trans s6x;refine h q' st e w H' ⟨dx',m1,l2,l3,l4,ts,ls,gts++[V.ref t2],q10,s _ _ a2,a3.same s,s _ _ hl2,il.same s,s6x _ _ h6,s10 _ _ q9,?_,no _ (s19.free hq'),o2,ok2,no _ (s15.free f6),no _ (s18.free hl4),okl⟩ CR s (s19.free hq');exact(a8.keep (fun _ _ _ z=>s _ _ z) (fun _ _ z=>s _ _ z)).snoc ((s9.trans s10) _ _ q78) (s5x _ _ hlt) (tl.same s5x) (no _ (s14.free f5))
noncomputable abbrev W9:Stmt:=Z4 (top 52) 3
theorem Mh:Zl ["self"] ["self"] (Zj W9):=fnS
theorem Mi(F:Fun K "matches" "Sheet.matches" W9 f fd)(T:Tx K mg a):Z3 P w K mg base (CX1 P w) 1 f fd ["self"] (Mz (ca a)):=by
 refine F.okX Mh (by walk_at "ar") fun _ _ _ _ H _ Q E hr h=>?_
 obtain⟨ok,q,s,rfl,SA,h⟩:=h;refine⟨_,(Zf (Zo (Y9 (Xs (K:=K) rfl) (by rfl) T.zmb PyProof.Rows.boot_list (Za (Zr (K:=K) rfl (pv 0) rfl) Zd)))),?_⟩
 obtain⟨dx,m1,m2,m3,m4,ts,ms,gts,a1,a2,a3,a4,a5,a6,a7,a8,o1,o2,o3,o4,o5,o6⟩:=id SA;refine⟨_,rfl,q,a.zkv,dx,_,_,rfl,a1,T.zk3,T.zml,Qv,m1,_,rfl,.inl (SqL.of a2),fun l hl=>?_⟩
 exact h l ts _ Zb (a3.same (Ze hl)) (Ze hl) hl
noncomputable abbrev Tb:Stmt:=Z4 (top 52) 7
theorem Iu:Zl ["self"] ["self"] (Zj Tb):=fnS
theorem Iv(F:Fun K "goes" "Sheet.goes" Tb f fd)(T:Tx K mg a):Z3 P w K mg base (CX1 P w) 1 f fd ["self"] (Ky (ca a)):=by
 refine F.okX Iu (by walk_at "ar") fun _ _ _ _ H _ Q E hr h=>?_
 obtain⟨ok,q,s,rfl,SA,h⟩:=h;refine⟨_,(Zf (Zo (Y9 (Xs (K:=K) rfl) (by rfl) T.zmb PyProof.Rows.boot_list (Za (Zr (K:=K) rfl (pv 0) rfl) Zd)))),?_⟩
 obtain⟨dx,m1,m2,m3,m4,ts,ms,gts,a1,a2,a3,a4,a5,a6,a7,a8,o1,o2,o3,o4,o5,o6⟩:=id SA;refine⟨_,rfl,q,a.zkv,dx,_,_,rfl,a1,T.zk3,T.zmy,Qa,m3,_,rfl,.inl (SqL.of a6),fun l hl=>?_⟩
 exact h l _ Zb (Ze hl) hl
noncomputable abbrev Ui:Stmt:=Z4 (top 52) 8
theorem Js:Zl ["self","number"] ["self","number"] (Zj Ui):=fnS
theorem Jt(F:Fun K "where" "Sheet.where" Ui f fd)(T:Tx K mg a)(zon:Z7 P w K mg base "place_of" 1 ["given","number"] (Gj K)):Z3 P w K mg base (CX1 P w) 2 f fd ["self","number"] (N6 (ca a)):=by
 refine F.okX Js (by walk_at "ar") fun _ _ _ _ H _ Q E hr h=>?_
 obtain⟨ok,q,s,n,rfl,SA,ho,hgl,h⟩:=h;refine⟨_,(Zf (Zo (pF zon hr (Za (Zr (K:=K) rfl (pv 0) rfl) (Za (pv 1) Zd))))),?_⟩;obtain⟨dx,m1,m2,m3,m4,ts,ms,gts,a1,a2,a3,a4,a5,a6,a7,a8,o1,o2,o3,o4,o5,o6⟩:=id SA;exact⟨_,rfl,q,a.zkv,dx,_,_,rfl,a1,T.zk3,T.zmy,Qa,_,rfl,m3,s.gv,n,rfl,a6,ho,hgl,fun H' s'=>h H' s'⟩
noncomputable abbrev Vx:Stmt:=Z4 (top 52) 11
theorem Lw:Zl ["self"] ["self"] (Zj Vx):=fnS
theorem Ly(F:Fun K "chains" "Sheet.chains" Vx f fd)(T:Tx K mg a):Z3 P w K mg base (CX1 P w) 1 f fd ["self"] (Kz (ca a)):=by
 refine F.okX Lw (by walk_at "ar") fun _ _ _ _ H _ Q E hr h=>?_
 obtain⟨ok,q,s,rfl,SA,hgz,h⟩:=h;refine⟨_,(Zf (Zo (Kw rfl (Oz.mk (xo:=["number","steps"]) (ys:=[]) (js:=[]) rfl rfl (by decide +kernel) (by decide +kernel) rfl (by repeat' (first|exact True.intro|apply And.intro|rfl)) (by repeat' (first|exact True.intro|apply And.intro|rfl)) (by decide +kernel)) (Yf (K:=K) rfl (Zr (K:=K) rfl (pv 0) rfl)) (fun _ _ _ _ _=>Uc) (fun _ _ _ _ _=>(Wi (K:=K) (n:=2) rfl rfl (Z0 (U0 (i:=0) (show List.Nodup [("number":Str),("steps":Str)] by decide +kernel) rfl (by first|exact Or.inl rfl|exact Or.inr rfl)) (Z0 (U0 (i:=1) (show List.Nodup [("number":Str),("steps":Str)] by decide +kernel) rfl (by first|exact Or.inl rfl|exact Or.inr rfl)) Wg)))) (fun _ _ _ _ _=>(Yd (Za (pv 0) (Za (Y9 (Xs (K:=K) rfl) (by rfl) T.zmb PyProof.Rows.boot_list (Za (pv 1) Zd)) Zd))))))),?_⟩
 obtain⟨dx,m1,m2,m3,m4,ts,ms,gts,a1,a2,a3,a4,a5,a6,a7,a8,o1,o2,o3,o4,o5,o6⟩:=id SA;have hgts:=a8.length;refine⟨_,rfl,q,a.zkv,dx,_,_,rfl,a1,T.zk3,T.zof,Fj,m4,rfl,⟨_,SqL.of a7⟩,?_⟩;refine K0 (K:=K) (xs:=gts) (fun i ys H'=>Same H H'/\Wn (fun x=>H x=none) H' ys (s.gaps.take i)/\ys.length=i) ⟨Same.refl _,.nil,rfl⟩ (fun i ys H' _ ⟨s',_⟩=>SqL.of (s' _ _ a7)) (szN (by omega)) (fun i ys H' ⟨_,_,e⟩=>by omega) ?_ ?_
 ·rintro i x ys H' hx ⟨s1,gl,hyl⟩
  obtain⟨t,l,n,us,st,rfl,hgi,ht,hl,tl,_⟩:=a8.get hx;have ht1:=s1 _ _ ht;have hl1:=s1 _ _ hl;refine⟨t,_,rfl,SqT.of ht1,rfl,_,_,rfl,_,_,rfl,rfl,⟨[some (.int n),some (.ref l)],rfl,rfl⟩,?_⟩;unfold tYes;dsimp only;rw[if_pos rfl];refine⟨_,rfl,_,rfl,l,_,rfl,.inl (SqL.of hl1),fun l2 hl2=>?_⟩
  have s2:=Ze (o:=.lst us) hl2;have q2:upd H' l2 (.lst us) l2=some (.lst us):=Zb;have f2:H l2=none:=s1.free hl2;generalize upd H' l2 (.lst us)=H2 at s2 q2
  refine⟨sz2,fun t2 ht2=>?_⟩
  have s3:=Ze (o:=.tup [.int n,.ref l2]) ht2;have s23:=s2.trans s3;refine⟨s1.trans s23,?_,by rw[zy2,hyl];rfl⟩
  have e:s.gaps.take (i+1)=s.gaps.take i++[(n,st)]:=by rw[zz6,hgi];rfl
  rw[e];exact(gl.keep (fun _ _ _ z=>s23 _ _ z) (fun _ _ z=>s23 _ _ z)).snoc Zb (s3 _ _ q2) (tl.same (s1.trans s23)) f2
 ·rintro ys H' ⟨s1,gl,hyl⟩ l hl
  rw[hgts,zzh] at gl
  refine h l ys _ Zb ?_ (s1.trans (Ze hl)) (s1.free hl);exact(gl.imp (ok':=fun x=>H x=none/\x≠l) fun x ⟨o,e⟩ z=>⟨z,Zg e hl⟩).keep (fun _ _ _ z=>Ze hl _ _ z) (fun _ _ z=>Ze hl _ _ z)
noncomputable abbrev Tc:Stmt:=Z4 (top 52) 12
theorem Iw:Zl ["self"] ["self"] (Zj Tc):=fnS
theorem Iy(F:Fun K "rows" "Sheet.rows" Tc f fd)(T:Tx K mg a):Z3 P w K mg base (CX1 P w) 1 f fd ["self"] (Dq (ca a)):=by
 refine F.okX Iw (by walk_at "ar") fun _ _ _ _ H _ Q E hr h=>?_
 obtain⟨ok,q,s,rfl,SA,ho,hgl,hml,h⟩:=h;refine⟨_,(Zf (Zo (Kw rfl (Oz.mk (xo:=["match","number"]) (ys:=[]) (js:=[]) rfl rfl (by decide +kernel) (by decide +kernel) rfl (by repeat' (first|exact True.intro|apply And.intro|rfl)) (by repeat' (first|exact True.intro|apply And.intro|rfl)) (by decide +kernel)) (zh3 (K:=K) rfl rfl T.zqd (Za (Zr (K:=K) rfl (pv 0) rfl) (Za (Zr (K:=K) rfl (pv 0) rfl) Zd))) (fun _ _ _ _ _=>Uc) (fun _ _ _ _ _=>(Wi (K:=K) (n:=2) rfl rfl (Z0 (U0 (i:=0) (show List.Nodup [("match":Str),("number":Str)] by decide +kernel) rfl (by first|exact Or.inl rfl|exact Or.inr rfl)) (Z0 (U0 (i:=1) (show List.Nodup [("match":Str),("number":Str)] by decide +kernel) rfl (by first|exact Or.inl rfl|exact Or.inr rfl)) Wg)))) (fun _ _ _ _ _=>(Zp (Dj (K:=K) rfl) (pv 0) (Yd (Za (pv 1) Zd))))))),?_⟩
 obtain⟨dx,m1,m2,m3,m4,ts,ms,gts,a1,a2,a3,a4,a5,a6,a7,a8,o1,o2,o3,o4,o5,o6⟩:=id SA;have hts:ts.length=s.ms.length:=by rw[a3.length,zyz]
 refine⟨_,rfl,q,a.zkv,dx,_,_,rfl,a1,T.zk3,T.zml,Qv,_,rfl,q,a.zkv,dx,_,_,rfl,a1,T.zk3,T.zmy,Qa,m1,m3,rfl,⟨_,SqL.of a2⟩,⟨_,SqL.of a6⟩,?_⟩;refine zbq (K:=K) (xs:=ts) (zs:=s.gv) (fun i ys H'=>Same H H'/\TupL H' ys (((Ye s).take i).map Fg)/\ys.length=i) ⟨Same.refl _,.nil,rfl⟩ (by omega) (fun i ys H' _ ⟨s',_⟩=>⟨SqL.of (s' _ _ a2),SqL.of (s' _ _ a6)⟩) (szN (by omega)) (fun i ys H' ⟨_,_,e⟩=>by omega) ?_ ?_
 ·rintro i x z t ys H' hx hz ⟨s1,tl,hyl⟩ ht
  obtain⟨tm,m,rfl,hm,htm⟩:=Ks a3 hx;have oz:=ho z (zze hz);have s2:=s1.trans (Ze (o:=.tup [.ref tm,z]) ht);have tl2:=tl.same (Ze (o:=.tup [.ref tm,z]) ht);have q2:upd H' t (.tup [.ref tm,z]) t=some (.tup [.ref tm,z]):=Zb;generalize upd H' t (.tup [.ref tm,z])=H2 at s2 tl2 q2
  refine⟨t,_,rfl,SqT.of q2,rfl,_,_,rfl,_,_,rfl,rfl,⟨[some (.ref tm),some z],rfl,rfl⟩,?_⟩;unfold tYes;dsimp only;rw[if_pos rfl];refine⟨_,rfl,_,rfl,sz1,fun t1 ht1=>?_⟩
  have s3:=Ze (o:=.tup [z]) ht1;have q3:upd H2 t1 (.tup [z]) t1=some (.tup [z]):=Zb;generalize upd H2 t1 (.tup [z])=H3 at s3 q3
  refine⟨tm,t1,_,_,rfl,rfl,SqT.of ((s2.trans s3) _ _ htm),SqT.of q3,by unfold pV;simp,by show 3+1<=sizeLine;exact sz4,fun z=>absurd z (by simp),fun _ t2 ht2=>?_⟩
  have s4:=Ze (o:=.tup (pV m++[z])) ht2;refine⟨s2.trans (s3.trans s4),?_,by rw[zy2,hyl];rfl⟩
  rw[zbr hm hz,zy7];refine((tl2.same s3).same s4).snoc ?_;rw[Zb,zh8 m oz];rfl
 ·rintro ys H' ⟨s1,tl,hyl⟩ l hl
  rw[hts,<- Dr hgl,zzh] at tl
  exact h l ys _ Zb (tl.same (Ze hl)) (s1.trans (Ze hl)) (s1.free hl)
noncomputable abbrev Uj:Stmt:=top 53
theorem Ju:Zl ["listed","lists"] ["listed","lists"] (Zj Uj):=fnS
theorem Jv(F:Fun K "drawn_sheet" "drawn_sheet" Uj f fd)(T:Tx K mg a)(zna:Sx P w K mg base "Sheet" a.zkv 1 ["self","listed","lists","given","gaps"] (O3 (ca a)))(zqf:Z7 P w K mg base "fill" 3 ["may"] (zdo K)):Z3 P w K mg base (CX1 P w) 4 f fd ["listed","lists"] (zad (ca a)):=by
 refine F.okX Ju (by walk_at "ar") fun _ _ _ _ H _ Q E hr h=>?_
 obtain⟨ok,l1,l2,ts,ls,ms,rows,nu,rfl,hl1,tl,hl2,il,ok1,ok2,okl,no,mo,h⟩:=h;refine⟨_,(Zf (Zo (Fd zna (hr.mono (by decide)) Zk rfl (Za (pv 0) (Za (pv 1) (Za (pF zqf hr (Za (pv 1) Zd)) (Za (Ya Zd) Zd))))))),?_⟩
 refine⟨_,rfl,_,rfl,_,rfl,l2,ls,rows,nu,rfl,hl2,il,mo,fun l3 gv H1 h3 FP SP s1 f3=>?_⟩
 refine⟨by show 0<=sizeLine;decide,fun l4 hl4=>?_⟩
 have s2:=Ze (o:=.lst []) hl4;have q2:upd H1 l4 (.lst []) l4=some (.lst []):=Zb;generalize upd H1 l4 (.lst [])=H2 at s2 q2
 have s12:=s1.trans s2;intro q dx hq hdx ne;refine⟨q,dx,l1,l2,l3,l4,rfl,Zb,fun H' e=>⟨rfl,?_⟩⟩
 obtain⟨s3,q3⟩:=P6 (C:=a.zkv) (l1:=l1) (l2:=l2) (l3:=l3) (l4:=l4) hq hdx ne;rw[<- e] at s3 q3
 have s:=s12.trans s3;exact h q gv H' ⟨dx,l1,l2,l3,l4,ts,ls,[],q3,s _ _ hl1,tl.same s,s _ _ hl2,il.same s,s3 _ _ (s2 _ _ h3),s3 _ _ q2,.nil,no _ (s12.free hq),ok1,ok2,no _ f3,no _ (s1.free hl4),okl⟩ FP SP s (s12.free hq)
noncomputable abbrev Wl:Stmt:=Z4 (top 55) 0
theorem Oj:Zl ["self","rounds","rest"] ["self","rounds","rest"] (Zj Wl):=fnS
theorem Ol(F:Fun K "__init__" "Season.__init__" Wl f fd)(T:Tx K mg a)(zky:Z7 P w K mg base "check_range" 1 ["value","least","most"] (O2 a.zk7))(zps:Sx P w K mg base "Roster" a.zku 1 ["self"] (zab (ca a)))(zpv:Sx P w K mg base "Ledger" a.zkt 1 ["self"] (A5 a.zkt)):Z3 P w K mg base (CX1 P w) 3 f fd ["self","rounds","rest"] (zae (ca a)):=by
 refine F.okX Oj (by walk_at "ar") fun _ _ _ _ H _ Q E hr h=>?_
 obtain⟨p,dx,r,q,rfl,hp,sr,sq,h⟩:=h;refine⟨_,(Zc (Z6 (pF zky hr (Za (pv 1) (Za Zi (Za (Wh rfl T.zl8) Zd)))))
 (Zc (Z6 (pF zky hr (Za (pv 2) (Za Zi (Za (Wh rfl T.zm1) Zd)))))
 (Zc (Y5 (K:=K) rfl (pv 0) (pv 1) rfl)
 (Zc (Y5 (K:=K) rfl (pv 0) (pv 2) rfl)
 (Zc (Y5 (K:=K) rfl (pv 0) (Aw zps (hr.mono (by decide)) Zk rfl) rfl)
 (Zc (Y5 (K:=K) rfl (pv 0) (Aw zpv (hr.mono (by decide)) Zk rfl) rfl)
 (Zc (Y5 (K:=K) rfl (pv 0) Ot rfl)
 (Zc (Y5 (K:=K) rfl (pv 0) (Ya Zd) rfl)
 (Zc (Y5 (K:=K) rfl (pv 0) Y0 rfl)
 (Zf (Y5 (K:=K) rfl (pv 0) (Ya Zd) rfl))))))))))),?_⟩
 show let y1:TS:=_;let y2:TS:=Zz _ y1;let y3:TS:=Zz _ y2;let y4:TS:=Zz _ y3;let y5:TS:=Zz _ y4;let y6:TS:=Zz _ y5;let y7:TS:=Zz _ y6;let y8:TS:=Zz _ y7;let y9:TS:=Zz _ y8;Zz _ y9 _ _ _;intro y1 y2 y3 y4 y5 y6 y7 y8 y9;refine⟨_,rfl,r,0,60,rfl,sr,Yg (by decide),Yg (by decide),?_⟩
 refine it2 h (fun _ z=>z) fun h1 h=>?_
 refine⟨_,rfl,q,0,10,rfl,sq,Yg (by decide),Yg (by decide),?_⟩
 refine it2 h (fun _ z=>z) fun h2 hF=>?_
 have er:r=((r.toNat:Nat):Int):=by omega
 have eq':q=((q.toNat:Nat):Int):=by omega
 generalize r.toNat=rn at hF er
 generalize q.toNat=qn at hF eq'
 subst er eq';refine⟨_,rfl,_,rfl,p,a.zkq,dx,_,rfl,hp,T.zkr,T.znf,(by show 0<1000;decide),?_⟩
 rw[pF1];refine⟨_,rfl,_,rfl,p,a.zkq,dx,_,rfl,Zb,T.zkr,T.zpb,(by show 1<1000;decide),?_⟩
 rw[pF2,Ka];have b1:Vp p H (upd H p (.ins a.zkq dx (sF2 (.int rn) (.int qn)))):=.put;have q1:upd H p (.ins a.zkq dx (sF2 (.int rn) (.int qn))) p=some (.ins a.zkq dx (sF2 (.int rn) (.int qn))):=Zb;generalize upd H p (.ins a.zkq dx (sF2 (.int rn) (.int qn)))=H1 at b1 q1
 intro pr dxr hpr hdxr ne;refine⟨pr,dxr,rfl,Zb,fun dr hdr=>⟨rfl,?_⟩⟩
 have ndp:dr≠pr:=fun z=>by rw[z,Zb] at hdr;cases hdr
 have ndx:dr≠dxr:=fun z=>by rw[z,Zh ne,Zb] at hdr;cases hdr
 have hdr1:H1 dr=none:=by rw[Zh ndp,Zh ndx] at hdr;exact hdr
 have s2:Same H1 (upd (upd (upd (upd H1 dxr (.own pr)) pr (.ins a.zku dxr [])) dr (.dK [])) pr (.ins a.zku dxr [("entries",.ref dr)])):=fun b o e=>by
  rw[Zh (Zg e hpr),Zh (Zg e hdr1),Zh (Zg e hpr),Zh (Zg e hdxr)];exact e
 have R2:Xj a.zku (upd (upd (upd (upd H1 dxr (.own pr)) pr (.ins a.zku dxr [])) dr (.dK [])) pr (.ins a.zku dxr [("entries",.ref dr)])) pr dr []:=⟨⟨dxr,[],Zb,by rw[Zh ndp,Zb],.nil⟩,z0p⟩
 generalize upd (upd (upd (upd H1 dxr (.own pr)) pr (.ins a.zku dxr [])) dr (.dK [])) pr (.ins a.zku dxr [("entries",.ref dr)])=H2 at s2 R2
 refine⟨_,rfl,p,a.zkq,dx,_,rfl,s2 _ _ q1,T.zkr,T.zls,(by show 2<1000;decide),?_⟩
 rw[pF3];have np2:pr≠p/\dr≠p:=⟨Ne.symm (Zg q1 hpr),Ne.symm (Zg q1 hdr1)⟩;have b3:Vp p H (upd H2 p (.ins a.zkq dx (sF3 (.int rn) (.int qn) (.ref pr)))):=b1.trans ((Vp.of s2).trans .put);have q3:upd H2 p (.ins a.zkq dx (sF3 (.int rn) (.int qn) (.ref pr))) p=some (.ins a.zkq dx (sF3 (.int rn) (.int qn) (.ref pr))):=Zb;have kt3:∀ t xs,H2 t=some (.tup xs)->upd H2 p (.ins a.zkq dx (sF3 (.int rn) (.int qn) (.ref pr))) t=some (.tup xs):=fun t xs e=>by rw[Zh (Ym e (s2 _ _ q1) (fun z=>nomatch z))];exact e
 have R3:=R2.keep (H':=upd H2 p (.ins a.zkq dx (sF3 (.int rn) (.int qn) (.ref pr)))) (fun o e=>by rw[Zh np2.1];exact e) (fun o e=>by rw[Zh np2.2];exact e) kt3
 have fdr:H dr=none:=Vp.free b1 ⟨_,q1⟩ hdr1;have hr2:H2 dr=some (.dK [])/\∃ o,H2 pr=some o:=by
  obtain⟨⟨x,kv,z1,z2,z3⟩,_⟩:=R2;cases z3;exact⟨z2,_,z1⟩
 generalize upd H2 p (.ins a.zkq dx (sF3 (.int rn) (.int qn) (.ref pr)))=H3 at b3 q3 R3
 intro pl dxl hpl hdxl nel;refine⟨pl,dxl,rfl,Zb,fun lr ld H4 L0 k0 f0 g0 n0=>⟨rfl,?_⟩⟩
 obtain⟨s4,fr0,fd0⟩:=zdl hpl hdxl nel k0 f0 g0;refine⟨_,rfl,p,a.zkq,dx,_,rfl,s4 _ _ q3,T.zkr,T.zly,(by show 3<1000;decide),?_⟩
 rw[pF4];have q4:=s4 _ _ q3;have np4:pl≠p/\lr≠p/\ld≠p:=⟨Ne.symm (Zg q3 hpl),Ne.symm (Zg q3 fr0),Ne.symm (Zg q3 fd0)⟩;have b5:Vp p H (upd H4 p (.ins a.zkq dx (sF4 (.int rn) (.int qn) (.ref pr) (.ref pl)))):=b3.trans ((Vp.of s4).trans .put);have q5:upd H4 p (.ins a.zkq dx (sF4 (.int rn) (.int qn) (.ref pr) (.ref pl))) p=some (.ins a.zkq dx (sF4 (.int rn) (.int qn) (.ref pr) (.ref pl))):=Zb;have kt5:∀ t xs,H4 t=some (.tup xs)->upd H4 p (.ins a.zkq dx (sF4 (.int rn) (.int qn) (.ref pr) (.ref pl))) t=some (.tup xs):=fun t xs e=>by rw[Zh (Ym e q4 (fun z=>nomatch z))];exact e
 have R5:=(R3.same s4).keep (H':=upd H4 p (.ins a.zkq dx (sF4 (.int rn) (.int qn) (.ref pr) (.ref pl)))) (fun o e=>by rw[Zh np2.1];exact e) (fun o e=>by rw[Zh np2.2];exact e) kt5
 have L5:=L0.keep (H':=upd H4 p (.ins a.zkq dx (sF4 (.int rn) (.int qn) (.ref pr) (.ref pl)))) (fun o e=>by rw[Zh np4.1];exact e) (fun o e=>by rw[Zh np4.2.1];exact e) (fun o e=>by rw[Zh np4.2.2];exact e) kt5
 have flr:H lr=none:=Vp.free b3 ⟨_,q3⟩ fr0;have fld:H ld=none:=Vp.free b3 ⟨_,q3⟩ fd0;have nrp:pr≠pl/\dr≠pl/\pr≠lr/\dr≠lr/\pr≠ld/\dr≠ld:=by
  obtain⟨⟨x,kv,z1,z2,_⟩,_⟩:=R3;exact⟨Zg z1 hpl,Zg z2 hpl,Zg z1 fr0,Zg z2 fr0,Zg z1 fd0,Zg z2 fd0⟩
 generalize upd H4 p (.ins a.zkq dx (sF4 (.int rn) (.int qn) (.ref pr) (.ref pl)))=H5 at b5 q5 R5 L5
 intro da hda;have npa:da≠p:=Ne.symm (Zg q5 hda);refine⟨_,rfl,p,a.zkq,dx,_,rfl,Ze (o:=.dT []) hda _ _ q5,T.zkr,T.zmm,(by show 4<1000;decide),?_⟩
 rw[pF5];have b7:Vp p H5 (upd (upd H5 da (.dT [])) p (.ins a.zkq dx (sF5 (.int rn) (.int qn) (.ref pr) (.ref pl) (.ref da)))):=(Vp.of (Ze hda)).trans .put;have q7:upd (upd H5 da (.dT [])) p (.ins a.zkq dx (sF5 (.int rn) (.int qn) (.ref pr) (.ref pl) (.ref da))) p=some (.ins a.zkq dx (sF5 (.int rn) (.int qn) (.ref pr) (.ref pl) (.ref da))):=Zb;have d7:upd (upd H5 da (.dT [])) p (.ins a.zkq dx (sF5 (.int rn) (.int qn) (.ref pr) (.ref pl) (.ref da))) da=some (.dT []):=by rw[Zh npa,Zb]
 generalize upd (upd H5 da (.dT [])) p (.ins a.zkq dx (sF5 (.int rn) (.int qn) (.ref pr) (.ref pl) (.ref da)))=H7 at b7 q7 d7
 refine⟨by show 0<=sizeLine;decide,fun ls hls=>?_⟩
 have nps:ls≠p:=Ne.symm (Zg q7 hls);refine⟨_,rfl,p,a.zkq,dx,_,rfl,Ze (o:=.lst []) hls _ _ q7,T.zkr,T.znc,(by show 5<1000;decide),?_⟩
 rw[pF6];have b9:Vp p H7 (upd (upd H7 ls (.lst [])) p (.ins a.zkq dx (sF6 (.int rn) (.int qn) (.ref pr) (.ref pl) (.ref da) (.ref ls)))):=(Vp.of (Ze hls)).trans .put;have q9:upd (upd H7 ls (.lst [])) p (.ins a.zkq dx (sF6 (.int rn) (.int qn) (.ref pr) (.ref pl) (.ref da) (.ref ls))) p=some (.ins a.zkq dx (sF6 (.int rn) (.int qn) (.ref pr) (.ref pl) (.ref da) (.ref ls))):=Zb;have l9:upd (upd H7 ls (.lst [])) p (.ins a.zkq dx (sF6 (.int rn) (.int qn) (.ref pr) (.ref pl) (.ref da) (.ref ls))) ls=some (.lst []):=by rw[Zh nps,Zb]
 generalize upd (upd H7 ls (.lst [])) p (.ins a.zkq dx (sF6 (.int rn) (.int qn) (.ref pr) (.ref pl) (.ref da) (.ref ls)))=H9 at b9 q9 l9
 refine⟨_,rfl,p,a.zkq,dx,_,rfl,q9,T.zkr,T.zle,(by show 6<1000;decide),?_⟩
 rw[pF7];have b10:Vp p H9 (upd H9 p (.ins a.zkq dx (sF7 (.int rn) (.int qn) (.ref pr) (.ref pl) (.ref da) (.ref ls) .non))):=.put;have q10:upd H9 p (.ins a.zkq dx (sF7 (.int rn) (.int qn) (.ref pr) (.ref pl) (.ref da) (.ref ls) .non)) p=some (.ins a.zkq dx (sF7 (.int rn) (.int qn) (.ref pr) (.ref pl) (.ref da) (.ref ls) .non)):=Zb;generalize upd H9 p (.ins a.zkq dx (sF7 (.int rn) (.int qn) (.ref pr) (.ref pl) (.ref da) (.ref ls) .non))=H10 at b10 q10
 refine⟨by show 0<=sizeLine;decide,fun lt hlt=>?_⟩
 have npt:lt≠p:=Ne.symm (Zg q10 hlt);refine⟨_,rfl,p,a.zkq,dx,_,rfl,Ze (o:=.lst []) hlt _ _ q10,T.zkr,T.zlm,(by show 7<1000;decide),?_⟩
 rw[pF8];have b12:Vp p H10 (upd (upd H10 lt (.lst [])) p (.ins a.zkq dx (sF8 (.int rn) (.int qn) (.ref pr) (.ref pl) (.ref da) (.ref ls) .non (.ref lt)))):=(Vp.of (Ze hlt)).trans .put;have q12:upd (upd H10 lt (.lst [])) p (.ins a.zkq dx (sF8 (.int rn) (.int qn) (.ref pr) (.ref pl) (.ref da) (.ref ls) .non (.ref lt))) p=some (.ins a.zkq dx (sF8 (.int rn) (.int qn) (.ref pr) (.ref pl) (.ref da) (.ref ls) .non (.ref lt))):=Zb;have l12:upd (upd H10 lt (.lst [])) p (.ins a.zkq dx (sF8 (.int rn) (.int qn) (.ref pr) (.ref pl) (.ref da) (.ref ls) .non (.ref lt))) lt=some (.lst []):=by rw[Zh npt,Zb]
 generalize upd (upd H10 lt (.lst [])) p (.ins a.zkq dx (sF8 (.int rn) (.int qn) (.ref pr) (.ref pl) (.ref da) (.ref ls) .non (.ref lt)))=H12 at b12 q12 l12
 have b912:=b10.trans b12;have b712:=b9.trans b912;have b512:=b7.trans b712;have bb:=b5.trans b512;have kt:∀ t xs,H5 t=some (.tup xs)->H12 t=some (.tup xs):=fun t xs e=>b512 t _ e (Ym e q5 (fun z=>nomatch z))
 have R12:=R5.keep (fun o e=>b512 _ o e np2.1) (fun o e=>b512 _ o e np2.2) kt
 have L12:=L5.keep (fun o e=>b512 _ o e np4.1) (fun o e=>b512 _ o e np4.2.1) (fun o e=>b512 _ o e np4.2.2) kt
 have d12:=b712 _ _ d7 npa;have l912:=b912 _ _ l9 nps;have fda:H da=none:=Vp.free b5 ⟨_,q5⟩ hda;have fls:H ls=none:=Vp.free (b5.trans b7) ⟨_,q7⟩ hls;have flt:H lt=none:=Vp.free (b5.trans (b7.trans (b9.trans b10))) ⟨_,q10⟩ hlt;have ex5:(∃ o,H5 pr=some o)/\(∃ o,H5 dr=some o)/\(∃ o,H5 pl=some o)/\(∃ o,H5 lr=some o)/\(∃ o,H5 ld=some o):=by
  obtain⟨⟨x,kv,z1,z2,_⟩,_⟩:=id R5;obtain⟨⟨y,w1⟩,⟨rs,w2,_⟩,⟨ks,w3,_⟩⟩:=id L5;exact⟨⟨_,z1⟩,⟨_,z2⟩,⟨_,w1⟩,⟨_,w2⟩,⟨_,w3⟩⟩
 have n5:∀ {x y:Addr},(∃ o,H5 x=some o)->H5 y=none->x≠y:=fun ⟨o,e⟩ hy=>Zg e hy
 have fls5:H5 ls=none:=Vp.free b7 ⟨_,q7⟩ hls;have flt5:H5 lt=none:=Vp.free (b7.trans (b9.trans b10)) ⟨_,q10⟩ hlt;have ndas:da≠ls:=Zg d7 hls;have ndat:da≠lt:=Zg (b10 _ _ (b9 _ _ d7 npa) npa) hlt;have nst:ls≠lt:=Zg (b10 _ _ l9 nps) hlt;obtain⟨e1,e2,e3,e4,e5⟩:=ex5;have nrl:lr≠ld:=n0;refine hF ⟨p,pr,dr,pl,lr,ld,da,ls,lt⟩ H12 rfl ⟨⟨dx,.non,q12,rfl⟩,R12,L12,⟨[],d12,fun i n=>rfl,zza _⟩,⟨[],l912,.nil⟩,⟨[],l12,.nil⟩,?_,?_⟩ bb ?_
 ·show [p,dr,lr,ld,da,ls,lt].Nodup
  simp only[zzo,zy8,zzz,or_false,not_or];exact⟨⟨Ne.symm np2.2,Ne.symm np4.2.1,Ne.symm np4.2.2,Ne.symm npa,Ne.symm nps,Ne.symm npt⟩,⟨nrp.2.2.2.1,nrp.2.2.2.2.2,n5 e2 hda,n5 e2 fls5,n5 e2 flt5⟩,⟨nrl,n5 e4 hda,n5 e4 fls5,n5 e4 flt5⟩,⟨n5 e5 hda,n5 e5 fls5,n5 e5 flt5⟩,⟨ndas,ndat⟩,nst,by simp,z0p⟩
 ·have hpr5:∃ x fs,H5 pr=some (.ins a.zku x fs):=by obtain⟨⟨x,kv,z1,_⟩,_⟩:=R5;exact⟨_,_,z1⟩
  have hdr5:∃ kv,H5 dr=some (.dK kv):=by obtain⟨⟨x,kv,_,z2,_⟩,_⟩:=R5;exact⟨_,z2⟩
  have hpl5:∃ x fs,H5 pl=some (.ins a.zkt x fs):=by obtain⟨⟨y,w1⟩,_⟩:=L5;exact⟨_,_,w1⟩
  obtain⟨x1,y1,z1⟩:=hpr5;obtain⟨y2,z2⟩:=hdr5;obtain⟨x3,y3,z3⟩:=hpl5;obtain⟨_,⟨rs,w2,_⟩,⟨ks,w3,_⟩⟩:=id L5;have nm:∀ m,m∈([p,dr,lr,ld,da,ls,lt]:List Addr)↔m=p\/m=dr\/m=lr\/m=ld\/m=da\/m=ls\/m=lt:=fun m=>by simp
  refine⟨fun hm=>?_,fun hm=>?_⟩
  ·rcases(nm _).mp hm with q|q|q|q|q|q|q
   ·exact np2.1 q
   ·exact Ym z1 z2 (fun z=>nomatch z) q
   ·exact nrp.2.2.1 q
   ·exact nrp.2.2.2.2.1 q
   ·exact n5 e1 hda q
   ·exact n5 e1 fls5 q
   ·exact n5 e1 flt5 q
  ·rcases(nm _).mp hm with q|q|q|q|q|q|q
   ·exact np4.1 q
   ·exact nrp.2.1 q.symm
   ·exact Ym z3 w2 (fun z=>nomatch z) q
   ·exact Ym z3 w3 (fun z=>nomatch z) q
   ·exact n5 e3 hda q
   ·exact n5 e3 fls5 q
   ·exact n5 e3 flt5 q
 ·intro x hx hxp
  simp only[SAd.fp,zy8,zzz,or_false] at hx
  rcases hx with q|q|q|q|q|q|q
  ·exact absurd q hxp
  ·rw[q];exact fdr
  ·rw[q];exact flr
  ·rw[q];exact fld
  ·rw[q];exact fda
  ·rw[q];exact fls
  ·rw[q];exact flt
noncomputable abbrev Xa:Stmt:=Z4 (top 55) 1
theorem Se:Zl ["self"] ["self"] (Zj Xa):=fnS
theorem Sf(F:Fun K "check_not_over" "Season.check_not_over" Xa f fd)(T:Tx K mg a)(zks:Zx P w K mg base a.zkq "at_hand" 2 ["self"] (Us (ca a))):Z3 P w K mg base (CX1 P w) 3 f fd ["self"] (N7 (ca a)):=by
 refine F.okX Se (by walk_at "ar") fun _ _ _ _ H _ Q E hr h=>?_
 obtain⟨A',S,rfl,SA,h⟩:=h;refine⟨_,(Zf (Z9 (Zm Ri (Yp (pv 0) T.zkr zks (hr.mono (by decide)) Zk) (Zr (K:=K) rfl (pv 0) rfl) (Zv _))
  (Zf (Xh Xg rfl T.zqc rfl (Za Zn Zd)))
  Zu)),?_⟩
 obtain⟨⟨dx,v,a1,a2⟩,b,c,_⟩:=id SA;refine⟨_,rfl,A'.p,dx,_,rfl,a1,Yo (by decide +kernel),A',S,rfl,SA,_,rfl,A'.p,a.zkq,dx,_,_,rfl,a1,T.zkr,T.znf,Gs,_,_,rfl,rfl,_,rfl,?_⟩
 refine itD (fun hc=>?_) (fun hc=>?_)
 ·rw[if_pos (by unfold atV at hc;omega)] at h
  exact⟨sz1,h⟩
 ·rw[if_neg (by unfold atV at hc;omega)] at h
  exact h
noncomputable abbrev Xe:Stmt:=Z4 (top 55) 2
theorem So:Zl ["self"] ["self"] (Zj Xe):=fnS
theorem Sr(F:Fun K "check_undrawn" "Season.check_undrawn" Xe f fd)(T:Tx K mg a)(zk0:Zx P w K mg base a.zkq "check_not_over" 3 ["self"] (N7 (ca a))):Z3 P w K mg base (CX1 P w) 4 f fd ["self"] (N8 (ca a)):=by
 refine F.okX So (by walk_at "ar") fun _ _ _ _ H _ Q E hr h=>?_
 obtain⟨A',S,rfl,SA,h⟩:=h;refine⟨_,(Zc (Z6 (Yp (pv 0) T.zkr zk0 (hr.mono (by decide)) Zk))
 (Zf (Z9 (Zm Vi (Zr (K:=K) rfl (pv 0) rfl) Y0 (Zv _))
  (Zf (Xh Xg rfl T.zqh rfl (Za Zn Zd)))
  Zu))),?_⟩
 obtain⟨⟨dx,v,a1,a2⟩,b,c,_⟩:=id SA;refine⟨_,rfl,A'.p,dx,_,rfl,a1,Yo (by decide +kernel),A',S,rfl,SA,?_⟩
 refine it2 h (fun _ z=>z) fun hn h=>?_
 refine⟨_,rfl,A'.p,a.zkq,dx,_,_,rfl,a1,T.zkr,T.zle,Wt,rfl,_,rfl,?_⟩;cases hc:S.cur with
 | none =>
   rw[hc] at a2 h
   have a2:v=.non:=a2;rw[a2];exact iteF h
 | some s =>
   rw[hc] at a2 h
   obtain⟨q,rfl,_⟩:=a2;exact iteT ⟨sz1,h⟩
noncomputable abbrev Xp:Stmt:=Z4 (top 55) 3
theorem Rr:Zl ["self","at"] ["self","at"] (Zj Xp):=fnS
theorem Rt(F:Fun K "check_round" "Season.check_round" Xp f fd)(T:Tx K mg a):Z3 P w K mg base (CX1 P w) 1 f fd ["self","at"] (Fl (ca a)):=by
 refine F.okX Rr (by walk_at "ar") fun _ _ _ _ H _ Q E hr h=>?_
 obtain⟨A',S,i,rfl,SA,si,h⟩:=h;refine⟨_,(Zf (Z9 (PW.pt (Ru (Zm Ai (pv 1) Zi (Zv _)) (Sb (Zm Ri (pv 1) (Zr (K:=K) rfl (pv 0) rfl) (Zv _)))))
  (Zf (Xh Xg rfl T.zp9 rfl (Za (Vl (Z2 (Vb (pv 1)) (Z2 (X1 (by decide +kernel)) Vk)) (by decide)) Zd)))
  Zu)),?_⟩
 obtain⟨⟨dx,v,a1,a2⟩,b,c,_⟩:=id SA;refine⟨_,rfl,_,_,rfl,rfl,_,rfl,?_⟩;refine itD (fun hc=>?_) (fun hc=>?_)
 ·rw[if_pos (.inl hc)] at h
  refine iteT ?_;exact⟨_,rfl,.inl ⟨_,rfl,si⟩,fun z=>⟨sz1,h⟩⟩
 refine⟨_,rfl,_,rfl,A'.p,a.zkq,dx,_,_,rfl,a1,T.zkr,T.znf,Gs,_,_,rfl,rfl,_,rfl,?_⟩;refine itD (fun hc2=>?_) (fun hc2=>?_)
 ·rw[if_pos (.inr hc2)] at h
  exact⟨_,rfl,.inl ⟨_,rfl,si⟩,fun z=>⟨sz1,h⟩⟩
 ·rw[if_neg (fun z=>z.elim hc hc2)] at h
  exact h
noncomputable abbrev Xx:Stmt:=Z4 (top 55) 4
theorem Qk:Zl ["self"] ["self"] (Zj Xx):=fnS
theorem Ql(F:Fun K "check_room" "Season.check_room" Xx f fd)(T:Tx K mg a):Z3 P w K mg base (CX1 P w) 1 f fd ["self"] (Fm (ca a)):=by
 refine F.okX Qk (by walk_at "ar") fun _ _ _ _ H _ Q E hr h=>?_
 obtain⟨A',S,rfl,SA,h⟩:=h;refine⟨_,(Zf (Z9 (Zm zgk (Zw (cL K) (by rfl) T.zlc PySem.boot_len (Za (Zr (K:=K) rfl (pv 0) rfl) Zd)) (Wh rfl T.zl4) (Zv _))
  (Zf (Xh Xg rfl T.zpx rfl (Za (Vl (Z2 (Vb (Wh rfl T.zl4)) (Z2 (X1 (by decide +kernel)) Vk)) (by decide)) Zd)))
  Zu)),?_⟩
 obtain⟨⟨dx,v,a1,a2⟩,b,c,d,f,⟨us,g1,g2⟩,nd,np⟩:=id SA;refine⟨_,rfl,A'.p,a.zkq,dx,_,_,rfl,a1,T.zkr,T.zlm,T1,A'.lt,_,rfl,.inl (SqL.of g1),_,_,rfl,rfl,_,rfl,?_⟩;rw[g2.length];refine itD (fun hc=>?_) (fun hc=>?_)
 ·rw[if_pos (by omega)] at h
  exact⟨.inl ⟨_,rfl,Yg (by decide)⟩,fun z=>⟨sz1,h⟩⟩
 ·rw[if_neg (by omega)] at h
  exact h
noncomputable abbrev Uk:Stmt:=Z4 (top 55) 5
theorem Jw:Zl ["self","word","number","at"] ["self","word","number","at"] (Zj Uk):=fnS
theorem Jx(F:Fun K "note" "Season.note" Uk f fd)(T:Tx K mg a):Z3 P w K mg base (CX1 P w) 1 f fd ["self","word","number","at"] (Fn (ca a)):=by
 refine F.okX Jw (by walk_at "ar") fun _ _ _ _ H _ Q E hr h=>?_
 obtain⟨A',S,w',n,i,rfl,SA,hz,h⟩:=h;refine⟨_,(Zf (Yv (Zr (K:=K) rfl (pv 0) rfl) (Yd (Za (Yd (Za (pv 1) (Za (pv 2) (Za (pv 3) Zd)))) (Za (Zr (K:=K) rfl (pv 0) rfl) Zd))))),?_⟩;obtain⟨⟨dx,v,a1,a2⟩,b,c,⟨kvs,d1,d2⟩,⟨vs,f1,f2⟩,⟨us,g1,g2⟩,nd,np⟩:=id SA;refine⟨_,rfl,A'.p,a.zkq,dx,_,_,rfl,a1,T.zkr,T.zlm,T1,A'.lt,us,rfl,g1,?_⟩;refine⟨_,rfl,_,rfl,_,rfl,sz3,fun t1 ht1=>?_⟩
 have s1:=Ze (o:=.tup [.str w',.int n,.int i]) ht1;have q1:upd H t1 (.tup [.str w',.int n,.int i]) t1=some (.tup (Pm (w',n,i))):=Zb;generalize upd H t1 (.tup [.str w',.int n,.int i])=H1 at s1 q1
 refine⟨_,rfl,A'.p,a.zkq,dx,_,_,rfl,s1 _ _ a1,T.zkr,T.zle,Wt,sz2,fun t2 ht2=>?_⟩
 have s2:=Ze (o:=.tup [.ref t1,v]) ht2;have q2:upd H1 t2 (.tup [.ref t1,v]) t2=some (.tup [.ref t1,v]):=Zb;have q12:=s2 _ _ q1;have s12:=s1.trans s2;generalize upd H1 t2 (.tup [.ref t1,v])=H2 at s2 q2 q12 s12
 refine⟨us,s12 _ _ g1,by have:=g2.length;have:=Tp;omega,?_⟩
 have fr:FrS A' H (upd H2 A'.lt (.lst (us++[.ref t2]))):=fun b o e hb=>by
  rw[Zh (fun z=>hb (by rw[z];simp[SAd.fp]))];exact s12 _ _ e
 have kt:=SA.tups fr;have kp:∀ x o,x≠A'.lt->H x=some o->upd H2 A'.lt (.lst (us++[.ref t2])) x=some o:=fun x o hx e=>by rw[Zh hx];exact s12 _ _ e
 have kt2:∀ t xs,H2 t=some (.tup xs)->upd H2 A'.lt (.lst (us++[.ref t2])) t=some (.tup xs):=fun t xs e=>by
  rw[Zh (Ym e (s12 _ _ g1) (fun z=>nomatch z))];exact e
 have ko:∀ x o,x∉A'.fp->H x=some o->upd H2 A'.lt (.lst (us++[.ref t2])) x=some o:=fun x o hx e=>fr x o e hx
 have nd':=nd;simp only[SAd.fp,zzo,zy8,zzz,or_false,not_or] at nd'
 obtain⟨⟨n1,n2,n3,n4,n5,n6⟩,⟨n7,n8,n9,n10,n11⟩,⟨n12,n13,n14,n15⟩,⟨n16,n17,n18⟩,⟨n19,n20⟩,n21,_⟩:=nd';have npt:A'.pr≠A'.lt/\A'.pl≠A'.lt:=⟨fun z=>np.1 (by rw[z];simp[SAd.fp]),fun z=>np.2 (by rw[z];simp[SAd.fp])⟩
 refine h _ ⟨⟨dx,v,kp _ _ n6 a1,a2.keep ko kt⟩,b.keep (fun o e=>kp _ o npt.1 e) (fun o e=>kp _ o n11 e) kt,c.keep (fun o e=>kp _ o npt.2 e) (fun o e=>kp _ o n15 e) (fun o e=>kp _ o n18 e) kt,⟨kvs,kp _ _ n20 d1,d2⟩,⟨vs,kp _ _ n21 f1,f2.keep ko kt⟩,⟨us++[.ref t2],Zb,?_⟩,nd,np⟩ fr
 exact(g2.keep ko kt).snoc (kt2 _ _ q2) (kt2 _ _ q12) (a2.keep ko kt)
noncomputable abbrev Xf:Stmt:=Z4 (top 55) 6
theorem Ss:Zl ["self"] ["self"] (Zj Xf):=fnS
theorem Su(F:Fun K "sheet_at_hand" "Season.sheet_at_hand" Xf f fd)(T:Tx K mg a):Z3 P w K mg base (CX1 P w) 1 f fd ["self"] (P8 (ca a)):=by
 refine F.okX Ss (by walk_at "ar") fun _ _ _ _ H _ Q E hr h=>?_
 obtain⟨A',S,rfl,SA,h1,h2⟩:=h;refine⟨_,(Zc (Z9 (Zm Kj (Zr (K:=K) rfl (pv 0) rfl) Y0 (Zv _))
  (Zf (Xh Xg rfl T.zpt rfl (Za Zn Zd)))
  Zu)
 (Zf (Zo (Zr (K:=K) rfl (pv 0) rfl)))),?_⟩
 obtain⟨⟨dx,v,a1,a2⟩,b,c,_⟩:=id SA;refine⟨_,rfl,A'.p,a.zkq,dx,_,_,rfl,a1,T.zkr,T.zle,Wt,rfl,_,rfl,?_⟩;cases hc:S.cur with
 | none =>
   rw[hc] at a2
   have a2:v=.non:=a2;rw[a2];exact iteT ⟨sz1,h1 hc⟩
 | some s =>
   rw[hc] at a2
   obtain⟨q,rfl,hs⟩:=a2;refine iteF ?_;exact⟨_,rfl,A'.p,a.zkq,dx,_,_,rfl,a1,T.zkr,T.zle,Wt,h2 s q hc hs⟩
noncomputable abbrev Wm:Stmt:=Z4 (top 55) 7
theorem Om:Zl ["self","at"] ["self","at"] (Zj Wm):=fnS
theorem Oo(F:Fun K "sheet_of" "Season.sheet_of" Wm f fd)(T:Tx K mg a)(zk5:Zx P w K mg base a.zkq "check_round" 1 ["self","at"] (Fl (ca a)))(zkw:Zx P w K mg base a.zkt "over" 1 ["self"] (N1 a.zkt))(zks:Zx P w K mg base a.zkq "at_hand" 2 ["self"] (Us (ca a)))(zk2:Zx P w K mg base a.zkq "sheet_at_hand" 1 ["self"] (P8 (ca a))):Z3 P w K mg base (CX1 P w) 3 f fd ["self","at"] (Gv (ca a)):=by
 refine F.okX Om (by walk_at "ar") fun _ _ _ _ H _ Q E hr h=>?_
 obtain⟨A',S,i,rfl,SA,si,hol,h⟩:=h;refine⟨_,(Zc (Z6 (X2 (pv 0) T.zkr zk5 (hr.mono (by decide)) Zk (Za (pv 1) Zd)))
 (Zc (Z9 (Zm zgj (pv 1) (Yp (Zr (K:=K) rfl (pv 0) rfl) T.zlh zkw (hr.mono (by decide)) Zk) (Zv _))
  (Zf (Zo (pI (iL K) (Zr (K:=K) rfl (pv 0) rfl) (Zp Pq (pv 1) Zi))))
  Zu)
 (Zc (Z9 (Zm Ri (pv 1) (Yp (pv 0) T.zkr zks (hr.mono (by decide)) Zk) (Zv _))
  (Zf (Xh Xg rfl T.zpt rfl (Za (Vl (Z2 (X1 (by decide +kernel)) (Z2 (Vb (pv 1)) (Z2 (X1 (by decide +kernel)) Vk))) (by decide)) Zd)))
  Zu)
 (Zf (Zo (Yp (pv 0) T.zkr zk2 (hr.mono (by decide)) Zk)))))),?_⟩
 obtain⟨⟨dx,v,a1,a2⟩,b,c,d,⟨vs,f1,f2⟩,_⟩:=id SA;obtain⟨⟨dxl,hpl⟩,_⟩:=id c;refine⟨_,rfl,A'.p,dx,_,rfl,a1,Yo (by decide +kernel),_,rfl,A',S,i,rfl,SA,si,?_⟩
 refine it2 h (fun _ z=>z) fun hn h=>?_
 refine⟨_,rfl,_,rfl,A'.p,a.zkq,dx,_,_,rfl,a1,T.zkr,T.zly,Tj,A'.pl,dxl,_,rfl,hpl,Kr (by decide +kernel) (by decide +kernel),A'.pl,A'.lr,A'.ld,S.led,rfl,c,_,_,rfl,rfl,_,rfl,?_⟩
 refine itD (fun hc=>?_) (fun hc=>?_)
 ·have hk:(i-1).toNat<S.old.length:=by omega
  have hs:Vo S i=some (S.old[(i-1).toNat]'hk):=by unfold Vo;rw[if_pos hc];exact zy1 hk
  obtain⟨q,e1,e2⟩:=f2.getR (zy1 hk);exact⟨_,rfl,A'.p,a.zkq,dx,_,_,rfl,a1,T.zkr,T.znc,Gu,_,rfl,_,_,rfl,rfl,A'.ls,_,_,_,rfl,rfl,SqL.of f1,(show atI vs (i-1)=some (.ref q) by rw[show i-1=(((i-1).toNat:Nat):Int) by omega];exact Y4 e1),h.2 _ q hs e2⟩
 ·refine Z1 ?_
  refine⟨_,rfl,_,rfl,A'.p,dx,_,rfl,a1,Yo (by decide +kernel),A',S,rfl,SA,_,_,rfl,rfl,_,rfl,?_⟩
  refine itD (fun hc2=>?_) (fun hc2=>?_)
  ·exact⟨_,rfl,.inl ⟨_,rfl,si⟩,fun z=>⟨sz1,h.1 (by unfold Vo;rw[if_neg hc,if_pos (by unfold atV at hc2;omega)])⟩⟩
  ·have hs:Vo S i=S.cur:=by unfold Vo;rw[if_neg hc,if_neg (by unfold atV at hc2;omega)]
   exact⟨_,rfl,A'.p,dx,_,rfl,a1,Yo (by decide +kernel),A',S,rfl,SA,fun hz=>h.1 (by rw[hs];exact hz),fun s q hz hq=>h.2 s q (by rw[hs];exact hz) hq⟩
noncomputable abbrev X9:Stmt:=Z4 (top 55) 8
theorem Xy:Zl ["self","listed","people","at","out"] ["self","listed"] (Zj X9):=fnS
theorem Pf(F:Fun K "takers_of" "Season.takers_of" X9 f fd)(T:Tx K mg a)(zl0:Zx P w K mg base a.zku "numbers" 1 ["self"] (Kx (ca a)))(zm5:Zx P w K mg base a.zku "person" 3 ["self","number"] (Dh (ca a)))(zks:Zx P w K mg base a.zkq "at_hand" 2 ["self"] (Us (ca a)))(zpw:Z7 P w K mg base "takers" 4 ["people","match","out","ledger","rest"] (E8 K a.zkt)):Z3 P w K mg base (CX1 P w) 5 f fd ["self","listed"] (P9 (ca a)):=by
 refine F.okX Xy (by walk_at "ar") fun _ _ _ _ H _ Q E hr h=>?_
 obtain⟨A',S,l,ts,ms,rfl,SA,hl,tl,hml,hpl,hsm,h⟩:=h;have hu:=W2 hr;refine⟨_,(Zc (pS 2 Xy.nd (Ut rfl (cT ["self"] [0]) (Yf (K:=K) rfl (Yp (Zr (K:=K) rfl (pv 0) rfl) T.zk8 zl0 (hr.mono (by decide)) Zk)) (fun _ _ _ _ _=>Uc) (fun _ _ _ _ _=>(X2 (Zr (K:=K) rfl (pv 1) rfl) T.zk8 zm5 (hr.mono (by decide)) Au (Za (pv 0) Zd)))))
 (Zc (pS 3 Xy.nd (Yp (pv 0) T.zkr zks (hr.mono (by decide)) Zk))
 (Zc (pS 4 Xy.nd (Ut rfl (cT ["at","self"] [3,0]) (Yf (K:=K) rfl (Yp (Zr (K:=K) rfl (pv 0) rfl) T.zk8 zl0 (hr.mono (by decide)) Zk)) (fun _ _ _ _ _=>Ov (Sa (Pt hu (Yd (Za (pv 1) (Za (pv 0) Zd))) (Zr (K:=K) rfl (pv 2) rfl)))) (fun _ _ _ _ _=>(pv 0))))
 (Zf (Zo (Ut rfl (cT ["people","out","self"] [2,4,0]) (Yf (K:=K) rfl (pv 1)) (fun _ _ _ _ _=>Uc) (fun _ _ _ _ _=>(Av zpw (hr.mono (by decide)) Au rfl (Za (pv 1) (Za (pv 0) (Za (pv 2) (Za (Zr (K:=K) rfl (pv 3) rfl) (Za (Zr (K:=K) rfl (pv 3) rfl) Zd))))))))))))),?_⟩
 obtain⟨⟨dx,v,a1,a2⟩,b,c,⟨kvs,d1,d2⟩,_⟩:=id SA;obtain⟨⟨dxr,kvr,hpr,hdr,en⟩,ndr⟩:=id b;refine⟨_,rfl,A'.p,a.zkq,dx,_,_,rfl,a1,T.zkr,T.zls,V9,A'.pr,dxr,_,rfl,hpr,Xj.no (by decide +kernel),A'.pr,A'.dr,S.ppl,rfl,b,fun ln hln=>?_⟩
 have s1:=Ze (o:=.lst (S.ppl.map fun x=>V.int x.1)) hln
 have q1:upd H ln (.lst (S.ppl.map fun x=>V.int x.1)) ln=some (.lst (S.ppl.map fun x=>V.int x.1)):=Zb
 generalize upd H ln (.lst (S.ppl.map fun x=>V.int x.1))=H1 at s1 q1
 have hnl:(S.ppl.map fun x=>V.int x.1).length=S.ppl.length:=by rw[zyz]
 refine⟨ln,rfl,⟨_,SqL.of q1⟩,We (K:=K) (xs:=S.ppl.map fun x=>V.int x.1) (fun i ys H'=>Same H H'/\Same H1 H'/\TupL H' ys ((S.ppl.take i).map pV)/\ys.length=i) ⟨s1,Same.refl _,.nil,rfl⟩ (fun i ys H' _ ⟨_,z,_⟩=>SqL.of (z _ _ q1)) (szN (by omega)) (fun i ys H' ⟨_,_,_,e⟩=>by omega) ?_ ?_⟩
 ·rintro i x ys H' hx ⟨sh,s1',tl',hyl⟩
  have hi:i<S.ppl.length:=by have:=(zy0.mp hx).1;omega
  have hpi:S.ppl[i]?=some (S.ppl[i]'hi):=zy1 hi;have etk:S.ppl.take (i+1)=S.ppl.take i++[S.ppl[i]'hi]:=zzv hi;have hmem:S.ppl[i]'hi∈S.ppl:=zz4 hi;have ex:x=.int (S.ppl[i]'hi).1:=by rw[zy5,hpi] at hx;exact(Option.some.inj hx).symm
  generalize (S.ppl[i]'hi)=pp at hpi etk hmem ex
  subst ex;unfold tYes;dsimp only;rw[if_pos rfl];refine⟨_,rfl,A'.p,a.zkq,dx,_,_,rfl,sh _ _ a1,T.zkr,T.zls,V9,A'.pr,dxr,_,rfl,sh _ _ hpr,Xj.no (by decide +kernel),_,rfl,A'.pr,A'.dr,S.ppl,pp.1,rfl,b.same sh,hsm pp hmem,fun z=>absurd (zy9.mpr ⟨pp,hmem,rfl⟩) z,fun g c' t H2 hm ht s2 _=>?_⟩
  have epp:=zfv b.nd hm hmem rfl;rw[epp] at ht
  refine⟨sh.trans s2,s1'.trans s2,?_,by rw[zy2,hyl];rfl⟩
  rw[etk,zy7];exact(tl'.same s2).snoc ht
 rintro ys H2 ⟨sh2,s12,tl2,hyl⟩ lp hlp;rw[hnl,zzh] at tl2
 have s3:=sh2.trans (Ze (o:=.lst ys) hlp);have q3:upd H2 lp (.lst ys) lp=some (.lst ys):=Zb;have tl3:=tl2.same (Ze (o:=.lst ys) hlp);generalize upd H2 lp (.lst ys)=H3 at s3 q3 tl3
 have SA3:=SA.same s3;refine⟨_,rfl,A'.p,dx,_,rfl,s3 _ _ a1,Yo (by decide +kernel),A',S,rfl,SA3,?_⟩
 refine⟨_,rfl,A'.p,a.zkq,dx,_,_,rfl,s3 _ _ a1,T.zkr,T.zls,V9,A'.pr,dxr,_,rfl,s3 _ _ hpr,Xj.no (by decide +kernel),A'.pr,A'.dr,S.ppl,rfl,b.same s3,fun ln4 hln4=>?_⟩
 have s4:=Ze (o:=.lst (S.ppl.map fun x=>V.int x.1)) hln4
 have q4:upd H3 ln4 (.lst (S.ppl.map fun x=>V.int x.1)) ln4=some (.lst (S.ppl.map fun x=>V.int x.1)):=Zb
 generalize upd H3 ln4 (.lst (S.ppl.map fun x=>V.int x.1))=H4 at s4 q4
 refine⟨ln4,rfl,⟨_,SqL.of q4⟩,We (K:=K) (xs:=S.ppl.map fun x=>V.int x.1) (fun i ys H'=>Same H4 H'/\ys=((S.ppl.take i).filter (pIn S.out (atV S))).map fun x=>V.int x.1) ⟨Same.refl _,rfl⟩ (fun i ys H' _ ⟨z,_⟩=>SqL.of (z _ _ q4)) (szN (by omega)) (fun i ys H' ⟨_,e⟩=>by rw[e,zyz];exact zzg (zz2 _ _) (z0c _ _)) ?_ ?_⟩
 ·rintro i x zs H' hx ⟨s4',rfl⟩
  have hi:i<S.ppl.length:=by have:=(zy0.mp hx).1;omega
  have hpi:S.ppl[i]?=some (S.ppl[i]'hi):=zy1 hi;have etk:S.ppl.take (i+1)=S.ppl.take i++[S.ppl[i]'hi]:=zzv hi;have ex:x=.int (S.ppl[i]'hi).1:=by rw[zy5,hpi] at hx;exact(Option.some.inj hx).symm
  generalize (S.ppl[i]'hi)=pp at hpi etk ex
  subst ex;refine⟨_,rfl,_,rfl,sz2,fun t ht=>?_⟩
  have s5:=Ze (o:=.tup [.int (atV S),.int pp.1]) ht;have q5:upd H' t (.tup [.int (atV S),.int pp.1]) t=some (.tup (([Sum.inl (atV S),Sum.inl pp.1]:List Key).map kV)):=Zb;generalize upd H' t (.tup [.int (atV S),.int pp.1])=H5 at s5 q5
  have sh5:=s3.trans (s4.trans (s4'.trans s5));refine⟨_,rfl,A'.p,a.zkq,dx,_,_,rfl,sh5 _ _ a1,T.zkr,T.zmm,Qw,A'.da,_,rfl,DGet.t (k:=[Sum.inl (atV S),Sum.inl pp.1]) (sh5 _ _ d1) q5,_,rfl,?_⟩;rw[d2.isSome];have e2:∀ ws,((S.ppl.take (i+1)).filter (pIn S.out (atV S))).map (fun x=>V.int x.1)=((S.ppl.take i).filter (pIn S.out (atV S))).map (fun x=>V.int x.1)++ws↔ws=if pIn S.out (atV S) pp then [V.int pp.1] else []:=fun ws=>by
   rw[etk,z0y,zy7,List.append_cancel_left_eq];cases q:pIn S.out (atV S) pp<;>simp[q,eq_comm]
  refine itB (fun hb=>?_) (fun hb=>?_)
  ·exact⟨_,rfl,s4'.trans s5,((e2 [V.int pp.1]).mpr (by rw[show pIn S.out (atV S) pp=true from hb];rfl)).symm⟩
  ·refine⟨s4'.trans s5,?_⟩
   have:=(e2 []).mpr (by rw[show pIn S.out (atV S) pp=false from hb];rfl)
   rw[z1a] at this
   exact this.symm
 rintro zs H5 ⟨s45,rfl⟩ lo hlo;rw[hnl,zzh];have s6:=s45.trans (Ze (o:=.lst (outV S)) hlo);have q6:upd H5 lo (.lst (outV S)) lo=some (.lst (outV S)):=Zb;show Vh 4 (V.ref lo) _ (upd H5 lo (.lst (outV S))) _;generalize upd H5 lo (.lst (outV S))=H6 at s6 q6
 have s36:=s4.trans s6;have s06:=s3.trans s36;have hl6:=s06 _ _ hl;have hts:ts.length=ms.length:=by rw[tl.length,zyz]
 refine⟨_,rfl,l,rfl,⟨_,SqL.of hl6⟩,We (K:=K) (xs:=ts) (fun i ys H'=>Same H6 H'/\∃ ls,ys=ls.map V.ref/\ILs H' ls ((mayS S ms).take i)/\ls.length=i/\∀ x∈ls,H x=none) ⟨Same.refl _,[],rfl,.nil,rfl,by simp⟩ (fun i ys H' _ ⟨z,_⟩=>SqL.of (z _ _ hl6)) (szN (by omega)) (fun i ys H' ⟨_,ls,e1,_,e2,_⟩=>by rw[e1,zyz];omega) ?_ ?_⟩
 ·rintro i x ys' H' hx ⟨s6',ls,rfl,il,hll,hfr⟩
  obtain⟨tm,m,rfl,hm,htm⟩:=Ks tl hx;have s0:=s06.trans s6';unfold tYes;dsimp only;rw[if_pos rfl];refine⟨_,rfl,_,rfl,_,rfl,_,rfl,A'.p,a.zkq,dx,_,_,rfl,s0 _ _ a1,T.zkr,T.zly,Tj,_,rfl,A'.p,a.zkq,dx,_,_,rfl,s0 _ _ a1,T.zkr,T.zpb,zfu,lp,lo,tm,A'.pl,A'.lr,A'.ld,S.led,ys,S.ppl,outV S,m.1,m.2.1,m.2.2,S.rest,rfl,(s36.trans s6') _ _ q3,tl3.same (s36.trans s6'),s6' _ _ q6,zd4 S,s0 _ _ htm,c.same s0,by omega,fun l2 H2 hl2 s2 f2=>?_⟩
  rw[zh9] at hl2
  refine⟨s6'.trans s2,ls++[l2],by rw[zy7];rfl,?_,by rw[zy2,hll];rfl,fun y hy=>?_⟩
  ·have e:(mayS S ms).take (i+1)=(mayS S ms).take i++[K1 S m]:=by
    unfold mayS;rw[zz6,zy5,hm];rfl
   rw[e];exact(il.same s2).snoc hl2
  ·rcases zy6.mp hy with z|z
   ·exact hfr y z
   ·rw[zy3.mp z];exact s0.free f2
 ·rintro ys' H' ⟨s6',ls,rfl,il,hll,hfr⟩ l' hl'
  have hmy:(mayS S ms).length=ms.length:=by unfold mayS;rw[zyz]
  rw[hts,<- hmy,zzh] at il
  have s0:=s06.trans s6';exact h l' ls _ Zb (il.same (Ze hl')) (s0.trans (Ze hl')) (s0.free hl') hfr
noncomputable abbrev Vy:Stmt:=Z4 (top 55) 9
theorem Lz:Zl ["self","number","grade","club"] ["self","number","grade","club"] (Zj Vy):=fnS
theorem L4(F:Fun K "enrol" "Season.enrol" Vy f fd)(T:Tx K mg a)(zk1:Zx P w K mg base a.zkq "check_undrawn" 4 ["self"] (N8 (ca a)))(zlb:Zx P w K mg base a.zku "check_new" 2 ["self","number","grade","club"] (P5 (ca a)))(zkx:Zx P w K mg base a.zkq "check_room" 1 ["self"] (Fm (ca a)))(zld:Zx P w K mg base a.zkq "note" 1 ["self","word","number","at"] (Fn (ca a)))(zks:Zx P w K mg base a.zkq "at_hand" 2 ["self"] (Us (ca a)))(zn6:Zx P w K mg base a.zku "add" 3 ["self","number","grade","club"] (zd3 (ca a))):Z3 P w K mg base (CX1 P w) 5 f fd ["self","number","grade","club"] (zaf (ca a)):=by
 refine F.okX Lz (by walk_at "ar") fun _ _ _ _ H _ Q E hr h=>?_
 obtain⟨A',S,n,g,c0,rfl,SA,sm,hz,hz2,h⟩:=h;refine⟨_,(Zc (Z6 (Yp (pv 0) T.zkr zk1 (hr.mono (by decide)) Zk))
 (Zc (Z6 (X2 (Zr (K:=K) rfl (pv 0) rfl) T.zk8 zlb (hr.mono (by decide)) Zk (Za (pv 1) (Za (pv 2) (Za (pv 3) Zd)))))
 (Zc (Z6 (Yp (pv 0) T.zkr zkx (hr.mono (by decide)) Zk))
 (Zc (Z6 (X2 (pv 0) T.zkr zld (hr.mono (by decide)) Zk (Za Zn (Za (pv 1) (Za (Yp (pv 0) T.zkr zks (hr.mono (by decide)) Zk) Zd)))))
 (Zf (Z6 (X2 (Zr (K:=K) rfl (pv 0) rfl) T.zk8 zn6 (hr.mono (by decide)) Zk (Za (pv 1) (Za (pv 2) (Za (pv 3) Zd)))))))))),?_⟩
 obtain⟨⟨dx,v,a1,a2⟩,b,c,_⟩:=id SA;obtain⟨⟨dxr,kvr,hpr,hdr,en⟩,ndr⟩:=id b;refine⟨_,rfl,A'.p,dx,_,rfl,a1,Yo (by decide +kernel),A',S,rfl,SA,?_⟩
 refine it2 h (fun _ z=>z) fun h1 h=>it2 h (fun _ z=>z) fun h2 h=>?_
 refine⟨_,rfl,A'.p,a.zkq,dx,_,_,rfl,a1,T.zkr,T.zls,V9,A'.pr,dxr,_,rfl,hpr,Xj.no (by decide +kernel),_,rfl,_,rfl,_,rfl,A'.pr,A'.dr,S.ppl,n,g,c0,rfl,b,sm,?_⟩
 refine it2 h (fun _ z=>z) fun h3 h=>it2 h (fun _ z=>z) fun h4 h=>it2 h (fun _ z=>z) fun h5 h=>?_
 refine⟨_,rfl,A'.p,dx,_,rfl,a1,Yo (by decide +kernel),A',S,rfl,SA,?_⟩
 refine it2 h (fun _ z=>z) fun h6 h=>?_
 refine⟨_,rfl,A'.p,dx,_,rfl,a1,Yo (by decide +kernel),_,rfl,_,rfl,A'.p,dx,_,rfl,a1,Yo (by decide +kernel),A',S,rfl,SA,A',S,"enrol",n,atV S,rfl,SA,hz,fun H1 SA1 f1=>?_⟩
 obtain⟨⟨dx1,v1,a11,a12⟩,b1,c1,_⟩:=id SA1;obtain⟨⟨dxr1,kvr1,hpr1,hdr1,en1⟩,ndr1⟩:=id b1;refine⟨_,rfl,A'.p,a.zkq,dx1,_,_,rfl,a11,T.zkr,T.zls,V9,A'.pr,dxr1,_,rfl,hpr1,Xj.no (by decide +kernel),_,rfl,_,rfl,_,rfl,A'.pr,A'.dr,S.ppl,n,g,c0,rfl,b1,sm,hz2,?_⟩
 rw[if_neg h3,if_neg h4,if_neg h5];intro H2 R2 k2;obtain⟨SA2,f2⟩:=SA1.setRos R2 k2;exact h H2 SA2 (f1.trans f2)
noncomputable abbrev Wx:Stmt:=Z4 (top 55) 10
theorem T3:Zl ["self","matches","listed"] ["self","matches"] (Zj Wx):=fnS
theorem Nb(F:Fun K "draw_up" "Season.draw_up" Wx f fd)(T:Tx K mg a)(zk1:Zx P w K mg base a.zkq "check_undrawn" 4 ["self"] (N8 (ca a)))(zpo:Z7 P w K mg base "checked" 3 ["matches"] (K2 K (ca a)))(zkx:Zx P w K mg base a.zkq "check_room" 1 ["self"] (Fm (ca a)))(zld:Zx P w K mg base a.zkq "note" 1 ["self","word","number","at"] (Fn (ca a)))(zks:Zx P w K mg base a.zkq "at_hand" 2 ["self"] (Us (ca a)))(zns:Z7 P w K mg base "drawn_sheet" 4 ["listed","lists"] (zad (ca a)))(zk9:Zx P w K mg base a.zkq "takers_of" 5 ["self","listed"] (P9 (ca a)))(zl5:Zx P w K mg base a.zkv "goes" 1 ["self"] (Ky (ca a))):Z3 P w K mg base (CX1 P w) 6 f fd ["self","matches"] (Dw K (ca a)):=by
 refine F.okX T3 (by walk_at "ar") fun _ _ _ _ H _ Q E hr h=>?_
 obtain⟨A',S,b,ts,ms,rfl,SA,hs,tl,sm,hml,hz,po,h⟩:=h;refine⟨_,(Zc (Z6 (Yp (pv 0) T.zkr zk1 (hr.mono (by decide)) Zk))
 (Zc (pS 2 T3.nd (pF zpo hr (Za (pv 1) Zd)))
 (Zc (Z6 (Yp (pv 0) T.zkr zkx (hr.mono (by decide)) Zk))
 (Zc (Z6 (X2 (pv 0) T.zkr zld (hr.mono (by decide)) Zk (Za Zn (Za (Zw (cL K) (by rfl) T.zlc PySem.boot_len (Za (pv 2) Zd)) (Za (Yp (pv 0) T.zkr zks (hr.mono (by decide)) Zk) Zd)))))
 (Zc (Y5 (K:=K) rfl (pv 0) (pF zns hr (Za (pv 2) (Za (X2 (pv 0) T.zkr zk9 (hr.mono (by decide)) Zk (Za (pv 2) Zd)) Zd))) rfl)
 (Zf (Zo (Yp (Zr (K:=K) rfl (pv 0) rfl) T.zk3 zl5 (hr.mono (by decide)) Zk)))))))),?_⟩
 obtain⟨⟨dx,v,a1,a2⟩,br,cl,_⟩:=id SA;have hts:ts.length=ms.length:=by rw[tl.length,zyz]
 refine⟨_,rfl,A'.p,dx,_,rfl,a1,Yo (by decide +kernel),A',S,rfl,SA,?_⟩
 refine it2 h (fun _ z=>z) fun h1 h=>it2 h (fun _ z=>z) fun h2 h=>?_
 refine⟨_,rfl,b,ts,ms,rfl,hs,tl,sm,hml,h.1,h.2.1,h.2.2.1,fun g1 g2 g3 l1 hl1=>?_⟩
 have h4:=h.2.2.2 g1 g2 g3;have s1:=Ze (o:=.lst ts) hl1;have q1:upd H l1 (.lst ts) l1=some (.lst ts):=Zb;generalize upd H l1 (.lst ts)=H1 at s1 q1
 have SA1:=SA.same s1;have a11:=s1 _ _ a1;refine⟨_,rfl,A'.p,dx,_,rfl,a11,Yo (by decide +kernel),A',S,rfl,SA1,?_⟩
 refine E1 (fun z=>h4.1 z H1 s1) (fun hroom=>?_)
 refine⟨_,rfl,A'.p,dx,_,rfl,a11,Yo (by decide +kernel),_,rfl,l1,_,rfl,.inl (SqL.of q1),_,rfl,A'.p,dx,_,rfl,a11,Yo (by decide +kernel),A',S,rfl,SA1,A',S,"draw up",(ts.length:Nat),atV S,rfl,SA1,hz,fun H2 SA2 f2=>?_⟩
 rw[hts] at SA2
 have ok1:l1∉A'.fp:=SA.newOk l1 hl1;have q12:=f2 _ _ q1 ok1;have tl2:=(tl.same s1).mono (SA1.tups f2);obtain⟨⟨dx2,v2,a21,a22⟩,br2,_⟩:=id SA2;refine⟨_,rfl,_,rfl,A'.p,dx2,_,rfl,a21,Yo (by decide +kernel),_,rfl,A',_,l1,ts,ms,rfl,SA2,q12,tl2,by omega,zzg po.2 (by decide),po.small,fun l2 ls H3 h3 il3 s3 f3 fl3=>?_⟩
 have SA3:=SA2.same s3;have mo:Kt (mayS S ms) (S.ppl.map (·.1)):=po.may br2.nd g1
 refine⟨(·∉A'.fp),l1,l2,ts,ls,ms,mayS S ms,_,rfl,s3 _ _ q12,tl2.same s3,h3,il3,ok1,SA2.newOk l2 f3,fun x hx=>SA2.newOk x (fl3 x hx),SA3.newOk,mo,fun q gv H4 ShA FP SP s4 fq=>?_⟩
 have SA4:=SA3.same s4;obtain⟨⟨dx4,v4,a41,a42⟩,_⟩:=id SA4;refine⟨_,rfl,A'.p,a.zkq,dx4,_,rfl,a41,T.zkr,T.zle,(by show 8<1000;decide),?_⟩
 obtain⟨SA5,f5,Sh5⟩:=SA4.newSheet a41 ShA;generalize upd H4 A'.p (.ins a.zkq dx4 (putF "sheet" (.ref q) (seaF A' S.len S.rest v4)))=H5 at SA5 f5 Sh5
 obtain⟨⟨dx5,v5,a51,a52⟩,_⟩:=id SA5;obtain⟨q',rfl,Sq⟩:=a52;obtain⟨dxq,m1,m2,m3,m4,hq'⟩:=ShAt.ins Sq;refine⟨_,rfl,A'.p,a.zkq,dx5,_,_,rfl,a51,T.zkr,T.zle,Wt,q',dxq,_,rfl,hq',S5 (by decide +kernel) (by decide +kernel) (by decide +kernel) (by decide +kernel),(·∉A'.fp),q',_,rfl,Sq,fun l H6 hl s6 fl=>?_⟩
 have fr5:FrS A' H H5:=(FrS.of A' s1).trans (f2.trans ((FrS.of A' (s3.trans s4)).trans f5));exact h4.2 (by omega) l gv H6 hl (SA5.same s6) FP SP (fr5.trans (FrS.of A' s6)) (fr5.free SA5 fl)
noncomputable abbrev Ul:Stmt:=Z4 (top 55) 11
theorem Jy:Zl ["self","at","number"] ["self","at","number"] (Zj Ul):=fnS
theorem Jz(F:Fun K "away" "Season.away" Ul f fd)(T:Tx K mg a)(zk5:Zx P w K mg base a.zkq "check_round" 1 ["self","at"] (Fl (ca a)))(zkw:Zx P w K mg base a.zkt "over" 1 ["self"] (N1 a.zkt))(zk6:Zx P w K mg base a.zku "check_known" 1 ["self","number"] (S4 (ca a)))(zkx:Zx P w K mg base a.zkq "check_room" 1 ["self"] (Fm (ca a)))(zld:Zx P w K mg base a.zkq "note" 1 ["self","word","number","at"] (Fn (ca a)))(zks:Zx P w K mg base a.zkq "at_hand" 2 ["self"] (Us (ca a)))(zmq:Zx P w K mg base a.zkq "step_in" 6 ["self","number"] (Dx (ca a))):Z3 P w K mg base (CX1 P w) 7 f fd ["self","at","number"] (zd7 (ca a)):=by
 refine F.okX Jy (by walk_at "ar") fun _ _ _ _ H _ Q E hr h=>?_
 obtain⟨A',S,i,n,rfl,SA,si,sn,hz,hoz,po,hcur,h⟩:=h;have hu:=W2 hr;refine⟨_,(Zc (Z6 (X2 (pv 0) T.zkr zk5 (hr.mono (by decide)) Zk (Za (pv 1) Zd)))
 (Zc (Z9 (Zm zgj (pv 1) (Yp (Zr (K:=K) rfl (pv 0) rfl) T.zlh zkw (hr.mono (by decide)) Zk) (Zv _))
  (Zf (Xh Xg rfl T.zqe rfl (Za (Vl (Z2 (X1 (by decide +kernel)) (Z2 (Vb (pv 1)) (Z2 (X1 (by decide +kernel)) Vk))) (by decide)) Zd)))
  Zu)
 (Zc (Z6 (X2 (Zr (K:=K) rfl (pv 0) rfl) T.zk8 zk6 (hr.mono (by decide)) Zk (Za (pv 2) Zd)))
 (Zc (Z9 (Sa (Pt hu (Yd (Za (pv 1) (Za (pv 2) Zd))) (Zr (K:=K) rfl (pv 0) rfl)))
  (Zf (Xh Xg rfl T.zp8 rfl (Za (Vl (Z2 (X1 (by decide +kernel)) (Z2 (Vb (pv 2)) (Z2 (X1 (by decide +kernel)) (Z2 (Vb (pv 1)) (Z2 (X1 (by decide +kernel)) Vk))))) (by decide)) Zd)))
  Zu)
 (Zc (Z6 (Yp (pv 0) T.zkr zkx (hr.mono (by decide)) Zk))
 (Zc (Z6 (X2 (pv 0) T.zkr zld (hr.mono (by decide)) Zk (Za Zn (Za (pv 2) (Za (pv 1) Zd)))))
 (Zc (Yl hu (Zr (K:=K) rfl (pv 0) rfl) (Yd (Za (pv 1) (Za (pv 2) Zd))) Rh rfl)
 (Zc (Z9 (PW.pt (Ru (Zm Ri (pv 1) (Yp (pv 0) T.zkr zks (hr.mono (by decide)) Zk) (Zv _)) (Sb (Zm Kj (Zr (K:=K) rfl (pv 0) rfl) Y0 (Zv _)))))
  (Zf (Zo (Ya Zd)))
  Zu)
 (Zf (Zo (X2 (pv 0) T.zkr zmq (hr.mono (by decide)) Zk (Za (pv 2) Zd)))))))))))),?_⟩
 show let y1:TS:=_;let y2:TS:=Zz _ y1;let y3:TS:=Zz _ y2;let y4:TS:=Zz _ y3;let y5:TS:=Zz _ y4;let y6:TS:=Zz _ y5;let y7:TS:=Zz _ y6;let y8:TS:=Zz _ y7;Zz _ y8 _ _ _;intro y1 y2 y3 y4 y5 y6 y7 y8;obtain⟨⟨dx,v,a1,a2⟩,br,cl,⟨kvs,d1,d2⟩,_⟩:=id SA;obtain⟨⟨dxl,hpl⟩,_⟩:=id cl;obtain⟨⟨dxr,kvr,hpr,hdr,en⟩,ndr⟩:=id br;refine⟨_,rfl,A'.p,dx,_,rfl,a1,Yo (by decide +kernel),_,rfl,A',S,i,rfl,SA,si,?_⟩
 refine it2 h (fun _ z=>z) fun h1 h=>?_
 refine⟨_,rfl,_,rfl,A'.p,a.zkq,dx,_,_,rfl,a1,T.zkr,T.zly,Tj,A'.pl,dxl,_,rfl,hpl,Kr (by decide +kernel) (by decide +kernel),A'.pl,A'.lr,A'.ld,S.led,rfl,cl,_,_,rfl,rfl,_,rfl,?_⟩
 refine itD (fun hc=>?_) (fun hc=>?_)
 ·rw[if_pos hc] at h
  exact⟨_,rfl,.inl ⟨_,rfl,si⟩,fun z=>⟨sz1,h⟩⟩
 rw[if_neg hc] at h
 refine Z1 ?_;refine⟨_,rfl,A'.p,a.zkq,dx,_,_,rfl,a1,T.zkr,T.zls,V9,A'.pr,dxr,_,rfl,hpr,Xj.no (by decide +kernel),_,rfl,A'.pr,A'.dr,S.ppl,n,rfl,br,sn,?_⟩
 refine it2 h (fun hk h=>?_) (fun _ z=>z)
 refine⟨_,rfl,_,rfl,sz2,fun t ht=>?_⟩
 have s1:=Ze (o:=.tup [.int i,.int n]) ht;have q1:upd H t (.tup [.int i,.int n]) t=some (.tup (([Sum.inl i,Sum.inl n]:List Key).map kV)):=Zb;generalize upd H t (.tup [.int i,.int n])=H1 at s1 q1
 have SA1:=SA.same s1;have a11:=s1 _ _ a1;refine⟨_,rfl,A'.p,a.zkq,dx,_,_,rfl,a11,T.zkr,T.zmm,Qw,A'.da,_,rfl,DGet.t (k:=[Sum.inl i,Sum.inl n]) (s1 _ _ d1) q1,_,rfl,?_⟩;rw[d2.isSome];refine itD (fun hm=>?_) (fun hm=>?_)
 ·rw[if_pos hm] at h
  exact⟨_,rfl,.inl ⟨_,rfl,sn⟩,_,rfl,.inl ⟨_,rfl,si⟩,fun z=>⟨sz1,h H1 s1⟩⟩
 rw[if_neg hm] at h
 refine Z1 ?_;refine⟨_,rfl,A'.p,dx,_,rfl,a11,Yo (by decide +kernel),A',S,rfl,SA1,?_⟩
 refine it2 h (fun _ z=>z H1 s1) fun h6 h=>?_
 refine⟨_,rfl,A'.p,dx,_,rfl,a11,Yo (by decide +kernel),_,rfl,_,rfl,A',S,"away",n,i,rfl,SA1,hz,fun H2 SA2 f2=>?_⟩
 obtain⟨⟨dx2,v2,a21,a22⟩,br2,cl2,⟨kvs2,d21,d22⟩,_⟩:=id SA2;refine⟨_,rfl,A'.p,a.zkq,dx2,_,_,rfl,a21,T.zkr,T.zmm,Qw,_,rfl,_,rfl,sz2,fun t2 ht2=>?_⟩
 have s3:=Ze (o:=.tup [.int i,.int n]) ht2;have q3:upd H2 t2 (.tup [.int i,.int n]) t2=some (.tup (([Sum.inl i,Sum.inl n]:List Key).map kV)):=Zb;generalize upd H2 t2 (.tup [.int i,.int n])=H3 at s3 q3
 have SA3:=SA2.same s3;refine⟨A'.da,_,rfl,DPut.t (k:=[Sum.inl i,Sum.inl n]) (s3 _ _ d21) q3 (by have:=d22.2;have h9:kvs2.length<=S.out.length:=this;have:=Tp;omega),?_⟩
 obtain⟨SA4,f4⟩:=SA3.setOut (out:=S.out++[(i,n)]) Zb (d22.put i n) (fun b o e hb=>by rw[Zh hb];exact e)
 generalize upd H3 A'.da (.dT (putK kvs2 [Sum.inl i,Sum.inl n] (.bl true)))=H4 at SA4 f4
 have SA4:Zy (ca a) H4 A' (Xn S i n):=SA4;have fr4:FrS A' H H4:=(FrS.of A' s1).trans (f2.trans ((FrS.of A' s3).trans f4));obtain⟨⟨dx4,v4,a41,a42⟩,br4,_⟩:=id SA4;have empty:(S.cur=none\/atV S<i)->∀ l,H4 l=none->Q (.ref l) (upd H4 l (.lst [])):=fun hz l hl=>h.1 hz l _ Zb (SA4.same (Ze hl)) (fr4.trans (FrS.of A' (Ze hl))) (fr4.free SA4 hl)
 refine⟨_,rfl,_,rfl,A'.p,dx4,_,rfl,a41,Yo (by decide +kernel),A',_,rfl,SA4,_,_,rfl,rfl,_,rfl,?_⟩
 refine itD (fun hgt=>?_) (fun hle=>?_)
 ·refine iteT ?_
  exact⟨by show 0<=sizeLine;decide,fun l hl=>empty (.inr hgt) l hl⟩
 have hat:i=atV S:=by
  have hle:¬ (atV S<i):=hle;unfold atV at hle ⊢;omega
 refine⟨_,rfl,A'.p,a.zkq,dx4,_,_,rfl,a41,T.zkr,T.zle,Wt,rfl,_,rfl,?_⟩;cases hc4:S.cur with
 | none =>
   have e4:v4=.non:=by
    have:ShO a.zkv (·∉A'.fp) H4 v4 S.cur:=a42
    rw[hc4] at this;exact this
   rw[e4];refine iteT ?_;exact⟨by show 0<=sizeLine;decide,fun l hl=>empty (.inl hc4) l hl⟩
 | some s =>
   have e4:∃ q,v4=.ref q:=by
    have:ShO a.zkv (·∉A'.fp) H4 v4 S.cur:=a42
    rw[hc4] at this;obtain⟨q,e,_⟩:=this;exact⟨q,e⟩
   obtain⟨q4,rfl⟩:=e4;refine iteF (Z1 ?_);obtain⟨hm20,FP,emay,hgz⟩:=hcur s hc4;have po4:Qb (Xn S i n):=po;have hgl:s.gv.length<=100:=by rw[FP.len,emay];unfold mayS;rw[zyz];omega
   refine⟨_,rfl,A'.p,dx4,_,rfl,a41,Yo (by decide +kernel),_,rfl,A',Xn S i n,n,s,(Xn S i n).ppl.map (·.1),rfl,SA4,hc4,po4,hm20,FP.one,hgl,hgz,po4.may br4.nd hm20,fun hp l H5 hl SA5 f5 fl=>?_,fun p hp=>?_⟩
   ·exact h.2.1 s hat hc4 hp l H5 hl SA5 (fr4.trans f5) (fr4.free SA4 fl)
   ·have hgp:=Ob hp
    refine⟨hgp,fun j hj=>FP.inj j p n hj hgp,?_,fun l us st e w' H5 hl tl CR SA5 f5 fl=>?_⟩
    ·rw[hat,Tq,<- emay]
     exact U3 FP hgp
    ·exact h.2.2 s p hat hc4 hp l us st e w' H5 hl tl CR SA5 (fr4.trans f5) (fr4.free SA4 fl)
noncomputable abbrev Wy:Stmt:=Z4 (top 55) 12
theorem Vz:Zl ["self","number","lists","fallen"] ["self","number"] (Zj Wy):=fnS
theorem Nd(F:Fun K "step_in" "Season.step_in" Wy f fd)(T:Tx K mg a)(zk9:Zx P w K mg base a.zkq "takers_of" 5 ["self","listed"] (P9 (ca a)))(zm3:Zx P w K mg base a.zkv "matches" 1 ["self"] (Mz (ca a)))(zlt:Zx P w K mg base a.zkv "where" 2 ["self","number"] (N6 (ca a)))(zno:Zx P w K mg base a.zkv "barred" 3 ["self","lists"] (Dl (ca a)))(zma:Zx P w K mg base a.zkv "fallen_out" 3 ["self","number","lists"] (Dm (ca a)))(znk:Zx P w K mg base a.zkv "chains" 1 ["self"] (Kz (ca a))):Z3 P w K mg base (CX1 P w) 6 f fd ["self","number"] (Dx (ca a)):=by
 refine F.okX Vz (by walk_at "ar") fun _ _ _ _ H _ Q E hr h=>?_
 obtain⟨A',S,n,s,nu,rfl,SA,hc,po,hml,ho,hgl,hgz,mo,h1,h2⟩:=h;refine⟨_,(Zc (pS 2 Vz.nd (X2 (pv 0) T.zkr zk9 (hr.mono (by decide)) Zk (Za (Yp (Zr (K:=K) rfl (pv 0) rfl) T.zk3 zm3 (hr.mono (by decide)) Zk) Zd)))
 (Zc (Z9 (Zm Kj (X2 (Zr (K:=K) rfl (pv 0) rfl) T.zk3 zlt (hr.mono (by decide)) Zk (Za (pv 1) Zd)) Y0 (Zv _))
  (Zc (Y5 (K:=K) rfl (pv 0) (X2 (Zr (K:=K) rfl (pv 0) rfl) T.zk3 zno (hr.mono (by decide)) Zk (Za (pv 2) Zd)) rfl)
  (Zf (Zo (Ya Zd))))
  Zu)
 (Zc (Y5 (K:=K) rfl (pv 0) (X2 (Zr (K:=K) rfl (pv 0) rfl) T.zk3 zma (hr.mono (by decide)) Zk (Za (pv 1) (Za (pv 2) Zd))) rfl)
 (Zc (pS 3 Vz.nd (Yp (Zr (K:=K) rfl (pv 0) rfl) T.zk3 znk (hr.mono (by decide)) Zk))
 (Zf (Zo (pI (iU K) (pI (iL K) (pv 3) (Mo Rv Zi)) Zi))))))),?_⟩
 obtain⟨⟨dx,v,a1,a2⟩,br,cl,_⟩:=id SA;rw[hc] at a2
 obtain⟨q,rfl,Sq⟩:=a2;obtain⟨dxq,m1,m2,m3,m4,hq⟩:=ShAt.ins Sq;refine⟨_,rfl,A'.p,dx,_,rfl,a1,Yo (by decide +kernel),_,rfl,A'.p,a.zkq,dx,_,_,rfl,a1,T.zkr,T.zle,Wt,q,dxq,_,rfl,hq,S5 (by decide +kernel) (by decide +kernel) (by decide +kernel) (by decide +kernel),(·∉A'.fp),q,s,rfl,Sq,fun l1 ts H1 hl1 tl s1 f1=>?_⟩
 have SA1:=SA.same s1;refine⟨A',S,l1,ts,s.ms,rfl,SA1,hl1,tl,by omega,zzg po.2 (by decide),po.small,fun l2 ls H2 h3 il3 s2 f3 fl3=>?_⟩
 have s12:=s1.trans s2;have SA2:=SA1.same s2;have Sq2:=Sq.same s12;refine⟨_,rfl,A'.p,a.zkq,dx,_,_,rfl,s12 _ _ a1,T.zkr,T.zle,Wt,q,dxq,_,rfl,s12 _ _ hq,S5 (by decide +kernel) (by decide +kernel) (by decide +kernel) (by decide +kernel),_,rfl,(·∉A'.fp),q,s,n,rfl,Sq2,ho,hgl,fun H3 s3=>?_⟩
 have s13:=s12.trans s3;have SA3:=SA2.same s3;have Sq3:=Sq2.same s3;have il4:=il3.same s3;refine⟨rfl,_,rfl,?_⟩;cases hp:Wr s.gv n with
 | none =>
   refine iteT ?_;refine⟨_,rfl,A'.p,a.zkq,dx,_,_,rfl,s13 _ _ a1,T.zkr,T.zle,Wt,q,dxq,_,rfl,s13 _ _ hq,S5 (by decide +kernel) (by decide +kernel) (by decide +kernel) (by decide +kernel),_,rfl,(·∉A'.fp),q,l2,ls,mayS S s.ms,s,rfl,Sq3,s3 _ _ h3,il4,SA1.newOk l2 f3,fun x hx=>SA1.newOk x (fl3 x hx),SA3.newOk,fun q' H4 ShA s4 fq=>?_⟩
   have SA4:=SA3.same s4;obtain⟨⟨dx4,v4,a41,a42⟩,_⟩:=id SA4;refine⟨_,rfl,A'.p,a.zkq,dx4,_,rfl,a41,T.zkr,T.zle,(by show 8<1000;decide),?_⟩
   obtain⟨SA5,f5,Sh5⟩:=SA4.newSheet a41 ShA;generalize upd H4 A'.p (.ins a.zkq dx4 (putF "sheet" (.ref q') (seaF A' S.len S.rest v4)))=H5 at SA5 f5 Sh5
   have fr5:FrS A' H H5:=(FrS.of A' (s13.trans s4)).trans f5;refine⟨by show 0<=sizeLine;decide,fun l hl=>?_⟩
   exact h1 hp l _ Zb (SA5.same (Ze hl)) (fr5.trans (FrS.of A' (Ze hl))) (fr5.free SA5 hl)
 | some p =>
   refine iteF (Z1 ?_);obtain⟨hgp,hun,FP,h3'⟩:=h2 p hp;refine⟨_,rfl,A'.p,a.zkq,dx,_,_,rfl,s13 _ _ a1,T.zkr,T.zle,Wt,q,dxq,_,rfl,s13 _ _ hq,S5 (by decide +kernel) (by decide +kernel) (by decide +kernel) (by decide +kernel),_,rfl,_,rfl,(·∉A'.fp),q,l2,ls,mayS S s.ms,nu,s,n,p,rfl,Sq3,s3 _ _ h3,il4,SA1.newOk l2 f3,fun x hx=>SA1.newOk x (fl3 x hx),SA3.newOk,mo,ho,hgp,hun,FP,by omega,fun q' st e w' H4 ShA CR s4 fq=>?_⟩
   have SA4:=SA3.same s4;obtain⟨⟨dx4,v4,a41,a42⟩,_⟩:=id SA4;refine⟨_,rfl,A'.p,a.zkq,dx4,_,rfl,a41,T.zkr,T.zle,(by show 8<1000;decide),?_⟩
   obtain⟨SA5,f5,Sh5⟩:=SA4.newSheet a41 ShA;generalize upd H4 A'.p (.ins a.zkq dx4 (putF "sheet" (.ref q') (seaF A' S.len S.rest v4)))=H5 at SA5 f5 Sh5
   have fr5:FrS A' H H5:=(FrS.of A' (s13.trans s4)).trans f5;obtain⟨⟨dx5,v5,a51,a52⟩,_⟩:=id SA5;obtain⟨q5,rfl,Sq5⟩:=a52;obtain⟨dxq5,m51,m52,m53,m54,hq5⟩:=ShAt.ins Sq5;refine⟨_,rfl,A'.p,a.zkq,dx5,_,_,rfl,a51,T.zkr,T.zle,Wt,q5,dxq5,_,rfl,hq5,S5 (by decide +kernel) (by decide +kernel) (by decide +kernel) (by decide +kernel),(·∉A'.fp),q5,_,rfl,Sq5,by show (s.gaps++[(n,st)]).length<=1000;rw[zy2];show s.gaps.length+1<=1000;omega,fun l us H6 hl gl s6 fl=>?_⟩
   obtain⟨vs',t,l',us',rfl,ht,hl',tl',ok',_⟩:=Wn.unsnoc gl;refine⟨_,rfl,_,rfl,l,_,_,_,rfl,rfl,SqL.of hl,atI_last,t,_,_,_,rfl,rfl,SqT.of ht,rfl,?_⟩;exact h3' l' us' st e w' H6 hl' tl' CR (SA5.same s6) (fr5.trans (FrS.of A' s6)) (fr5.free SA5 ok')
noncomputable abbrev V0:Stmt:=Z4 (top 55) 13
theorem Ro:Zl ["self","sheet"] ["self"] (Zj V0):=fnS
theorem L6(F:Fun K "close" "Season.close" V0 f fd)(T:Tx K mg a)(zk0:Zx P w K mg base a.zkq "check_not_over" 3 ["self"] (N7 (ca a)))(zk2:Zx P w K mg base a.zkq "sheet_at_hand" 1 ["self"] (P8 (ca a)))(znn:Zx P w K mg base a.zkt "write" 1 ["self","rows"] (Dk a.zkt))(zn3:Zx P w K mg base a.zkv "rows" 1 ["self"] (Dq (ca a)))(zkw:Zx P w K mg base a.zkt "over" 1 ["self"] (N1 a.zkt)):Z3 P w K mg base (CX1 P w) 4 f fd ["self"] (zag (ca a)):=by
 refine F.okX Ro (by walk_at "ar") fun _ _ _ _ H _ Q E hr h=>?_
 obtain⟨A',S,rfl,SA,ht,hl,hol,hcur,h⟩:=h;refine⟨_,(Zc (Z6 (Yp (pv 0) T.zkr zk0 (hr.mono (by decide)) Zk))
 (Zc (pS 1 Ro.nd (Yp (pv 0) T.zkr zk2 (hr.mono (by decide)) Zk))
 (Zc (Z6 (X2 (Zr (K:=K) rfl (pv 0) rfl) T.zlh znn (hr.mono (by decide)) Zk (Za (Yp (pv 1) T.zk3 zn3 (hr.mono (by decide)) Zk) Zd)))
 (Zc (Yv (Zr (K:=K) rfl (pv 0) rfl) (pv 1))
 (Zc (Y5 (K:=K) rfl (pv 0) Y0 rfl)
 (Zc (Y5 (K:=K) rfl (pv 0) (Ya Zd) rfl)
 (Zf (Zo (Yp (Zr (K:=K) rfl (pv 0) rfl) T.zlh zkw (hr.mono (by decide)) Zk))))))))),?_⟩
 obtain⟨⟨dx,v,a1,a2⟩,br,cl,_⟩:=id SA;obtain⟨⟨dxl,hpl⟩,_⟩:=id cl;refine⟨_,rfl,A'.p,dx,_,rfl,a1,Yo (by decide +kernel),A',S,rfl,SA,?_⟩
 refine it2 h (fun _ z=>z) fun h1 h=>?_
 refine⟨_,rfl,A'.p,dx,_,rfl,a1,Yo (by decide +kernel),A',S,rfl,SA,h.1,fun s q hc Sq=>?_⟩
 obtain⟨ho,hgl,hml⟩:=hcur s hc;obtain⟨dxq,m1,m2,m3,m4,hq⟩:=ShAt.ins Sq;refine⟨_,rfl,A'.p,a.zkq,dx,_,_,rfl,a1,T.zkr,T.zly,Tj,A'.pl,dxl,_,rfl,hpl,Kr (by decide +kernel) (by decide +kernel),_,rfl,q,dxq,_,rfl,hq,S5 (by decide +kernel) (by decide +kernel) (by decide +kernel) (by decide +kernel),(·∉A'.fp),q,s,rfl,Sq,ho,hgl,hml,fun l1 ts H1 hl1 tl s1 f1=>?_⟩
 have SA1:=SA.same s1;have ok1:l1∉A'.fp:=SA.newOk l1 f1;refine⟨A'.pl,A'.lr,A'.ld,S.led,l1,ts,Ye s,rfl,SA1.led,hl1,fun z=>ok1 (by rw[z];simp[SAd.fp]),tl,by rw[Dr hgl];omega,hl,fun H2 L2' k2=>?_⟩
 obtain⟨SA2,f2⟩:=SA1.setLed L2' k2;obtain⟨⟨dx2,v2,a21,a22⟩,br2,cl2,d2,⟨vs,f21,f22⟩,_⟩:=id SA2;have Sq2:=(Sq.same s1).keep (fun x o hx e=>f2 x o e hx) (SA1.tups f2)
 refine⟨_,rfl,A'.p,a.zkq,dx2,_,_,rfl,a21,T.zkr,T.znc,Gu,A'.ls,vs,rfl,f21,_,rfl,vs,f21,by have:=f22.length;have h9:vs.length=S.old.length:=this;have:=Tp;omega,?_⟩
 have k3:∀ b o,H2 b=some o->b≠A'.ls->upd H2 A'.ls (.lst (vs++[.ref q])) b=some o:=fun b o e hb=>by rw[Zh hb];exact e
 have kt3:∀ t xs,H2 t=some (.tup xs)->upd H2 A'.ls (.lst (vs++[.ref q])) t=some (.tup xs):=fun t xs e=>k3 t _ e (Ym e f21 (fun z=>nomatch z))
 have ko3:∀ x o,x∉A'.fp->H2 x=some o->upd H2 A'.ls (.lst (vs++[.ref q])) x=some o:=fun x o hx e=>k3 x o e fun z=>hx (by rw[z];simp[SAd.fp])
 obtain⟨SA3,f3⟩:=SA2.setOld (old:=S.old++[s]) Zb ((f22.keep ko3 kt3).snoc (Sq2.keep ko3 kt3)) k3;generalize upd H2 A'.ls (.lst (vs++[.ref q]))=H3 at SA3 f3
 obtain⟨⟨dx3,v3,a31,a32⟩,_⟩:=id SA3;refine⟨_,rfl,A'.p,a.zkq,dx3,_,rfl,a31,T.zkr,T.zle,(by show 8<1000;decide),?_⟩
 obtain⟨SA4,f4⟩:=SA3.setCur (H':=upd H3 A'.p (.ins a.zkq dx3 (putF "sheet" .non (seaF A' S.len S.rest v3)))) (cur:=none) (v:=.non) ⟨dx3,by rw[Zb];exact congrArg (fun x=>some (HO.ins a.zkq dx3 x)) Oa⟩ rfl (fun b o e hb=>by rw[Zh hb];exact e)
 generalize upd H3 A'.p (.ins a.zkq dx3 (putF "sheet" .non (seaF A' S.len S.rest v3)))=H4 at SA4 f4
 obtain⟨⟨dx4,v4,a41,a42⟩,_⟩:=id SA4;refine⟨by show 0<=sizeLine;decide,fun x hx=>?_⟩
 have npx:A'.p≠x:=Zg a41 hx;refine⟨_,rfl,A'.p,a.zkq,dx4,_,rfl,(by rw[Zh npx];exact a41),T.zkr,T.zlm,(by show 8<1000;decide),?_⟩
 obtain⟨SA5,f5⟩:=SA4.freshStd hx a41 a42 rfl;have fr4:FrS A' H H4:=(FrS.of A' s1).trans (f2.trans (f3.trans f4));have fx:H x=none:=fr4.free SA4 hx;generalize upd (upd H4 x (.lst [])) A'.p (.ins a.zkq dx4 (putF "standing" (.ref x) (seaF A' S.len S.rest v4)))=H5 at SA5 f5
 have SA5:Zy (ca a) H5 { A' with lt:=x } (Fp S s):=SA5
 obtain⟨⟨dx5,v5,a51,a52⟩,br5,cl5,_⟩:=id SA5;obtain⟨⟨dxl5,hpl5⟩,_⟩:=id cl5;refine⟨_,rfl,A'.p,a.zkq,dx5,_,_,rfl,a51,T.zkr,T.zly,Tj,A'.pl,dxl5,_,rfl,hpl5,Kr (by decide +kernel) (by decide +kernel),A'.pl,A'.lr,A'.ld,S.led++[Ye s],rfl,cl5,?_⟩
 have hfin:=h.2 s x H5 hc SA5 (fr4.trans f5) fx;have e:(((S.led++[Ye s]).length:Nat):Int)=atV S:=by rw[zy2];rfl
 rw[e];exact hfin
noncomputable abbrev Wa:Stmt:=Z4 (top 55) 14
theorem W3:Zl ["self","last","deed"] ["self"] (Zj Wa):=fnS
theorem Ph(F:Fun K "take_back" "Season.take_back" Wa f fd)(T:Tx K mg a)(zm4:Zx P w K mg base a.zku "strike" 1 ["self","number"] (Df (ca a))):Z3 P w K mg base (CX1 P w) 2 f fd ["self"] (K4 (ca a)):=by
 refine F.okX W3 (by walk_at "ar") fun _ _ _ _ H _ Q E hr h=>?_
 obtain⟨A',S,rfl,SA,h1,h2⟩:=h;have hu:=W2 hr;refine⟨_,(Zc (Z9 (Kh (Gf (K:=K) rfl (Zr (K:=K) rfl (pv 0) rfl) (fun _=>rfl)))
  (Zf (Xh Xg rfl T.zom rfl (Za Zn Zd)))
  Zu)
 (Zc (pS 1 W3.nd (zc8 PySem.F.plainAttrs_list PySem.F.slot_list_pop PySem.F.type_list_pop zhp (Zr (K:=K) rfl (pv 0) rfl)))
 (Zc (pS 2 W3.nd (pI (iU K) (pv 1) Zi))
 (Zc (Y5 (K:=K) rfl (pv 0) (pI (iU K) (pv 1) Zi) rfl)
 (Zc (Z9 (Zm Wq (pI (iU K) (pv 2) Zi) Zn (Zv _))
  (Zf (Z6 (X2 (Zr (K:=K) rfl (pv 0) rfl) T.zk8 zm4 (hr.mono (by decide)) Zk (Za (pI (iU K) (pv 2) Zi) Zd))))
  Zu)
 (Zc (Z9 (Zm Wq (pI (iU K) (pv 2) Zi) Zn (Zv _))
  (Zf (Z6 (zd2 hu (Zr (K:=K) rfl (pv 0) rfl) (Yd (Za (pI (iU K) (pv 2) Zi) (Za (pI (iU K) (pv 2) Zi) Zd))) ⟨rfl,rfl,rfl,rfl⟩)))
  Zu)
 (Zf (Zo (pv 2))))))))),?_⟩
 show let y1:TS:=_;let y2:TS:=Zz _ y1;let y3:TS:=Zz _ y2;let y4:TS:=Zz _ y3;let y5:TS:=Zz _ y4;let y6:TS:=Zz _ y5;Zz _ y6 _ _ _;intro y1 y2 y3 y4 y5 y6;obtain⟨⟨dx,v,a1,a2⟩,br,cl,d0,f0,⟨us,g1,g2⟩,_⟩:=id SA;refine⟨_,rfl,A'.p,a.zkq,dx,_,_,rfl,a1,T.zkr,T.zlm,T1,_,.inl ⟨_,SqL.of g1,rfl⟩,?_⟩;have hul:=g2.length;rcases List.eq_nil_or_concat S.std with hn|⟨std',⟨d,s⟩,he⟩
 ·rw[hn] at hul
  have hu0:us=[]:=z0e.mp hul;rw[hu0];exact iteT ⟨sz1,h1 hn⟩
 have he:S.std=std'++[(d,s)]:=by rw[he,List.concat_eq_append]
 rw[he] at g2
 obtain⟨vs',t,u,v',rfl,ht,hu',hs,g3⟩:=Uw.unsnoc g2;have hne:(vs'++[V.ref t]).isEmpty=false:=by cases vs'<;>rfl
 rw[hne];refine iteF (Z1 ?_);obtain⟨ppl,out,hbk,hfin⟩:=h2 std' d s he;refine⟨_,rfl,A'.p,a.zkq,dx,_,_,rfl,a1,T.zkr,T.zlm,T1,.inl ⟨rfl,_,SqL.of g1⟩,A'.lt,_,V.ref t,rfl,rfl,g1,by simp,?_⟩
 rw[List.dropLast_concat];have k1:∀ b o,H b=some o->b≠A'.lt->upd H A'.lt (.lst vs') b=some o:=fun b o e hb=>by rw[Zh hb];exact e
 have kt1:∀ t xs,H t=some (.tup xs)->upd H A'.lt (.lst vs') t=some (.tup xs):=fun t xs e=>k1 t _ e (Ym e g1 (fun z=>nomatch z))
 have ko1:∀ x o,x∉A'.fp->H x=some o->upd H A'.lt (.lst vs') x=some o:=fun x o hx e=>k1 x o e fun z=>hx (by rw[z];simp[SAd.fp])
 obtain⟨SA1,f1⟩:=SA.setStd (std:=std') Zb (g3.keep ko1 kt1) k1;have ht1:=kt1 _ _ ht;have hu1:=kt1 _ _ hu';have hs1:=hs.keep ko1 kt1;generalize upd H A'.lt (.lst vs')=H1 at SA1 f1 ht1 hu1 hs1
 refine⟨_,rfl,t,_,_,_,rfl,rfl,SqT.of ht1,rfl,?_⟩;obtain⟨⟨dx1,v1,a11,a12⟩,_⟩:=id SA1;refine⟨_,rfl,t,_,_,_,rfl,rfl,SqT.of ht1,rfl,_,rfl,A'.p,a.zkq,dx1,_,rfl,a11,T.zkr,T.zle,(by show 8<1000;decide),?_⟩
 have k2:∀ b o,H1 b=some o->b≠A'.p->upd H1 A'.p (.ins a.zkq dx1 (putF "sheet" v' (seaF A' S.len S.rest v1))) b=some o:=fun b o e hb=>by rw[Zh hb];exact e
 have kt2:∀ t xs,H1 t=some (.tup xs)->upd H1 A'.p (.ins a.zkq dx1 (putF "sheet" v' (seaF A' S.len S.rest v1))) t=some (.tup xs):=fun t xs e=>k2 t _ e (Ym e a11 (fun z=>nomatch z))
 obtain⟨SA2,f2⟩:=SA1.setCur (cur:=s) (v:=v') ⟨dx1,by rw[Zb];exact congrArg (fun x=>some (HO.ins a.zkq dx1 x)) Oa⟩ (hs1.keep (fun x o hx e=>k2 x o e fun z=>hx (by rw[z];simp[SAd.fp])) kt2) k2
 have hu2:=kt2 _ _ hu1;generalize upd H1 A'.p (.ins a.zkq dx1 (putF "sheet" v' (seaF A' S.len S.rest v1)))=H2 at SA2 f2 hu2
 have fr2:=f1.trans f2;have d0:atI (Pm d) 0=some (.str d.1):=rfl;have d1:atI (Pm d) 1=some (.int d.2.1):=rfl;have d2:atI (Pm d) 2=some (.int d.2.2):=rfl;have es:∀ w:Str,decide (V.str d.1=V.str w)=decide (d.1=w):=fun w=>by
  by_cases z:d.1=w
  ·rw[zy4 z,zy4 (congrArg V.str z)]
  ·rw[zzb z,zzb (fun q=>z (V.str.inj q))]
 walk_at "if";refine Sy ?_;refine⟨_,rfl,u,_,_,_,rfl,rfl,SqT.of hu2,d0,rfl,_,rfl,?_⟩;rw[es];obtain⟨⟨dx2,v2,a21,a22⟩,br2,cl2,⟨kvs2,e21,e22⟩,_⟩:=id SA2;have n1:¬ (("enrol":Str)="away"):=by decide +kernel
 have n2:¬ (("draw up":Str)="away"):=by decide +kernel
 have n3:¬ (("draw up":Str)="enrol"):=by decide +kernel
 have n4:¬ (("away":Str)="enrol"):=by decide +kernel
 rcases hbk with ⟨hd,⟨g,c0,hp⟩,ho⟩|⟨hd,hp,ho,hno⟩|⟨hd,hp,ho⟩
 ·rw[zy4 hd]
  refine iteT ?_;obtain⟨⟨dxr,kvr,hpr,hdr,en⟩,ndr⟩:=id br2;refine⟨_,rfl,A'.p,a.zkq,dx2,_,_,rfl,a21,T.zkr,T.zls,V9,A'.pr,dxr,_,rfl,hpr,Xj.no (by decide +kernel),_,rfl,u,_,_,_,rfl,rfl,SqT.of hu2,d1,A'.pr,A'.dr,ppl,d.2.1,g,c0,rfl,(show Xj a.zku H2 A'.pr A'.dr (ppl++[(d.2.1,g,c0)]) by have:Xj a.zku H2 A'.pr A'.dr S.ppl:=br2;rw[hp] at this;exact this),fun H3 R3 k3=>?_⟩
  obtain⟨SA3,f3⟩:=SA2.setRos R3 k3;have hu3:=SA2.tups f3 _ _ hu2;refine⟨_,rfl,u,_,_,_,rfl,rfl,SqT.of hu3,d0,rfl,_,rfl,?_⟩;rw[es,zzb (by rw[hd];exact n1)]
  refine iteF (Z1 ⟨_,rfl,?_⟩);refine hfin u H3 hu3 ?_ (fr2.trans f3);rw[ho];exact SA3
 ·rw[zzb (by rw[hd];exact n4)]
  refine iteF (Z1 ?_);refine⟨_,rfl,u,_,_,_,rfl,rfl,SqT.of hu2,d0,rfl,_,rfl,?_⟩;rw[es,zy4 hd];refine iteT ?_;refine⟨_,rfl,A'.p,a.zkq,dx2,_,_,rfl,a21,T.zkr,T.zmm,Qw,A'.da,rfl,.inr ⟨kvs2,.inl e21⟩,_,rfl,u,_,_,_,rfl,rfl,SqT.of hu2,d2,_,rfl,u,_,_,_,rfl,rfl,SqT.of hu2,d1,sz2,fun tk htk=>?_⟩
  have s3:=Ze (o:=.tup [.int d.2.2,.int d.2.1]) htk;have q3:upd H2 tk (.tup [.int d.2.2,.int d.2.1]) tk=some (.tup (([Sum.inl d.2.2,Sum.inl d.2.1]:List Key).map kV)):=Zb;generalize upd H2 tk (.tup [.int d.2.2,.int d.2.1])=H3 at s3 q3
  have SA3:=SA2.same s3;have e22:R9 kvs2 S.out:=e22;rw[ho] at e22
  have hv:∃ vv,valV kvs2 [Sum.inl d.2.2,Sum.inl d.2.1]=some vv:=z0d.mp (by rw[e22.1,zy4 (by simp)])
  obtain⟨vv,hv⟩:=hv;refine⟨kvs2,[Sum.inl d.2.2,Sum.inl d.2.1],tk,vv,s3 _ _ e21,rfl,q3,hv,?_⟩;obtain⟨SA4,f4⟩:=SA3.setOut (out:=out) Zb (e22.drop hno) (fun b o e hb=>by rw[Zh hb];exact e)
  have hu4:=SA3.tups f4 _ _ (s3 _ _ hu2);refine⟨_,rfl,hfin u _ hu4 ?_ (fr2.trans ((FrS.of A' s3).trans f4))⟩;rw[hp];exact SA4
 ·rw[zzb (by rw[hd];exact n3)]
  refine iteF (Z1 ?_);refine⟨_,rfl,u,_,_,_,rfl,rfl,SqT.of hu2,d0,rfl,_,rfl,?_⟩;rw[es,zzb (by rw[hd];exact n2)]
  refine iteF (Z1 ⟨_,rfl,hfin u H2 hu2 ?_ fr2⟩);rw[hp,ho];exact SA2
noncomputable abbrev Wz:Stmt:=Z4 (top 55) 15
theorem Nf:Zl ["self"] ["self"] (Zj Wz):=fnS
theorem Ng(F:Fun K "at_hand" "Season.at_hand" Wz f fd)(T:Tx K mg a)(zkw:Zx P w K mg base a.zkt "over" 1 ["self"] (N1 a.zkt)):Z3 P w K mg base (CX1 P w) 2 f fd ["self"] (Us (ca a)):=by
 refine F.okX Nf (by walk_at "ar") fun _ _ _ _ H _ Q E hr h=>?_
 obtain⟨A',S,rfl,SA,h⟩:=h;refine⟨_,(Zf (Zo (Zp Ys (Yp (Zr (K:=K) rfl (pv 0) rfl) T.zlh zkw (hr.mono (by decide)) Zk) Zi))),?_⟩
 obtain⟨⟨dx,v,a1,a2⟩,b,c,_⟩:=id SA;obtain⟨⟨dxl,hpl⟩,_⟩:=id c;refine⟨_,rfl,A'.p,a.zkq,dx,_,_,rfl,a1,T.zkr,T.zly,Tj,A'.pl,dxl,_,rfl,hpl,Kr (by decide +kernel) (by decide +kernel),A'.pl,A'.lr,A'.ld,S.led,rfl,c,_,_,rfl,rfl,?_⟩
 exact h
noncomputable abbrev Um:Stmt:=Z4 (top 55) 21
theorem J0:Zl ["self","at"] ["self","at"] (Zj Um):=fnS
theorem J1(F:Fun K "goes" "Season.goes" Um f fd)(T:Tx K mg a)(zmh:Zx P w K mg base a.zkq "sheet_of" 3 ["self","at"] (Gv (ca a)))(zl5:Zx P w K mg base a.zkv "goes" 1 ["self"] (Ky (ca a))):Z3 P w K mg base (CX1 P w) 4 f fd ["self","at"] (zd9 (ca a)):=by
 refine F.okX J0 (by walk_at "ar") fun _ _ _ _ H _ Q E hr h=>?_
 obtain⟨A',S,i,rfl,SA,hr0⟩:=h;refine⟨_,(Zf (Zo (Yp (X2 (pv 0) T.zkr zmh (hr.mono (by decide)) Zk (Za (pv 1) Zd)) T.zk3 zl5 (hr.mono (by decide)) Zk))),?_⟩
 obtain⟨si,hol,h⟩:=hr0;obtain⟨⟨dx,v,a1,a2⟩,_⟩:=id SA;refine⟨_,rfl,A'.p,dx,_,rfl,a1,Yo (by decide +kernel),_,rfl,A',S,i,rfl,SA,si,hol,it2 h (fun _ z=>z) fun hn h=>⟨h.1,fun s q hs Sq=>?_⟩⟩
 obtain⟨dxq,m1,m2,m3,m4,hq⟩:=ShAt.ins Sq;exact⟨q,dxq,_,rfl,hq,S5 (by decide +kernel) (by decide +kernel) (by decide +kernel) (by decide +kernel),(·∉A'.fp),q,s,rfl,Sq,fun l H' a b c=>h.2 s hs l H' a b c⟩
noncomputable abbrev T4:Stmt:=top 57
theorem Ec:Zl ["_law_found"] ["_law_found"] (Zj T4):=fnS
theorem Ed(F:Fun K "_law_whole" "_law_whole" T4 f fd)(T:Tx K mg a):Z3 P w K mg base (CX1 P w) 1 f fd ["_law_found"] Fe:=by
 refine F.okX Ec (by walk_at "ar") fun _ _ _ _ H _ Q E hr h=>?_
 obtain⟨i,rfl,h⟩:=h;refine⟨_,(Zf (Zo (zck (Zw (Ny (K:=K) rfl) (by rfl) T.zlp PyProof.Rows.boot_isinstance (Za (pv 0) (Za (G4 rfl T.zp2 PyProof.Rows.boot_int (show RelV (.ty "int") _ from rfl)) Zd))) (zcj (zg2 (Zw (Ny (K:=K) rfl) (by rfl) T.zlp PyProof.Rows.boot_isinstance (Za (pv 0) (Za (G4 rfl T.zp1 PyProof.Rows.boot_bool (show RelV (.ty "bool") _ from rfl)) Zd)))))))),?_⟩
 refine⟨_,rfl,_,_,_,_,rfl,.of (.int i),.inl ⟨_,rfl⟩,zhv K,_,rfl,?_⟩;refine iteT ?_;exact⟨_,rfl,_,_,_,_,rfl,.of (.int i),.inl ⟨_,rfl⟩,zhw K,_,rfl,h⟩
noncomputable abbrev Nh:Stmt:=top 58
theorem zcc:Zl ["_law_script","_law_k"] ["_law_script","_law_k"] (Zj Nh):=fnS
theorem zcd(F:Fun K "_law_at" "_law_at" Nh f fd)(T:Tx K mg a):Z3 P w K mg base (CX1 P w) 1 f fd ["_law_script","_law_k"] (Bm K):=by
 refine F.okX zcc (by walk_at "ar") fun _ _ _ _ H _ Q E hr h=>?_
 obtain⟨b,ns,k,rfl,hs,h⟩:=h;refine⟨_,(Zc (Z9 (Zm Ai (pv 1) (Zw (cL K) (by rfl) T.zlc PySem.boot_len (Za (pv 0) Zd)) (Zv _))
  (Zf (Zo (pI (iL K) (pv 0) (pv 1))))
  Zu)
 (Zf (Zo Zi))),?_⟩
 refine⟨_,rfl,_,rfl,b,_,rfl,.inl hs,_,_,rfl,rfl,_,rfl,?_⟩;rw[zyz];refine itD (fun hk=>?_) (fun hk=>?_)
 ·have hk':k<ns.length:=by omega
  refine⟨_,rfl,_,rfl,b,_,_,_,rfl,rfl,hs,Y4 (show (ns.map V.int)[k]?=some (.int (Y8 ns k)) from ?_),h⟩
  unfold Y8;rw[zy5,zy1 hk'];rfl
 ·have e:Y8 ns k=0:=by unfold Y8;rw[List.getElem?_eq_none (by omega)];rfl
  rw[e] at h
  exact h
noncomputable abbrev Q5:Stmt:=top 59
theorem Ra:Zl ["_law_cell_here","_law_k","_law_one","_law_two","_law_three"] ["_law_cell_here","_law_k"] (Zj Q5):=fnS
theorem Ac(F:Fun K "_law_mix" "_law_mix" Q5 f fd)(T:Tx K mg a):Z3 P w K mg base (CX1 P w) 1 f fd ["_law_cell_here","_law_k"] Ay:=by
 refine F.okX Ra (by walk_at "ar") fun _ _ _ _ H _ Q E hr h=>?_
 obtain⟨c,k,rfl,h⟩:=h;refine⟨_,(Zc (pS 2 Ra.nd (Zp Yn (Zp Ys (Zp Uv (pv 0) Zi) (pv 1)) Zi))
 (Zc (pS 3 Ra.nd (Zp Yn (Zp Ys (Zp Uv (pv 2) Zi) (Zp Uv Zi (pv 1))) Zi))
 (Zc (pS 4 Ra.nd (Zp Yn (Zp Ys (Zp Uv (pv 3) Zi) (pv 2)) Zi))
 (Zf (Zo (Zp Ys (Zp Uv (Zp Ys (Zp Uv (pv 2) Zi) (pv 3)) Zi) (pv 4))))))),?_⟩
 walk_at "rd";exact h
noncomputable abbrev Yi:Stmt:=top 60
theorem Qm:Zl ["_law_cell_here","_law_many","_law_step"] ["_law_cell_here","_law_many"] (Zj Yi):=fnS
@[irreducible] noncomputable def V1:List Expr:=zbu (D5 (Q9 (Xl (Zs Yi) 0)))
@[irreducible] noncomputable def Qn:Pos:=zbv (D5 (Q9 (Xl (Zs Yi) 0)))
theorem Mj:Zs Yi=[.Assign (zeb (Xl (Zs Yi) 0)) (.Subscript (.List V1 Qn) (zfy (Q9 (Xl (Zs Yi) 0))) (zfz (Q9 (Xl (Zs Yi) 0)))) (stP (Xl (Zs Yi) 0)),Xl (Zs Yi) 1]:=by unfold V1 Qn;kernel_rfl
theorem Ml:K7 V1 [1,2,5,10,100,500,998]:=by unfold V1;exact⟨by kernel_rfl,by kernel_rfl⟩
theorem J2(F:Fun K "_law_numbers" "_law_numbers" Yi f fd)(T:Tx K mg a):Z3 P w K mg base (CX1 P w) 1 f fd ["_law_cell_here","_law_many"] Kq:=by
 refine F.okX Qm (by walk_at "ar") fun _ _ _ _ H _ Q E hr h=>?_
 obtain⟨c,m,rfl,hm,h⟩:=h;rw[Mj];refine⟨_,(Zc (pS 2 Qm.nd (pI (iL K) (Ya (Qx [1,2,5,10,100,500,998] Ml)) (Zp Yn (pv 0) Zi)))
 (Zf (Zo (Ut rfl (cT ["_law_cell_here","_law_step"] [0,2]) (V8 rfl T.zl9 (Za (pv 1) Zd)) (fun _ _ _ _ _=>Uc) (fun _ _ _ _ _=>(Zp Ys Zi (Zp Yn (Zp Ys (Zp Y3 (pv 1) Zi) (Zp Uv (pv 2) (pv 0))) Zi))))))),?_⟩
 refine⟨by show 7<=sizeLine;decide,fun p0 hp0=>?_⟩
 walk_at "rd";refine⟨p0,_,_,_,rfl,rfl,SqL.of Zb,Wd (xs:=[1,2,5,10,100,500,998]) (by omega) (by show c%7<7;omega),?_⟩
 refine⟨_,rfl,_,rfl,by omega,by omega,Ge (fun j=>V.int (zbb c j)) (by rw[zzm];exact zzg hm (by decide)) (fun i R hi k=>?_) (fun p hp=>?_)⟩
 ·rw[zzm] at hi
  walk_at "rd";refine⟨.inr ⟨by omega,by omega⟩,?_⟩
  walk_at "rd";rw[z1d];exact k
 ·rw[zzm]
  refine h p _ ?_ ((Ze hp0).trans (Ze hp)) ((Ze hp0).free hp);rw[Zb];unfold Mw;rw[z0o];rfl
noncomputable abbrev Yy:Stmt:=top 61
theorem Ni:Zl ["_law_cell_here","_law_many","_law_step"] ["_law_cell_here","_law_many"] (Zj Yy):=fnS
@[irreducible] noncomputable def Td:List Expr:=zbu (D5 (Q9 (Xl (Zs Yy) 0)))
@[irreducible] noncomputable def Nj:Pos:=zbv (D5 (Q9 (Xl (Zs Yy) 0)))
theorem J3:Zs Yy=[.Assign (zeb (Xl (Zs Yy) 0)) (.Subscript (.List Td Nj) (zfy (Q9 (Xl (Zs Yy) 0))) (zfz (Q9 (Xl (Zs Yy) 0)))) (stP (Xl (Zs Yy) 0)),Xl (Zs Yy) 1]:=by unfold Td Nj;kernel_rfl
theorem J4:K7 Td [1,2,5,10,50,97,98]:=by unfold Td;exact⟨by kernel_rfl,by kernel_rfl⟩
theorem Ee(F:Fun K "_law_clubs" "_law_clubs" Yy f fd)(T:Tx K mg a):Z3 P w K mg base (CX1 P w) 1 f fd ["_law_cell_here","_law_many"] Az:=by
 refine F.okX Ni (by walk_at "ar") fun _ _ _ _ H _ Q E hr h=>?_
 obtain⟨c,m,rfl,hm,h⟩:=h;rw[J3];refine⟨_,(Zc (pS 2 Ni.nd (pI (iL K) (Ya (Qx [1,2,5,10,50,97,98] J4)) (Zp Yn (pv 0) Zi)))
 (Zf (Zo (Ut rfl (cT ["_law_cell_here","_law_step"] [0,2]) (V8 rfl T.zl9 (Za (pv 1) Zd)) (fun _ _ _ _ _=>Uc) (fun _ _ _ _ _=>(Zp Ys Zi (Zp Yn (Zp Ys (Zp Y3 (pv 1) Zi) (Zp Uv (pv 2) (pv 0))) Zi))))))),?_⟩
 refine⟨by show 7<=sizeLine;decide,fun p0 hp0=>?_⟩
 walk_at "rd";refine⟨p0,_,_,_,rfl,rfl,SqL.of Zb,Wd (xs:=[1,2,5,10,50,97,98]) (by omega) (by show c%7<7;omega),?_⟩
 refine⟨_,rfl,_,rfl,by omega,by omega,Ge (fun j=>V.int (Gg c j)) (by rw[zzm];exact zzg hm (by decide)) (fun i R hi k=>?_) (fun p hp=>?_)⟩
 ·rw[zzm] at hi
  walk_at "rd";refine⟨.inr ⟨by omega,by omega⟩,?_⟩
  walk_at "rd";rw[z1d];exact k
 ·rw[zzm]
  refine h p _ ?_ ((Ze hp0).trans (Ze hp)) ((Ze hp0).free hp);rw[Zb];unfold R6;rw[z0o];rfl
noncomputable abbrev Te:Stmt:=top 62
theorem Iz:Zl ["_law_found","_law_due"] ["_law_found","_law_due"] (Zj Te):=fnS
theorem I9(F:Fun K "_law_one_is" "_law_one_is" Te f fd)(T:Tx K mg a)(zmg:Z7 P w K mg base "_law_whole" 1 ["_law_found"] Fe):Z3 P w K mg base (CX1 P w) 2 f fd ["_law_found","_law_due"] A0:=by
 refine F.okX Iz (by walk_at "ar") fun _ _ _ _ H _ Q E hr h=>?_
 obtain⟨x,rfl,hx,h⟩:=h;refine⟨_,(Zf (Zo (El (Zm Kj (pv 1) Y0 (Zv _)) (Qq Kj (pv 0) Y0 (Zv _)) (zck (pF zmg hr (Za (pv 0) Zd)) (zcj (Qq Wq (pv 0) (pv 1) (Zv _))))))),?_⟩;rcases hx with rfl|⟨i,rfl⟩
 ·refine⟨_,rfl,rfl,_,rfl,?_⟩
  refine iteT ?_;exact⟨_,rfl,rfl,h⟩
 ·refine⟨_,rfl,rfl,_,rfl,?_⟩
  refine iteF ?_;refine⟨_,rfl,i,rfl,_,rfl,?_⟩;refine iteT ?_;refine⟨_,rfl,_,rfl,rfl,?_⟩;rw[zy4 rfl];exact h
noncomputable abbrev W0:Stmt:=top 63
theorem V2:Zl ["_law_may","_law_given","_law_seen","_law_k"] ["_law_may","_law_given"] (Zj W0):=fnS
theorem Nk(F:Fun K "_law_is_filling" "_law_is_filling" W0 f fd)(T:Tx K mg a)(zmg:Z7 P w K mg base "_law_whole" 1 ["_law_found"] Fe):Z3 P w K mg base (CX1 P w) 2 f fd ["_law_may","_law_given"] (Mx K):=by
 refine F.okX V2 (by walk_at "ar") fun _ _ _ _ H _ Q E hr h=>?_
 obtain⟨l,lg,ls,rows,gs,rfl,hl,il,hrl,hg,FP,h⟩:=h;have hu:=W2 hr;refine⟨_,(Zc (Z9 (PW.pt (Ru (Kh (Nn (Zw (Ny (K:=K) rfl) (by rfl) T.zlp PyProof.Rows.boot_isinstance (Za (pv 1) (Za (G4 rfl T.zmb PyProof.Rows.boot_list (show RelV (.ty "list") _ from rfl)) Zd))))) (Sb (Zm zgi (Zw (cL K) (by rfl) T.zlc PySem.boot_len (Za (pv 1) Zd)) (Zw (cL K) (by rfl) T.zlc PySem.boot_len (Za (pv 0) Zd)) (Zv _)))))
  (Zf (Zo Rh))
  Zu)
 (Zc (pS 2 V2.nd Km)
 (Zc (Xq PassesOwn.leaving rfl (V8 rfl T.zl9 (Za (Zw (cL K) (by rfl) T.zlc PySem.boot_len (Za (pv 0) Zd)) Zd)) (pN 3 V2.nd)
  (Zf (Z9 (Zm Vi (pI (iL K) (pv 1) (pv 3)) Y0 (Zv _))
   (Zc (Z9 (PW.pt (Ru (Kh (Nn (pF zmg hr (Za (pI (iL K) (pv 1) (pv 3)) Zd)))) (Ru (Zm (Pl (K:=K) rfl) (pI (iL K) (pv 1) (pv 3)) (pI (iL K) (pv 0) (pv 3)) (by with_unfolding_all rfl)) (Sb (Sa (Pt hu (pI (iL K) (pv 1) (pv 3)) (pv 2)))))))
    (Zf (Zo Rh))
    Zu)
   (Zf (Yl hu (pv 2) (pI (iL K) (pv 1) (pv 3)) Rh rfl)))
   Zu)))
 (Zf (Zo Rh))))),?_⟩
 refine⟨_,rfl,_,_,_,_,rfl,.of (.lst hg),.inl ⟨_,rfl⟩,zhx K,_,rfl,?_⟩;refine iteF ?_;refine⟨_,rfl,lg,_,rfl,.inl (SqL.of hg),_,rfl,l,_,rfl,.inl (SqL.of hl),rfl,_,rfl,?_⟩;rw[zyz,il.length,FP.len,zy4 rfl];refine iteF ?_;intro ld hld;have s0:=Ze (o:=.dK []) hld;have q0:upd H ld (.dK []) ld=some (.dK []):=Zb;generalize upd H ld (.dK [])=H1 at s0 q0
 refine⟨_,rfl,l,_,rfl,.inl (SqL.of (s0 _ _ hl)),_,rfl,by omega,by rw[zyz,il.length];omega,?_⟩
 rw[zyz,il.length,zzm]
 let jv1:Nat->L2.St->Hp->Prop:=fun i σ H'=>(∃ v3,σ=[some (.ref l),some (.ref lg),some (.ref ld),v3])/\Same H H'/\∃ kvs,H' ld=some (.dK kvs)/\kvs.length<=i/\∀ n:Int,(valV kvs (Sum.inl n:Key)).isSome=true->∃ j,j<i/\gs[j]?=some (.int n)
 refine Ti jv1 ⟨⟨_,rfl⟩,s0,[],q0,zza _,fun n z=>(nomatch z)⟩ ?_ ?_
 ·rintro i σ H' hi ⟨⟨v3,rfl⟩,sm,kvs,hd,hkl,hks⟩
  rw[z1d];have hgi:i<gs.length:=by rw[FP.len];exact hi
  have hx:gs[i]?=some (gs[i]'hgi):=zy1 hgi;have hone:=FP.one _ (zz4 hgi);generalize (gs[i]'hgi)=x at hx hone
  refine⟨_,rfl,_,rfl,lg,_,_,_,rfl,rfl,SqL.of (sm _ _ hg),Y4 hx,rfl,_,rfl,?_⟩;rcases hone with rfl|⟨n,rfl⟩
  ·refine iteF ?_
   refine⟨⟨_,rfl⟩,sm,kvs,hd,by omega,fun n hn=>?_⟩
   obtain⟨j,h1,h2⟩:=hks n hn;exact⟨j,by omega,h2⟩
  ·refine iteT ?_
   obtain⟨r,hr',hnr⟩:=FP.may i n hx;obtain⟨lr,e1,e2⟩:=il.getR hr';have hl':(ls.map V.ref)[i]?=some (.ref lr):=by rw[zy5,e1];rfl
   have hno:valV kvs (Sum.inl n:Key)=none:=by
    cases q:valV kvs (Sum.inl n:Key) with
    | none=>rfl
    | some v =>
      obtain⟨j,h1,h2⟩:=hks n (by rw[q];rfl)
      exact absurd (FP.inj j i n h2 hx) (by omega)
   have gx:∀ {Q:VK},Q (.int n) H'->∃ v,([some (V.ref l),some (V.ref lg),some (V.ref ld),some (V.int (i:Int))]:L2.St)[1]?=some (some v)/\∃ w,([some (V.ref l),some (V.ref lg),some (V.ref ld),some (V.int (i:Int))]:L2.St)[3]?=some (some w)/\J8 K v w H' Q:=fun q=>⟨_,rfl,_,rfl,lg,_,_,_,rfl,rfl,SqL.of (sm _ _ hg),Y4 hx,q⟩
   walk_at "if";refine Sy (Vm (b:=false) (R4 (b:=false) (c:=false) (fun Q q=>⟨_,rfl,_,rfl,lg,_,_,_,rfl,rfl,SqL.of (sm _ _ hg),Y4 hx,n,rfl,_,rfl,q⟩) (R4 (b:=false) (c:=false) (fun Q q=>⟨_,rfl,_,rfl,lg,_,_,_,rfl,rfl,SqL.of (sm _ _ hg),Y4 hx,_,rfl,_,rfl,l,_,_,_,rfl,rfl,SqL.of (sm _ _ hl),Y4 hl',lr,_,rfl,.inl (SqL.of (sm _ _ e2)),rfl,Gk r,_,rfl,by rw[Kc,zy4 hnr];exact q⟩)
    (fun Q q=>⟨_,rfl,_,rfl,lg,_,_,_,rfl,rfl,SqL.of (sm _ _ hg),Y4 hx,_,rfl,ld,_,rfl,DGet.k (k:=Sum.inl n) hd,_,rfl,by rw[hno];exact q⟩))) (iteF (Z1 ?_)))
   refine⟨_,rfl,_,rfl,_,rfl,lg,_,_,_,rfl,rfl,SqL.of (sm _ _ hg),Y4 hx,ld,_,rfl,DPut.k (k:=Sum.inl n) hd (Sl (by omega)),?_⟩
   refine⟨⟨_,rfl⟩,Z8 hld sm,_,Zb,zzg (Y7 _ _ _) (by omega),fun n' hn'=>?_⟩
   rw[Vj] at hn'
   by_cases e:(Sum.inl n':Key)=Sum.inl n
   ·cases e;exact⟨i,z05 _,hx⟩
   ·rw[if_neg e] at hn'
    obtain⟨j,h1,h2⟩:=hks n' hn';exact⟨j,by omega,h2⟩
 ·rintro σ H' ⟨⟨v3,rfl⟩,sm,_⟩
  exact h H' sm
noncomputable def SB(m:Addr)(H H':Hp):Prop:=∀ b o,b≠m->H b=some o->H' b=some o
theorem SB.new{m t:Addr}{H H':Hp}{o:HO}(h:SB m H H')(ht:H' t=none):SB m H (upd H' t o):=fun b u e hb=>by
 have:=h b u e hb;rw[Zh (Zg this ht)];exact this
theorem SB.put{m:Addr}{H H':Hp}{o:HO}(h:SB m H H'):SB m H (upd H' m o):=fun b u e hb=>by
 rw[Zh e];exact h b u e hb
theorem zew(f u:Nat):(HO.tup [V.int (2*(f:Int)),V.int (u:Int)])=.tup ((V7 (2*f,u)).map kV):=by
 show _=HO.tup [V.int ((2*f:Nat):Int),V.int (u:Int)];rw[show ((2*f:Nat):Int)=2*(f:Int) by omega]
theorem zce(f u b:Nat):(HO.tup [V.int (2*(f:Int)+1),V.int ((u:Int)+((2 ^ b:Nat):Int))])=.tup ((V7 (2*f+1,u+2 ^ b)).map kV):=by
 show _=HO.tup [V.int ((2*f+1:Nat):Int),V.int ((u+2 ^ b:Nat):Int)];rw[show ((2*f+1:Nat):Int)=2*(f:Int)+1 by omega,show ((u+2 ^ b:Nat):Int)=(u:Int)+((2 ^ b:Nat):Int) from Int.natCast_add ..]
theorem zkj{b:Nat}(h:b<7):0<2 ^ b/\2 ^ b<=64:=⟨Nat.two_pow_pos b,Nat.pow_le_pow_right (by decide) (show b<=6 by omega)⟩
theorem zcf{N r:List Int}{b c:Nat}{p q:Nat×Nat}(h:SucB N r b p q)(e:b<=c):SucB N r c p q:=by
 rcases h with z|⟨d,n,h1,h2⟩
 ·exact .inl z
 ·exact .inr ⟨d,n,by omega,h2⟩
theorem zgg(u b:Nat):decide (V.int ((u:Int)/((2 ^ b:Nat):Int)%2)=V.int 0)=decide (u/2 ^ b%2=0):=by
 have e:(u:Int)/((2 ^ b:Nat):Int)%2=((u/2 ^ b%2:Nat):Int):=by rw[Int.natCast_emod,Int.natCast_ediv];rfl
 rw[e];by_cases h:u/2 ^ b%2=0
 ·rw[h,zy4 rfl];rfl
 ·rw[zzb h,zzb fun z=>h (by injection z with z;omega)]
noncomputable abbrev Wb:Stmt:=top 64
theorem Z5:Zl ["_law_may","_law_numbers_here","_law_states","_law_row","_law_more","_law_filled_here","_law_used","_law_bit","_law_number"] ["_law_may","_law_numbers_here"] (Zj Wb):=fnS
theorem Pj(F:Fun K "_law_all_fillings" "_law_all_fillings" Wb f fd)(T:Tx K mg a):Z3 P w K mg base (CX1 P w) 1 f fd ["_law_may","_law_numbers_here"] (zet K):=by
 refine F.okX Z5 (by walk_at "ar") fun _ _ _ _ H _ Q E hr h=>?_
 obtain⟨l,ln,ls,rows,N,rfl,hl,il,hN,h7,h6,h⟩:=h;have hu:=W2 hr;refine⟨_,(Zc (pS 2 Z5.nd (zep (Yd (Za Zi (Za Zi Zd))) Rh hu))
 (Zc (Xq PassesOwn.leaving rfl (Yf (K:=K) rfl (pv 0)) (pN 3 Z5.nd)
  (Zc (pS 4 Z5.nd Ot)
  (Zc (Xq PassesOwn.leaving rfl (Yf (K:=K) rfl (Y9 (Jk rfl) (by rfl) T.zmb PyProof.Rows.boot_list (Za (pv 2) Zd))) (Wi (K:=K) (n:=2) rfl rfl (Z0 (pN 5 Z5.nd) (Z0 (pN 6 Z5.nd) Wg)))
   (Zc (Yl hu (pv 4) (Yd (Za (Zp Uv Zi (pv 5)) (Za (pv 6) Zd))) Rh rfl)
   (Zc (pS 7 Z5.nd Zi)
   (Zf (Xq PassesOwn.leaving rfl (Yf (K:=K) rfl (pv 1)) (pN 8 Z5.nd)
    (Zc (Z9 (PW.pt (Np (Zm (Pw (K:=K) rfl) (pv 8) (pv 3) (by with_unfolding_all rfl)) (Qp (Zm Wq (Zp Yn (Zp Y3 (pv 6) (pv 7)) Zi) Zi (Zv _)))))
     (Zf (Yl hu (pv 4) (Yd (Za (Zp Ys (Zp Uv Zi (pv 5)) Zi) (Za (Zp Ys (pv 6) (pv 7)) Zd))) Rh rfl))
     Zu)
    (Zf (pS 7 Z5.nd (Zp Uv Zi (pv 7))))))))))
  (Zf (pS 2 Z5.nd (pv 4))))))
 (Zf (Zo (Zw (zbk (K:=K) rfl rfl) (by rfl) T.zpq PyProof.Rows.boot_max (Za (Kw rfl (Oz.mk (xo:=["_law_filled_here","_law_used"]) (ys:=[]) (js:=[]) rfl rfl (by decide +kernel) (by decide +kernel) rfl (by repeat' (first|exact True.intro|apply And.intro|rfl)) (by repeat' (first|exact True.intro|apply And.intro|rfl)) (by decide +kernel)) (Yf (K:=K) rfl (Y9 (Jk rfl) (by rfl) T.zmb PyProof.Rows.boot_list (Za (pv 2) Zd))) (fun _ _ _ _ _=>Uc) (fun _ _ _ _ _=>(Wi (K:=K) (n:=2) rfl rfl (Z0 (U0 (i:=0) (show List.Nodup [("_law_filled_here":Str),("_law_used":Str)] by decide +kernel) rfl (by first|exact Or.inl rfl|exact Or.inr rfl)) (Z0 (U0 (i:=1) (show List.Nodup [("_law_filled_here":Str),("_law_used":Str)] by decide +kernel) rfl (by first|exact Or.inl rfl|exact Or.inr rfl)) Wg)))) (fun _ _ _ _ _=>(pv 0))) Zd)))))),?_⟩
 show let y1:TS:=_;let y2:TS:=Zz _ y1;let y3:TS:=_;let y4:TS:=Zz (zcp _ _ (Zz _ y2)) y3;let y5:TS:=_;let y6:TS:=Zz (zcp _ _ (Zz _ y4)) y5;Zz _ y6 _ _ _;intro y1 y2 y3 y4 y5 y6;refine fun d hd=>⟨sz2,fun t0 ht0=>⟨t0,V7 (0,0),rfl,?_,Zb,?_⟩⟩
 ·rw[Zh (Zg Zb ht0)];exact Zb
 have s0:Same H (upd (upd (upd H d (.dT [])) t0 (.tup [V.int 0,V.int 0])) d (.dT [(V7 (0,0),V.bl true)])):=Z8 hd ((Ze hd).trans (Ze ht0));have q0:(upd (upd (upd H d (.dT [])) t0 (.tup [V.int 0,V.int 0])) d (.dT [(V7 (0,0),V.bl true)])) d=some (.dT (X6 [(0,0)])):=Zb;generalize (upd (upd (upd H d (.dT [])) t0 (.tup [V.int 0,V.int 0])) d (.dT [(V7 (0,0),V.bl true)]))=H0 at s0 q0
 have hll:(ls.map V.ref).length=rows.length:=by rw[zyz];exact il.length
 let jv2:Nat->L2.St->Hp->Prop:=fun i σ' H'=>∃ (d:Addr) (ps:List (Nat×Nat)) (v3 v4 v5 v6 v7 v8:Option V),σ'=[some (.ref l),some (.ref ln),some (.ref d),v3,v4,v5,v6,v7,v8]/\Same H H'/\H' d=some (.dT (X6 ps))/\(∀ p,p∈ps↔StR N (rows.take i) p.1 p.2)/\ps.Nodup/\0<ps.length
 refine⟨_,rfl,l,rfl,⟨_,SqL.of (s0 _ _ hl)⟩,Xz (K:=K) (a:=l) (xs:=ls.map V.ref) jv2
  ⟨d,_,_,_,_,_,_,_,rfl,s0,q0,fun p=>?_,zzo.mpr ⟨zzz,z0p⟩,by decide⟩ (fun i σ' H' _ z=>by obtain⟨_,_,_,_,_,_,_,_,_,s,_⟩:=z;exact SqL.of (s _ _ hl)) ?_ ?_⟩
 ·rw[List.take_zero,zga,zy3]
  obtain⟨f,u⟩:=p;simp only[Prod.mk.injEq]
 ·rintro i x σ' Ha hx ⟨d,ps,v3,v4,v5,v6,v7,v8,rfl,sa,hda,hps,h8,hpos⟩
  have hi:i<rows.length:=by rw[<- hll];exact Sd hx
  obtain⟨lr,hlr,rfl⟩:∃ lr,ls[i]?=some lr/\V.ref lr=x:=by
   rw[zy5] at hx
   cases e:ls[i]? with
   | none=>rw[e] at hx;cases hx
   | some y=>rw[e] at hx;exact⟨y,rfl,Option.some.inj hx⟩
  obtain⟨r,hri,hrl⟩:=il.getL hlr;have hin:∀ {q:Nat×Nat} {p:Nat×Nat},p∈ps->SucB N r 7 p q->StR N (rows.take i++[r]) q.1 q.2:=fun {q p} hp hq=>Ck.mpr ⟨p,(hps p).mp hp,by rw[h7];exact hq⟩
  have hrt:(rows.take i++[r]).length<=20:=by rw[zy2,z0u];simp only[zzl,z1b];omega
  refine fun m hm=>?_
  have fm:H m=none:=sa.free hm;have s1:=sa.trans (Ze (o:=.dT []) hm);have q1:upd Ha m (.dT []) m=some (.dT (X6 [])):=Zb;have d1:=Ze (o:=.dT []) hm _ _ hda;generalize upd Ha m (.dT [])=H1 at s1 q1 d1
  refine⟨_,rfl,d,_,rfl,.inl d1,fun lt ts tl hlt=>?_⟩
  rw[Ld] at tl
  have tl2:=tl.same (Ze (o:=.lst ts) hlt);have s2:=s1.trans (Ze (o:=.lst ts) hlt);have q2:=Ze (o:=.lst ts) hlt _ _ q1;have l2:upd H1 lt (.lst ts) lt=some (.lst ts):=Zb;generalize upd H1 lt (.lst ts)=Hb at s2 q2 l2 tl2
  have htl:ts.length=ps.length:=by rw[tl2.length,zyz]
  have nl:lt≠m:=Ym l2 q2 (fun z=>nomatch z)
  have keep:∀ {H':Hp} {b:Addr} {o:HO},SB m Hb H'->H b=some o->H' b=some o:=fun sb e=>sb _ _ (Zg e fm) (s2 _ _ e)
  let jv3:Nat->L2.St->Hp->Prop:=fun j σ' H'=>∃ (qs:List (Nat×Nat)) (v5 v6 v7 v8:Option V),σ'=[some (.ref l),some (.ref ln),some (.ref d),some (.ref lr),some (.ref m),v5,v6,v7,v8]/\SB m Hb H'/\H' m=some (.dT (X6 qs))/\(∀ q,q∈qs↔∃ j' p,j' < j/\ps[j']?=some p/\SucB N r 7 p q)/\qs.Nodup
  refine⟨lt,rfl,⟨_,SqL.of l2⟩,Xz (K:=K) (a:=lt) (xs:=ts) jv3
   ⟨[],_,_,_,_,rfl,fun _ _ _ e=>e,q2,fun q=>by simp,z0p⟩ (fun j σ' H' _ z=>by obtain⟨_,_,_,_,_,_,sb,_⟩:=z;exact SqL.of (sb _ _ nl l2)) ?_ ?_⟩
  ·rintro j x σ' Hc hxj ⟨qs,v5,v6,v7,v8,rfl,sb,qm,hqs,hql⟩
   obtain⟨t,rr,rfl,hrr,ht⟩:=tl2.get hxj;obtain⟨p,hp,rfl⟩:∃ p,ps[j]?=some p/\zeq p=rr:=by
    rw[zy5] at hrr
    cases e:ps[j]? with
    | none=>rw[e] at hrr;cases hrr
    | some y=>rw[e] at hrr;exact⟨y,rfl,Option.some.inj hrr⟩
   obtain⟨f,u⟩:=p;have hj:j<ps.length:=Sd hp;have hpm:(f,u)∈ps:=zze hp;have hq8:qs.length<=888030:=Qh h7 hrt hql fun q hq=>by
    obtain⟨j',p,_,h2,h3⟩:=(hqs q).mp hq;exact hin (zze h2) h3
   have tm:t≠m:=Ym ht q2 (fun z=>nomatch z)
   refine⟨t,_,rfl,SqT.of (sb _ _ tm ht),rfl,_,_,rfl,_,_,rfl,rfl,?_⟩;refine⟨_,rfl,_,rfl,_,_,rfl,rfl,.inl ⟨by decide,by decide⟩,_,rfl,sz2,fun t1 ht1=>?_⟩
   have m1:t1≠m:=fun z=>by rw[z,qm] at ht1;cases ht1
   refine⟨m,_,rfl,DPut.t (k:=V7 (2*f,u)) (by rw[Zh (Ne.symm m1)];exact qm) (by rw[Zb,zew]) (by rw[Jl,sizeLine_eq];omega),?_⟩
   rw[Ci];have sb1:SB m Hb (upd (upd Hc t1 (.tup [V.int (2*(f:Int)),V.int (u:Int)])) m (.dT (X6 (Ik qs (2*f,u))))):=(sb.new ht1).put;have qm1:(upd (upd Hc t1 (.tup [V.int (2*(f:Int)),V.int (u:Int)])) m (.dT (X6 (Ik qs (2*f,u))))) m=some (.dT (X6 (Ik qs (2*f,u)))):=Zb;generalize (upd (upd Hc t1 (.tup [V.int (2*(f:Int)),V.int (u:Int)])) m (.dT (X6 (Ik qs (2*f,u)))))=Hd at sb1 qm1
   let jv4:Nat->L2.St->Hp->Prop:=fun b σ' H'=>∃ (qs':List (Nat×Nat)) (v8:Option V),σ'=[some (.ref l),some (.ref ln),some (.ref d),some (.ref lr),some (.ref m),some (.int (f:Nat)),some (.int (u:Nat)),some (.int (2 ^ b:Nat)),v8]/\SB m Hb H'/\H' m=some (.dT (X6 qs'))/\(∀ q,q∈qs'↔q∈qs\/SucB N r b (f,u) q)/\qs'.Nodup
   refine⟨_,rfl,ln,rfl,⟨_,SqL.of (keep sb1 hN)⟩,Xz (K:=K) (a:=ln) (xs:=N.map V.int) jv4
    ⟨_,_,rfl,sb1,qm1,fun q=>by rw[Cj,zb8],zap hql⟩ (fun b σ' H' _ z=>by obtain⟨_,_,_,sb',_⟩:=z;exact SqL.of (keep sb' hN)) ?_ ?_⟩
   ·rintro b x σ' He hxb ⟨qs',v8,rfl,sbe,qme,hqe,hle⟩
    have hb7:b<7:=by have:=Sd hxb;rw[zyz,h7] at this;exact this
    obtain⟨n,hn,rfl⟩:∃ n,N[b]?=some n/\V.int n=x:=by
     rw[zy5] at hxb
     cases e:N[b]? with
     | none=>rw[e] at hxb;cases hxb
     | some y=>rw[e] at hxb;exact⟨y,rfl,Option.some.inj hxb⟩
    have hp7:=zkj hb7;have hq9:qs'.length<=888030:=Qh h7 hrt hle fun q hq=>by
     rcases(hqe q).mp hq with z|z
     ·obtain⟨j',p,_,h2,h3⟩:=(hqs q).mp z
      exact hin (zze h2) h3
     ·exact hin hpm (zcf z (by omega))
    walk_at "if";have hi1:inV (V.int n) (r.map V.int)=decide (n∈r):=Kc
    let jv5:L2.St->Hp->Prop:=fun σ' H'=>∃ (qs2:List (Nat×Nat)),σ'=[some (.ref l),some (.ref ln),some (.ref d),some (.ref lr),some (.ref m),some (.int (f:Nat)),some (.int (u:Nat)),some (.int (2 ^ b:Nat)),some (.int n)]/\SB m Hb H'/\H' m=some (.dT (X6 qs2))/\(∀ q,q∈qs2↔q∈qs\/SucB N r (b+1) (f,u) q)/\qs2.Nodup
    refine Mv (b:=decide (n∈r)&&decide (u/2 ^ b%2=0)) jv5
     (fun Q k=>N3 (b:=decide (n∈r)) (c:=decide (u/2 ^ b%2=0)) (fun Q k=>⟨_,rfl,_,rfl,lr,_,rfl,.inl (SqL.of (keep sbe hrl)),rfl,Gk r,_,rfl,by rw[<- hi1] at k;exact k⟩) (fun Q k=>⟨_,rfl,_,rfl,_,_,rfl,rfl,⟨by omega,by omega⟩,_,_,rfl,rfl,(show (0:Int)<2 by decide),rfl,_,rfl,by rw[zgg];exact k⟩) Q k)
     (fun hc N' hN'=>?_) (fun hc N' hN'=>Z1 (hN' _ _ ⟨qs',rfl,sbe,qme,fun q=>?_,hle⟩)) ?_
    ·have hc:=Bool.and_eq_true_iff.mp hc
     have hnr:=of_decide_eq_true hc.1;have hbt:=of_decide_eq_true hc.2;refine⟨_,rfl,_,rfl,_,_,rfl,rfl,.inl ⟨by decide,by decide⟩,_,_,rfl,rfl,_,rfl,_,rfl,_,_,rfl,rfl,sz2,fun t2 ht2=>?_⟩
     have m2:t2≠m:=fun z=>by rw[z,qme] at ht2;cases ht2
     refine⟨m,_,rfl,DPut.t (k:=V7 (2*f+1,u+2 ^ b)) (by rw[Zh (Ne.symm m2)];exact qme) (by rw[Zb,zce]) (by rw[Jl,sizeLine_eq];omega),?_⟩
     rw[Ci];refine hN' _ _ ⟨_,rfl,(sbe.new ht2).put,Zb,fun q=>?_,zap hle⟩
     ·rw[Cj,hqe,G2 hn]
      constructor
      ·rintro((z|z)|z)
       ·exact .inl z
       ·exact .inr (.inl z)
       ·exact .inr (.inr ⟨hnr,hbt,z⟩)
      ·rintro(z|z|⟨_,_,z⟩)
       ·exact .inl (.inl z)
       ·exact .inl (.inr z)
       ·exact .inr z
    ·rw[hqe,G2 hn]
     constructor
     ·rintro(z|z)
      ·exact .inl z
      ·exact .inr (.inl z)
     ·rintro(z|z|⟨h1,h2,_⟩)
      ·exact .inl z
      ·exact .inr z
      ·rw[zy4 h1,zy4 h2] at hc;cases hc
    ·rintro σ' Hf ⟨qs2,rfl,sb2,qm2,hq2,hl2⟩
     refine⟨_,rfl,_,_,rfl,rfl,.inl ⟨by decide,by decide⟩,qs2,some (.int n),?_,sb2,qm2,hq2,hl2⟩
     rw[show ((2 ^ (b+1):Nat):Int)=2*((2 ^ b:Nat):Int) by rw[Nat.pow_succ];omega]
     rfl
   ·rintro σ' He ⟨qs',v8,rfl,sbe,qme,hqe,hle⟩
    rw[zyz,h7] at hqe
    refine⟨qs',_,_,_,_,rfl,sbe,qme,fun q=>?_,hle⟩
    rw[hqe,hqs];constructor
    ·rintro(⟨j',p,h1,h2,h3⟩|z)
     ·exact⟨j',p,by omega,h2,h3⟩
     ·exact⟨j,_,by omega,hp,z⟩
    ·rintro⟨j',p,h1,h2,h3⟩
     by_cases e:j'=j
     ·subst e
      rw[hp] at h2;cases h2
      exact .inr h3
     ·exact .inl ⟨j',p,by omega,h2,h3⟩
  ·rintro σ' Hc ⟨qs,v5,v6,v7,v8,rfl,sb,qm,hqs,hql⟩
   rw[htl] at hqs
   refine⟨_,rfl,m,qs,_,_,_,_,_,_,rfl,fun b o e=>keep sb e,qm,fun q=>?_,hql,?_⟩
   ·rw[hqs,zz6,hri]
    show _↔StR N (rows.take i++[r]) q.1 q.2;rw[Ck,h7];constructor
    ·rintro⟨j',p,h1,h2,h3⟩
     exact⟨p,(hps p).mp (zze h2),h3⟩
    ·rintro⟨p,h1,h3⟩
     obtain⟨j',h2⟩:=List.getElem?_of_mem ((hps p).mpr h1);exact⟨j',p,Sd h2,h2,h3⟩
   ·obtain⟨p,hp⟩:∃ p,ps[0]?=some p:=⟨_,zy1 hpos⟩
    exact List.length_pos_of_mem ((hqs (2*p.1,p.2)).mpr ⟨0,p,hpos,hp,.inl rfl⟩)
 ·rintro σ' Ha ⟨d,ps,v3,v4,v5,v6,v7,v8,rfl,sa,hda,hps,h8,hpos⟩
  rw[hll,zzh] at hps
  have h8':ps.length<=888030:=Qh h7 h6 h8 fun q hq=>(hps q).mp hq
  refine⟨_,rfl,d,_,rfl,.inl hda,fun lt ts tl hlt=>?_⟩
  rw[Ld] at tl
  have tl2:=tl.same (Ze (o:=.lst ts) hlt);have s2:=sa.trans (Ze (o:=.lst ts) hlt);have l2:upd Ha lt (.lst ts) lt=some (.lst ts):=Zb;generalize upd Ha lt (.lst ts)=Hb at s2 l2 tl2
  have htl:ts.length=ps.length:=by rw[tl2.length,zyz]
  refine⟨lt,rfl,⟨_,SqL.of l2⟩,K0 (K:=K) (xs:=ts) (fun i ys H'=>H'=Hb/\ys=((ps.take i).map fun p=>((p.1:Nat):Int)).map V.int) ⟨rfl,rfl⟩ (fun i ys H' _ ⟨e,_⟩=>by rw[e];exact SqL.of l2) (by rw[htl,sizeLine_eq];omega) (fun i ys H' ⟨_,e⟩=>by rw[e,zyz,zyz];exact z0c _ _) ?_ ?_⟩
  ·rintro i x ys H' hx ⟨rfl,rfl⟩
   obtain⟨t,rr,rfl,hrr,ht⟩:=tl2.get hx;obtain⟨p,hp,rfl⟩:∃ p,ps[i]?=some p/\zeq p=rr:=by
    rw[zy5] at hrr
    cases e:ps[i]? with
    | none=>rw[e] at hrr;cases hrr
    | some y=>rw[e] at hrr;exact⟨y,rfl,Option.some.inj hrr⟩
   refine⟨t,_,rfl,SqT.of ht,rfl,_,_,rfl,_,_,rfl,rfl,⟨[some (.int (p.1:Nat)),some (.int (p.2:Nat))],rfl,rfl⟩,?_⟩;unfold tYes;dsimp only;rw[if_pos rfl];refine⟨_,rfl,rfl,?_⟩;rw[zz6,hp,zy7,zy7];rfl
  ·rintro ys H' ⟨rfl,rfl⟩ lx hlx
   rw[htl,zzh];refine⟨lx,ps.map fun p=>((p.1:Nat):Int),rfl,SqL.of Zb,by rw[zyz];exact hpos,fun M hM hmax=>?_⟩
   obtain⟨p,hp,rfl⟩:=zy9.mp hM;refine h p.1 _ ⟨p.2,(hps p).mp hp⟩ (fun f u hf=>?_) (s2.trans (Ze hlx))
   have:=hmax _ (zy9.mpr ⟨(f,u),(hps (f,u)).mpr hf,rfl⟩);omega
theorem zex{gs:List V}{i:Nat}{x:V}(h:gs[i]?=some x):((binV 0 (gs.take (i+1)):Nat):Int)=2*((binV 0 (gs.take i):Nat):Int)+(if (!decide (x=V.non))=true then 1 else 0):=by
 rw[zz6,h];show ((binV 0 (gs.take i++[x]):Nat):Int)=_;rw[Qg];unfold U6;by_cases e:x=V.non
 ·rw[if_pos e,zy4 e];simp
 ·rw[if_neg e,zzb e];simp
noncomputable abbrev Tf:Stmt:=top 65
theorem Uo:Zl ["_law_given","_law_out","_law_number"] ["_law_given"] (Zj Tf):=fnS
theorem Hg(F:Fun K "_law_filled" "_law_filled" Tf f fd)(T:Tx K mg a):Z3 P w K mg base (CX1 P w) 1 f fd ["_law_given"] (Cg K):=by
 refine F.okX Uo (by walk_at "ar") fun _ _ _ _ H _ Q E hr h=>?_
 obtain⟨l,gs,rfl,hl,ho,hn,h⟩:=h;refine⟨_,(Zc (pS 1 Uo.nd Zi)
 (Zc (Xq PassesOwn.leaving rfl (Yf (K:=K) rfl (pv 0)) (pN 2 Uo.nd)
  (Zf (pS 1 Uo.nd (Zp Ys (Zp Uv Zi (pv 1)) (Y9 Hu (by rfl) T.zp2 PyProof.Rows.boot_int (Za (Qq Vi (pv 2) Y0 (Zv _)) Zd))))))
 (Zf (Zo (pv 1))))),?_⟩
 let jv6:Nat->L2.St->Hp->Prop:=fun i σ' H'=>H'=H/\∃ v2,σ'=[some (.ref l),some (.int (binV 0 (gs.take i):Nat)),v2]
 refine⟨_,rfl,l,rfl,⟨_,SqL.of hl⟩,Xz (K:=K) (a:=l) (xs:=gs) jv6 ⟨rfl,_,rfl⟩ (fun i σ' H' _ ⟨e,_⟩=>e▸SqL.of hl) ?_ ?_⟩
 ·rintro i x σ' H' hx ⟨rfl,v2,rfl⟩
  refine⟨_,rfl,_,_,rfl,rfl,.inl ⟨by decide,by decide⟩,_,rfl,rfl,.inr ⟨_,rfl,_,_,rfl,rfl,rfl,some x,?_⟩⟩
  rw[zex hx];rfl
 ·rintro σ' H' ⟨rfl,v2,rfl⟩
  rw[zzh];exact⟨_,rfl,h _ (Same.refl _)⟩
noncomputable abbrev T5:Stmt:=top 66
theorem Nl:Zl ["_law_rounds_here","_law_rest_here","_law_page"] ["_law_rounds_here","_law_rest_here"] (Zj T5):=fnS
theorem Ef(F:Fun K "_law_first" "_law_first" T5 f fd)(T:Tx K mg a):Z3 P w K mg base (CX1 P w) 1 f fd ["_law_rounds_here","_law_rest_here"] zaj:=by
 refine F.okX Nl (by walk_at "ar") fun _ _ _ _ H _ Q E hr h=>?_
 obtain⟨r,q,rfl,h⟩:=h;have hu:=W2 hr;refine⟨_,(Zc (pS 2 Nl.nd (Al (Uq Zn (pv 0) (Uq Zn (pv 1) (Uq Zn (Ya Zd) (Uq Zn (Ya Zd) (Uq Zn (Ya Zd) (Uq Zn Y0 G6)))))) rfl rfl (by simp) (by decide)))
 (Zc (Yl hu (pv 2) Zn Y0 rfl)
 (Zc (Yl hu (pv 2) Zn (Ya Zd) rfl)
 (Zc (Yl hu (pv 2) Zn (Ya Zd) rfl)
 (Zf (Zo (pv 2))))))),?_⟩
 have sz0:([]:List V).length<=sizeLine:=zzs _;refine fun p fp=>?_
 have s1:=Ze (o:=.dK []) fp;have p1:(upd H p (.dK [])) p=some (.dK []):=Zb;generalize upd H p (.dK [])=H1 at s1 p1 ⊢
 refine⟨_,rfl,_,rfl,sz0,fun l1 f1=>?_⟩
 have s2:=Ze (o:=.lst []) f1;have a1:(upd H1 l1 (.lst [])) l1=some (.lst []):=Zb;have n1:l1≠p:=fun z=>by rw[z,p1] at f1;cases f1
 generalize upd H1 l1 (.lst [])=H2 at s2 a1 ⊢
 refine⟨sz0,fun l2 f2=>?_⟩
 have s3:=Ze (o:=.lst []) f2;have a2:(upd H2 l2 (.lst [])) l2=some (.lst []):=Zb;have n2:l2≠p:=fun z=>by rw[z,s2 _ _ p1] at f2;cases f2
 generalize upd H2 l2 (.lst [])=H3 at s3 a2 ⊢
 refine⟨sz0,fun l3 f3=>?_⟩
 have s4:=Ze (o:=.lst []) f3;have a3:(upd H3 l3 (.lst [])) l3=some (.lst []):=Zb;have n3:l3≠p:=fun z=>by rw[z,s3 _ _ (s2 _ _ p1)] at f3;cases f3
 generalize upd H3 l3 (.lst [])=H4 at s4 a3 ⊢
 refine⟨s4 _ _ (s3 _ _ (s2 _ _ p1)),pg6 r q l1 l2 l3 .non,rfl,(show 6<=15 by decide),?_⟩
 rw[zbx];have s5:=Z8 (o:=.dK (pg6 r q l1 l2 l3 .non)) fp (s1.trans (s2.trans (s3.trans s4)));have p5:(upd H4 p (.dK (pg6 r q l1 l2 l3 .non))) p=some (.dK (pg6 r q l1 l2 l3 .non)):=Zb;have b1:(upd H4 p (.dK (pg6 r q l1 l2 l3 .non))) l1=some (.lst []):=by rw[Zh n1];exact s4 _ _ (s3 _ _ a1)
 have b2:(upd H4 p (.dK (pg6 r q l1 l2 l3 .non))) l2=some (.lst []):=by rw[Zh n2];exact s4 _ _ a2
 have b3:(upd H4 p (.dK (pg6 r q l1 l2 l3 .non))) l3=some (.lst []):=by rw[Zh n3];exact a3
 generalize upd H4 p (.dK (pg6 r q l1 l2 l3 .non))=H5 at s5 p5 b1 b2 b3 ⊢
 walk_at "if";refine⟨_,rfl,p,_,rfl,DPut.k (k:=Sum.inr "listed") p5 (Ma (x:=.non) (y:=.non)).1,?_⟩;have s6:=Z8 (o:=.dK (putK (pg6 r q l1 l2 l3 .non) (.inr "listed") .non)) fp s5;have p6:(upd H5 p (.dK (putK (pg6 r q l1 l2 l3 .non) (.inr "listed") .non))) p=some (.dK (putK (pg6 r q l1 l2 l3 .non) (.inr "listed") .non)):=Zb;have c1:=(Zh (H:=H5) (o:=.dK (putK (pg6 r q l1 l2 l3 .non) (.inr "listed") .non)) n1).trans b1;have c2:=(Zh (H:=H5) (o:=.dK (putK (pg6 r q l1 l2 l3 .non) (.inr "listed") .non)) n2).trans b2;have c3:=(Zh (H:=H5) (o:=.dK (putK (pg6 r q l1 l2 l3 .non) (.inr "listed") .non)) n3).trans b3;generalize upd H5 p (.dK (putK (pg6 r q l1 l2 l3 .non) (.inr "listed") .non))=H6 at s6 p6 c1 c2 c3 ⊢
 refine⟨sz0,fun l4 f4=>?_⟩
 have s7:=Ze (o:=.lst []) f4;have a4:(upd H6 l4 (.lst [])) l4=some (.lst []):=Zb;have n4:l4≠p:=fun z=>by rw[z,p6] at f4;cases f4
 generalize upd H6 l4 (.lst [])=H7 at s7 a4 ⊢
 refine⟨_,rfl,p,_,rfl,DPut.k (k:=Sum.inr "goes") (s7 _ _ p6) (Ma (y:=.non)).2.1,?_⟩;have s8:=Z8 (o:=.dK (putK (putK (pg6 r q l1 l2 l3 .non) (.inr "listed") .non) (.inr "goes") (.ref l4))) fp (s6.trans s7);have p8:(upd H7 p (.dK (putK (putK (pg6 r q l1 l2 l3 .non) (.inr "listed") .non) (.inr "goes") (.ref l4)))) p=some (.dK (putK (putK (pg6 r q l1 l2 l3 .non) (.inr "listed") .non) (.inr "goes") (.ref l4))):=Zb;have d1:=(Zh (H:=H7) (o:=.dK (putK (putK (pg6 r q l1 l2 l3 .non) (.inr "listed") .non) (.inr "goes") (.ref l4))) n1).trans (s7 _ _ c1);have d2:=(Zh (H:=H7) (o:=.dK (putK (putK (pg6 r q l1 l2 l3 .non) (.inr "listed") .non) (.inr "goes") (.ref l4))) n2).trans (s7 _ _ c2);have d3:=(Zh (H:=H7) (o:=.dK (putK (putK (pg6 r q l1 l2 l3 .non) (.inr "listed") .non) (.inr "goes") (.ref l4))) n3).trans (s7 _ _ c3);have d4:=(Zh (H:=H7) (o:=.dK (putK (putK (pg6 r q l1 l2 l3 .non) (.inr "listed") .non) (.inr "goes") (.ref l4))) n4).trans a4;generalize upd H7 p (.dK (putK (putK (pg6 r q l1 l2 l3 .non) (.inr "listed") .non) (.inr "goes") (.ref l4)))=H8 at s8 p8 d1 d2 d3 d4 ⊢
 refine⟨sz0,fun l5 f5=>?_⟩
 have s9:=Ze (o:=.lst []) f5;have a5:(upd H8 l5 (.lst [])) l5=some (.lst []):=Zb;have n5:l5≠p:=fun z=>by rw[z,p8] at f5;cases f5
 generalize upd H8 l5 (.lst [])=H9 at s9 a5 ⊢
 refine⟨_,rfl,p,_,rfl,DPut.k (k:=Sum.inr "moves") (s9 _ _ p8) Ma.2.2,?_⟩;rw[zf1];refine⟨_,rfl,h p _ ?_ (Z8 fp (s8.trans s9)) fp⟩;have fr:∀ x,H4 x=none->H x=none:=fun x hx=>s1.free (s2.free (s3.free (s4.free hx)))
 exact⟨l1,l2,l3,.non,.non,l4,l5,[],[],[],[],Zb,(Zh n1).trans (s9 _ _ d1),.nil,(Zh n2).trans (s9 _ _ d2),.nil,(Zh n3).trans (s9 _ _ d3),.nil,rfl,rfl,(Zh n4).trans (s9 _ _ d4),(Zh n5).trans a5,.nil,
  fp,s1.free f1,s1.free (s2.free f2),s1.free (s2.free (s3.free f3)),s6.free f4,s8.free f5⟩
noncomputable abbrev Q6:Stmt:=top 67
theorem Vf:Zl ["_law_page","_law_met_here","_law_listed","_law_goes","_law_moves","_law_may","_law_k"] ["_law_page"] (Zj Q6):=fnS
theorem Ae(F:Fun K "_law_met" "_law_met" Q6 f fd)(T:Tx K mg a):Z3 P w K mg base (CX1 P w) 1 f fd ["_law_page"] (zak K):=by
 refine F.okX Vf (by walk_at "ar") fun _ _ _ _ H _ Q E hr h=>?_
 obtain⟨ok,d,P0,rfl,PA,PO,h⟩:=h;have hu:=W2 hr;refine⟨_,(Zc (pS 1 Vf.nd Ot)
 (Zc (Xq PassesOwn.leaving rfl (Yf (K:=K) rfl (Ey (E4 (K:=K) rfl) (pD hu (pv 0) Zn) (An (Zw (Hr rfl) (by rfl) T.zpq PyProof.Rows.boot_max (Za Zi (Za (Zp Pq (Zw (cL K) (by rfl) T.zlc PySem.boot_len (Za (pD hu (pv 0) Zn) Zd)) (pD hu (pv 0) Zn)) Zd)))) Am)) (Wi (K:=K) (n:=4) rfl rfl (Z0 (pN 2 Vf.nd) (Z0 (pN 3 Vf.nd) (Z0 (pN 4 Vf.nd) (Z0 (pN 5 Vf.nd) Wg)))))
  (Zf (Xq PassesOwn.leaving rfl (V8 rfl T.zl9 (Za (Zw (cL K) (by rfl) T.zlc PySem.boot_len (Za (pv 2) Zd)) Zd)) (pN 6 Vf.nd)
   (Zf (Z9 (Zm Vi (pI (iL K) (pv 3) (pv 6)) Y0 (Zv _))
    (Zc (Yl hu (pv 1) (Yd (Za (pI (iL K) (pv 3) (pv 6)) (Za (pI (iU K) (pI (iL K) (pv 2) (pv 6)) Zi) Zd))) Rh rfl)
    (Zf (Yl hu (pv 1) (Yd (Za (pI (iL K) (pv 3) (pv 6)) (Za (pI (iU K) (pI (iL K) (pv 2) (pv 6)) Zi) Zd))) Rh rfl)))
    Zu)))))
 (Zf (Zo (pv 1))))),?_⟩
 obtain⟨lp,lo,lv,dv,li,lg,lm,pts,ots,vts,mts,a1,a2,a3,a4,a5,a6,a7,a8,a9,b1,b2,b3,o1,o2,o3,o4,o5,o6⟩:=PA;refine fun m fm=>?_
 have s1:=Ze (o:=.dT []) fm;have m1:(upd H m (.dT [])) m=some (.dT []):=Zb;generalize upd H m (.dT [])=H1 at s1 m1 ⊢
 walk_at "if";refine⟨_,rfl,d,_,rfl,DGet.k (k:=.inr "over") (s1 _ _ a1),?_⟩;refine⟨_,rfl,d,_,rfl,DGet.k (k:=.inr "over") (s1 _ _ a1),lv,vts,rfl,.inl (SqL.of (s1 _ _ a6)),_,rfl,d,_,rfl,DGet.k (k:=.inr "rest") (s1 _ _ a1),_,_,rfl,rfl,_,_,rfl,_,rfl,lv,vts,rfl,SqL.of (s1 _ _ a6),fun c fc=>?_⟩
 have e0:=zef vts vts.length P0.rest;rw[a7.length] at e0
 have ez:(vts.length:Int)=(P0.over.length:Int):=by rw[a7.length]
 rw[ez,e0];obtain⟨k0,hk0⟩:∃ k:Nat,k=((P0.over.length:Int)-P0.rest).toNat:=⟨_,rfl⟩
 rw[<- hk0];have s2:=Ze (o:=.lst (vts.drop k0)) fc;have c2:(upd H1 c (.lst (vts.drop k0))) c=some (.lst (vts.drop k0)):=Zb;have ncm:c≠m:=fun z=>by rw[z,m1] at fc;cases fc
 have OV:Xd ok (upd H1 c (.lst (vts.drop k0))) (vts.drop k0) (P0.over.drop k0):=(a7.drop k0).keep (fun x o _ z=>s2 _ _ (s1 _ _ z)) (fun x o z=>s2 _ _ (s1 _ _ z))
 have m2:=s2 _ _ m1;generalize upd H1 c (.lst (vts.drop k0))=H2 at s2 c2 OV m2 ⊢
 have hin:∀ s∈P0.over.drop k0,s∈P0.over:=fun s hs=>List.mem_of_mem_drop hs
 have hlen:(P0.over.drop k0).length<=100:=by rw[List.length_drop];have:=PO.1;omega
 generalize vts.drop k0=ds at c2 OV ⊢
 refine⟨c,rfl,⟨_,SqL.of c2⟩,Xz (K:=K) (a:=c) (xs:=ds) (fun i σ H'=>(∃ v1 v2 v3 v4 v5,σ=[some (.ref d),some (.ref m),v1,v2,v3,v4,v5])/\(∀ x o,H2 x=some o->x≠m->H' x=some o) /\
  ∃ kvs,H' m=some (.dT kvs)/\Od kvs (P0.over.drop k0) i 0/\kvs.length<=40*i) ⟨⟨_,_,_,_,_,rfl⟩,fun _ _ e _=>e,[],m2,.zero _,by simp⟩ (fun i σ H' _ ⟨_,k,_⟩=>SqL.of (k _ _ c2 ncm)) ?_ ?_⟩
 ·rintro i x σ H' hx ⟨⟨v1,v2,v3,v4,v5,rfl⟩,k2,kvs,hm,mi,kl⟩
  obtain⟨t,l,g,mm,y,ts,s,rfl,hs,ht,hl,tl,hg,_,_⟩:=OV.get hx;have htn:t≠m:=Ym ht m2 (by intro z;cases z)
  have hln:l≠m:=Ym hl m2 (by intro z;cases z)
  have hgn:g≠m:=Ym hg m2 (by intro z;cases z)
  refine⟨t,_,rfl,SqT.of (k2 _ _ ht htn),rfl,_,_,rfl,_,_,rfl,_,_,rfl,_,_,rfl,rfl,?_⟩;have hsz:=PO.2.2 s (hin s (zze hs));have hi:i<ds.length:=(zy0.mp hx).1;have hdl:=OV.length;have tln:ts.length=s.ms.length:=by rw[tl.length,zyz]
  have rln:(Ye s).length=s.ms.length:=by unfold Ye;rw[List.length_zipWith,hsz.2.1,Nat.min_self]
  refine⟨_,rfl,l,ts,rfl,.inl (SqL.of (k2 _ _ hl hln)),_,rfl,by omega,by omega,Ti (fun j σ H'=>(∃ v,σ=[some (.ref d),some (.ref m),some (.ref l),some (.ref g),some (.ref mm),some (.ref y),v])/\(∀ x o,H2 x=some o->x≠m->H' x=some o) /\
   ∃ kvs,H' m=some (.dT kvs)/\Od kvs (P0.over.drop k0) i j/\kvs.length<=40*i+2*j) ⟨⟨_,rfl⟩,k2,kvs,hm,mi,by omega⟩ ?_ ?_⟩
  ·rintro j σ H3 hj ⟨⟨v,rfl⟩,k3,kvs3,hm3,mi3,kl3⟩
   rw[zzm] at hj
   rw[z1d];have hj2:j<s.gv.length:=by omega
   have hg3:s.gv[j]?=some (s.gv[j]'hj2):=zy1 hj2;have hone:=hsz.2.2 _ (zz4 hj2);generalize s.gv[j]'hj2=xv at hg3 hone
   have ht3:ts[j]?=some (ts[j]'hj):=zy1 hj;obtain⟨tj,mj,e1,hmj,htj⟩:=Ks tl ht3;rw[e1] at ht3
   have htjn:tj≠m:=Ym htj m2 (by intro z;cases z)
   have hr3:(Ye s)[j]?=some (Dp mj xv):=by unfold Ye;rw[List.getElem?_zipWith,hmj,hg3]
   refine⟨_,rfl,_,rfl,g,_,_,_,rfl,rfl,SqL.of (k3 _ _ hg hgn),Y4 hg3,rfl,_,rfl,?_⟩;rcases hone with rfl|⟨w,rfl⟩
   ·refine iteF ?_
    exact⟨⟨_,rfl⟩,k3,kvs3,hm3,mi3.none hs hr3 rfl,by omega⟩
   ·refine iteT ?_
    refine⟨_,rfl,_,rfl,_,rfl,g,_,_,_,rfl,rfl,SqL.of (k3 _ _ hg hgn),Y4 hg3,?_⟩;have big:∀ n:Nat,n<=200000->n<sizeLine:=fun n hn=>Nat.lt_trans (z0i hn (by decide)) Tp
    refine⟨_,rfl,_,rfl,l,_,_,_,rfl,rfl,SqL.of (k3 _ _ hl hln),Y4 ht3,tj,_,_,_,rfl,rfl,SqT.of (k3 _ _ htj htjn),rfl,sz2,fun t2 ht2=>⟨m,_,rfl,DPut.t (k:=[Sum.inl w,Sum.inl mj.1]) (by rw[Zh (Zg hm3 ht2)];exact hm3) Zb (big _ (by omega)),?_⟩⟩
    have k4:∀ x o,H2 x=some o->x≠m->upd (upd H3 t2 (.tup [.int w,.int mj.1])) m (.dT (putK kvs3 [Sum.inl w,Sum.inl mj.1] (.bl true))) x=some o:=fun x o e n=>by
     have:=k3 x o e n;rw[Zh n,Zh (Zg this ht2)];exact this
    have hm4:upd (upd H3 t2 (.tup [.int w,.int mj.1])) m (.dT (putK kvs3 [Sum.inl w,Sum.inl mj.1] (.bl true))) m=some (.dT (putK kvs3 [Sum.inl w,Sum.inl mj.1] (.bl true))):=Zb;have l4:=Y7 kvs3 ([Sum.inl w,Sum.inl mj.1]:List Key) (.bl true);generalize upd (upd H3 t2 (.tup [.int w,.int mj.1])) m (.dT (putK kvs3 [Sum.inl w,Sum.inl mj.1] (.bl true)))=H4 at k4 hm4 ⊢
    refine⟨_,rfl,_,rfl,_,rfl,g,_,_,_,rfl,rfl,SqL.of (k4 _ _ hg hgn),Y4 hg3,?_⟩;refine⟨_,rfl,_,rfl,l,_,_,_,rfl,rfl,SqL.of (k4 _ _ hl hln),Y4 ht3,tj,_,_,_,rfl,rfl,SqT.of (k4 _ _ htj htjn),rfl,sz2,fun t4 ht4=>⟨m,_,rfl,DPut.t (k:=[Sum.inl w,Sum.inl mj.2.1]) (by rw[Zh (Zg hm4 ht4)];exact hm4) Zb (big _ (by omega)),?_⟩⟩
    have l5:=Y7 (putK kvs3 ([Sum.inl w,Sum.inl mj.1]:List Key) (.bl true)) ([Sum.inl w,Sum.inl mj.2.1]:List Key) (.bl true);refine⟨⟨_,rfl⟩,fun x o e n=>?_,_,Zb,mi3.some hs hr3 rfl,by omega⟩
    have:=k4 x o e n;rw[Zh n,Zh (Zg this ht4)];exact this
  ·rintro σ H3 ⟨⟨v,rfl⟩,k3,kvs3,hm3,mi3,kl3⟩
   rw[zzm] at mi3 kl3
   rw[tln,<- rln] at mi3
   exact⟨⟨_,_,_,_,_,rfl⟩,k3,kvs3,hm3,mi3.next hs,by omega⟩
 ·rintro σ H' ⟨⟨v1,v2,v3,v4,v5,rfl⟩,k2,kvs,hm,mi,kl⟩
  rw[OV.length] at mi
  refine⟨_,rfl,h m kvs H' hm (mi.all hk0) (fun x o e=>k2 _ _ (s2 _ _ (s1 _ _ e)) (Zg e fm)) fm⟩
noncomputable abbrev Rb:Stmt:=top 68
theorem X4:Zl ["_law_page","_law_met_here","_law_person","_law_match","_law_number","_law_grade","_law_club","_law_home","_law_guest","_law_asked","_law_told"] ["_law_page","_law_met_here","_law_person","_law_match"] (Zj Rb):=fnS
theorem Cp(F:Fun K "_law_bars" "_law_bars" Rb f fd)(T:Tx K mg a):Z3 P w K mg base (CX1 P w) 1 f fd ["_law_page","_law_met_here","_law_person","_law_match"] (Cc K):=by
 refine F.okX X4 (by walk_at "ar") fun _ _ _ _ H _ Q E hr h=>?_
 obtain⟨ok,d,m,t1,t2,P0,kvs,x,y,rfl,PA,hm,mo,h1,h2,h⟩:=h;have hu:=W2 hr;refine⟨_,(Zc (Ki (pv 2) (Wi (K:=K) (n:=3) rfl rfl (Z0 (pN 4 X4.nd) (Z0 (pN 5 X4.nd) (Z0 (pN 6 X4.nd) Wg)))))
 (Zc (Ki (pv 3) (Wi (K:=K) (n:=3) rfl rfl (Z0 (pN 7 X4.nd) (Z0 (pN 8 X4.nd) (Z0 (pN 9 X4.nd) Wg)))))
 (Zc (pS 10 X4.nd (Ya Zd))
 (Zc (Z9 (Zm (Fq (K:=K) rfl hr.units) (Yd (Za (Zp Ys (Zw (cL K) (by rfl) T.zlc PySem.boot_len (Za (pD hu (pv 0) Zn) Zd)) Zi) (Za (pv 4) Zd))) (pD hu (pv 0) Zn) (by with_unfolding_all rfl))
  (Zf (Yv (pv 10) Zn))
  Zu)
 (Zc (Z9 (Zm Ri (pv 9) (pv 5) (Zv _))
  (Zf (Yv (pv 10) Zn))
  Zu)
 (Zc (Z9 (PW.pt (Ru (Zm Wq (pv 6) (pv 7) (Zv _)) (Sb (Zm Wq (pv 6) (pv 8) (Zv _)))))
  (Zf (Yv (pv 10) Zn))
  Zu)
 (Zc (Z9 (PW.pt (Ru (Sa (Pt hu (Yd (Za (pv 4) (Za (pv 7) Zd))) (pv 1))) (Sb (Sa (Pt hu (Yd (Za (pv 4) (Za (pv 8) Zd))) (pv 1))))))
  (Zf (Yv (pv 10) Zn))
  Zu)
 (Zf (Zo (pv 10)))))))))),?_⟩
 show let y1:TS:=_;let y2:TS:=Zz _ y1;let y3:TS:=Zz _ y2;let y4:TS:=Zz _ y3;let y5:TS:=Zz _ y4;let y6:TS:=Zz _ y5;let y7:TS:=Zz _ y6;Zz _ y7 _ _ _;intro y1 y2 y3 y4 y5 y6 y7;obtain⟨n,g,c⟩:=x;obtain⟨ho,gu,as⟩:=y;have h1:H t1=some (.tup [.int n,.int g,.int c]):=h1;have h2:H t2=some (.tup [.int ho,.int gu,.int as]):=h2;obtain⟨lp,lo,lv,dv,li,lg,lm,pts,ots,vts,mts,a1,a2,a3,a4,a5,a6,a7,a8,a9,c1,c2,c3,o1,o2,o3,o4,o5,o6⟩:=PA;refine⟨_,rfl,t1,_,rfl,SqT.of h1,rfl,_,_,rfl,_,_,rfl,_,_,rfl,rfl,?_⟩;refine⟨_,rfl,t2,_,rfl,SqT.of h2,rfl,_,_,rfl,_,_,rfl,_,_,rfl,rfl,?_⟩;refine⟨by show 0<=sizeLine;decide,fun l hl=>?_⟩
 have s1:=Ze (o:=.lst []) hl;have q1:upd H l (.lst []) l=some (.lst (([]:List Str).map V.str)):=Zb;generalize upd H l (.lst [])=H1 at s1 q1
 walk_at "if";have b1:=N4 (decide (((P0.over.length:Int)+1,n)∈P0.out)) "away";have b2:=N4 (decide (g<as)) "grade";have b3:=N4 (decide (c=ho)||decide (c=gu)) "club"
 refine Tv (b:=decide (((P0.over.length:Int)+1,n)∈P0.out)) (H0:=H) (fun Q q=>?_) hl s1 q1 (by decide) rfl (fun H2 s2 q2 _=>?_)
 ·refine⟨_,rfl,d,_,rfl,DGet.k (k:=.inr "over") (s1 _ _ a1),lv,vts,rfl,.inl (SqL.of (s1 _ _ a6)),_,_,rfl,rfl,_,rfl,sz2,fun t ht=>?_⟩
  have s3:=Ze (o:=.tup [.int ((vts.length:Int)+1),.int n]) ht;refine⟨_,rfl,d,_,rfl,DGet.k (k:=.inr "out") (s3 _ _ (s1 _ _ a1)),t,lo,ots,_,_,P0.out,rfl,rfl,SqT.of Zb,SqL.of (s3 _ _ (s1 _ _ a4)),(a5.mono fun _ _ z=>s3 _ _ (s1 _ _ z)),_,rfl,?_⟩
  rw[a7.length] at s3 ⊢
  exact q _ s3
 rw[List.nil_append] at q2
 have din:∀ (H3:Hp) (cc:Int) (Q3:Bool->Hp->Prop),Same H H3->(∀ H4,Same H3 H4->Q3 (Rj (P0.over.map Ye) n cc P0.rest) H4)->∀ t,H3 t=none->Q3 (valV kvs [Sum.inl n,Sum.inl cc]).isSome (upd H3 t (.tup [.int n,.int cc])):=fun H3 cc Q3 s3 q3 t ht=>by
  rw[mo n cc];exact q3 _ (Ze ht)
 refine Tv (b:=decide (g<as)) (H0:=H) (Sz fun Q q=>⟨_,rfl,_,rfl,_,_,rfl,rfl,_,rfl,q⟩) hl s2 q2 (by omega) rfl (fun H3 s3 q3 _=>?_)
 refine Tv (b:=decide (c=ho)||decide (c=gu)) (H0:=H) (Sz (R4 (fun Q q=>⟨_,rfl,_,rfl,rfl,_,rfl,R1▸q⟩) (fun Q q=>⟨_,rfl,_,rfl,rfl,_,rfl,R1▸q⟩))) hl s3 q3 (by rw[zy2];omega) rfl (fun H4 s4 q4 _=>?_)
 refine Tv (b:=Rj (P0.over.map Ye) n ho P0.rest||Rj (P0.over.map Ye) n gu P0.rest) (H0:=H) (E7 (fun Q q=>?_) (fun H5 s5 Q q=>?_)) hl s4 q4 (by rw[zy2,zy2];omega) rfl (fun H5 s5 q5 _=>?_)
 ·exact⟨_,rfl,_,rfl,sz2,fun t ht=>⟨_,rfl,m,_,rfl,DGet.t (k:=[Sum.inl n,Sum.inl ho]) (Ze ht _ _ (s4 _ _ hm)) Zb,_,rfl,din _ ho _ s4 q t ht⟩⟩
 ·exact⟨_,rfl,_,rfl,sz2,fun t ht=>⟨_,rfl,m,_,rfl,DGet.t (k:=[Sum.inl n,Sum.inl gu]) (Ze ht _ _ (s5 _ _ (s4 _ _ hm))) Zb,_,rfl,din _ gu _ (s4.trans s5) q t ht⟩⟩
 refine⟨_,rfl,h l H5 ?_ s5 hl⟩;unfold Pa whyS;rw[q5,z0r,z0r]
noncomputable abbrev Rc:Stmt:=top 69
theorem Uu:Zl ["_law_page","_law_met_here","_law_may","_law_match","_law_fit"] ["_law_page"] (Zj Rc):=fnS
theorem Cq(F:Fun K "_law_open" "_law_open" Rc f fd)(T:Tx K mg a)(zpj:Z7 P w K mg base "_law_met" 1 ["_law_page"] (zak K))(zop:Z7 P w K mg base "_law_bars" 1 ["_law_page","_law_met_here","_law_person","_law_match"] (Cc K)):Z3 P w K mg base (CX1 P w) 2 f fd ["_law_page"] (Bx K):=by
 refine F.okX Uu (by walk_at "ar") fun _ _ _ _ H _ Q E hr h=>?_
 obtain⟨ok,d,P0,ms,rfl,PA,PO,hms,hl1,hl2,h⟩:=h;have hu:=W2 hr;refine⟨_,(Zc (pS 1 Uu.nd (pF zpj hr (Za (pv 0) Zd)))
 (Zc (pS 2 Uu.nd (Ya Zd))
 (Zc (Xq PassesOwn.leaving rfl (Yf (K:=K) rfl (pD hu (pv 0) Zn)) (pN 3 Uu.nd)
  (Zc (T2 (i:=4) Uu.nd rfl rfl rfl (cT ["_law_page","_law_met_here","_law_match"] [0,1,3]) (Yf (K:=K) rfl (pD hu (pv 0) Zn)) (fun _ _ _ _ _=>Ov (Zm (zfn (K:=K) rfl hr.units) (Av zop (hr.mono (by decide)) Au rfl (Za (pv 1) (Za (pv 2) (Za (pv 0) (Za (pv 3) Zd))))) (Ya Zd) (Zv _))) (fun _ _ _ _ _=>(pv 0)))
  (Zf (Yv (pv 2) (Ut rfl (cT [] []) (Yf (K:=K) rfl (pv 4)) (fun _ _ _ _ _=>Uc) (fun _ _ _ _ _=>(pI (iU K) (pv 0) Zi)))))))
 (Zf (Zo (pv 2)))))),?_⟩
 refine⟨_,rfl,ok,d,P0,rfl,PA,PO,fun m kvs H1 hm mo s1 fm=>?_⟩
 obtain⟨lp,lo,lv,dv,li,lg,lm,pts,ots,vts,mts,a1,a2,a3,a4,a5,a6,a7,a8,a9,c1,c2,c3,o1,o2,o3,o4,o5,o6⟩:=id PA;refine⟨by show 0<=sizeLine;decide,fun r hr'=>?_⟩
 have s2:=s1.trans (Ze (o:=.lst []) hr');have q2:upd H1 r (.lst []) r=some (.lst []):=Zb;have hm2:upd H1 r (.lst []) m=some (.dT kvs):=Ze hr' _ _ hm;have fr:=s1.free hr';walk_at "if";generalize upd H1 r (.lst [])=H2 at s2 q2 hm2 ⊢
 rw[hms] at a9
 obtain⟨ll,ts,rfl,hll,tl,_⟩:=a9;have htl:ts.length=ms.length:=by rw[tl.length,zyz]
 have hpl:pts.length=P0.ppl.length:=by rw[a3.length,zyz]
 have hmr:m≠r:=fun z=>by rw[z,q2] at hm2;cases hm2
 refine⟨_,rfl,d,_,rfl,DGet.k (k:=.inr "listed") (s2 _ _ a1),ll,rfl,⟨_,SqL.of (s2 _ _ hll)⟩,Xz (K:=K) (a:=ll) (xs:=ts) (fun i σ H'=>(∃ v1 v2,σ=[some (.ref d),some (.ref m),some (.ref r),v1,v2])/\(∀ x o,H2 x=some o->x≠r->H' x=some o) /\
  ∃ ls,H' r=some (.lst (ls.map V.ref))/\ILs H' ls ((Qd P0 ms).take i)/\ls.length=i/\∀ x∈ls,H x=none/\x≠r) ⟨⟨_,_,rfl⟩,fun _ _ e _=>e,[],q2,.nil,rfl,by simp⟩ (fun i σ H' _ ⟨_,k,_⟩=>SqL.of (k _ _ (s2 _ _ hll) (Zg hll fr))) ?_ ?_⟩
 ·rintro i x σ H' hx ⟨⟨v1,v2,rfl⟩,k2,ls,hr3,il,hln,hfr⟩
  obtain⟨t,mm,rfl,hmm,ht⟩:=Ks tl hx;have sh:Same H H':=fun x o e=>k2 _ _ (s2 _ _ e) (Zg e fr)
  refine⟨_,rfl,d,_,rfl,DGet.k (k:=.inr "people") (sh _ _ a1),lp,rfl,⟨_,SqL.of (sh _ _ a2)⟩,?_⟩;refine We (K:=K) (a:=lp) (xs:=pts) (fun i ys H''=>Same H' H''/\TupL H'' ys (((P0.ppl.take i).filter fun x=>(Pa P0 x mm).isEmpty).map pV)) ⟨Same.refl _,.nil⟩ (fun i ys H'' _ ⟨z,_⟩=>SqL.of (z _ _ (sh _ _ a2))) (szN (by omega)) (fun i ys H' ⟨_,e⟩=>by rw[e.length,zyz];exact zzg (zz2 _ _) (z0c _ _)) ?_ ?_
  ·rintro j x ys H3 hx3 ⟨s3,tl3⟩
   obtain⟨tp,pp,rfl,hpp,htp⟩:=Ks a3 hx3;have sh3:=sh.trans s3;refine⟨_,rfl,_,rfl,_,rfl,_,rfl,ok,d,m,tp,t,P0,kvs,pp,mm,rfl,PA.same sh3,s3 _ _ (k2 _ _ hm2 hmr),mo,sh3 _ _ htp,sh3 _ _ ht,fun lw H4 hlw s4 fw=>?_⟩
   refine⟨by show 0<=sizeLine;decide,fun le hle=>?_⟩
   have s5:=s4.trans (Ze (o:=.lst []) hle);refine⟨_,_,.lst (SqL.of (Ze hle _ _ hlw)) (Jd _),.lst (SqL.of Zb) .nil,zf3 _ zf4,A7,_,rfl,?_⟩;generalize upd H4 le (.lst [])=H5 at s5 ⊢
   rw[if_neg (show ¬ false=true by decide),A8]
   have e:P0.ppl.take (j+1)=P0.ppl.take j++[pp]:=Wf hpp;rw[e,z0y,zy7];refine itB (fun hb=>?_) (fun hb=>?_)
   ·refine⟨_,rfl,s3.trans s5,?_⟩
    rw[z0l (p:=fun x=>(Pa P0 x mm).isEmpty) (a:=pp) hb,z01]
    exact(tl3.same s5).snoc (s5 _ _ (sh3 _ _ htp))
   ·refine⟨s3.trans s5,?_⟩
    rw[z0k (p:=fun x=>(Pa P0 x mm).isEmpty) (a:=pp) (by rw[hb];decide),z01,List.map_nil,z1a]
    exact tl3.same s5
  ·rintro ys H3 ⟨s3,tl3⟩ lf hlf
   rw[hpl,zzh] at tl3
   have s4:=s3.trans (Ze (o:=.lst ys) hlf);have q4:upd H3 lf (.lst ys) lf=some (.lst ys):=Zb;have tl4:=tl3.same (Ze (o:=.lst ys) hlf);show Vh 4 (V.ref lf) _ (upd H3 lf (.lst ys)) _;generalize upd H3 lf (.lst ys)=H4 at s4 q4 tl4 ⊢
   have hfl:ys.length<=100:=by rw[tl3.length,zyz];exact zzg (zz2 _ _) hl2
   walk_at "if";refine⟨_,rfl,r,_,rfl,s4 _ _ hr3,_,rfl,lf,rfl,⟨_,SqL.of q4⟩,We (K:=K) (a:=lf) (xs:=ys) (fun i zs H''=>Same H4 H''/\zs=((P0.ppl.filter fun x=>(Pa P0 x mm).isEmpty).take i).map fun x=>V.int x.1) ⟨Same.refl _,rfl⟩ (fun i zs H'' _ ⟨z,_⟩=>SqL.of (z _ _ q4)) (szN (by omega)) (fun i zs H'' ⟨_,e⟩=>by rw[e,zyz];exact z0c _ _) ?_ ?_⟩
   ·rintro j x zs H5 hx5 ⟨s5,rfl⟩
    obtain⟨tp,pp,rfl,hpp,htp⟩:=Ks tl4 hx5;unfold tYes;dsimp only;rw[if_pos rfl];refine⟨_,rfl,tp,_,_,_,rfl,rfl,SqT.of (s5 _ _ htp),(show atI (pV pp) 0=some _ from rfl),s5,?_⟩
    rw[Wf hpp,zy7];rfl
   ·rintro zs H5 ⟨s5,rfl⟩ ln hln'
    have hyl:ys.length=(P0.ppl.filter fun x=>(Pa P0 x mm).isEmpty).length:=by rw[tl3.length,zyz]
    rw[hyl,zzh];have er:(P0.ppl.filter fun x=>(Pa P0 x mm).isEmpty).map (fun x=>V.int x.1)=((P0.ppl.filter fun x=>(Pa P0 x mm).isEmpty).map (·.1)).map V.int:=by rw[z0o];rfl
    rw[er];have s6:=(s4.trans s5).trans (Ze (o:=.lst (((P0.ppl.filter fun x=>(Pa P0 x mm).isEmpty).map (·.1)).map V.int)) hln')
    have q6:upd H5 ln (.lst (((P0.ppl.filter fun x=>(Pa P0 x mm).isEmpty).map (·.1)).map V.int)) ln=some (.lst (((P0.ppl.filter fun x=>(Pa P0 x mm).isEmpty).map (·.1)).map V.int)):=Zb
    have fl:H' ln=none:=(s4.trans s5).free hln';dsimp only;generalize upd H5 ln (.lst (((P0.ppl.filter fun x=>(Pa P0 x mm).isEmpty).map (·.1)).map V.int))=H6 at s6 q6 ⊢
    refine⟨_,s6 _ _ hr3,szN (by rw[zyz];have:=(zy0.mp hx).1;omega),⟨_,_,rfl⟩,fun x o e n=>by rw[Zh n];exact s6 _ _ (k2 _ _ e n),ls++[ln],by rw[zy7];exact Zb,?_,by rw[zy2,hln];rfl,fun y hy=>?_⟩
    ·have e:(Qd P0 ms).take (i+1)=(Qd P0 ms).take i++[(P0.ppl.filter fun x=>(Pa P0 x mm).isEmpty).map (·.1)]:=by
      unfold Qd;rw[zz6,zy5,hmm];rfl
     rw[e];refine ILs.snoc (by rw[Zh (Zg hr3 fl).symm];exact q6) (il.keep fun x hx' o q=>?_)
     rw[Zh (hfr x hx').2];exact s6 _ _ q
    ·rcases zy6.mp hy with z|z
     ·exact hfr y z
     ·rw[zy3.mp z];exact⟨sh.free fl,(Zg hr3 fl).symm⟩
 ·rintro σ H' ⟨⟨v1,v2,rfl⟩,k2,ls,hr3,il,hln,hfr⟩
  have sh:Same H H':=fun x o e=>k2 _ _ (s2 _ _ e) (Zg e fr)
  have hml:(Qd P0 ms).length=ms.length:=by unfold Qd;rw[zyz]
  rw[htl,<- hml,zzh] at il
  exact⟨_,rfl,h r ls H' hr3 il sh fr fun x hx=>(hfr x hx).1⟩
noncomputable abbrev T6:Stmt:=top 70
theorem Tg:Zl ["_law_pages","_law_deed_here","_law_page","_law_at_here","_law_kept"] ["_law_pages","_law_deed_here"] (Zj T6):=fnS
theorem Eg(F:Fun K "_law_paged" "_law_paged" T6 f fd)(T:Tx K mg a)(zmw:Z7 P w K mg base "_law_open" 2 ["_law_page"] (Bx K)):Z3 P w K mg base (CX1 P w) 3 f fd ["_law_pages","_law_deed_here"] (Fs K):=by
 refine F.okX Tg (by walk_at "ar") fun _ _ _ _ H _ Q E hr h=>?_
 obtain⟨ok,l,t,ds,d,P0,D,rfl,hl,PA,hD,PO,hpl,hol,hdl,hcl,h⟩:=h;have hu:=W2 hr;refine⟨_,(Zc (pS 2 Tg.nd (Y9 Bu (by rfl) T.zp4 PyProof.Rows.boot_dict (Za (pI (iL K) (pv 0) (Mo Rv Zi)) Zd)))
 (Zc (pS 3 Tg.nd (Zp Ys (Zw (cL K) (by rfl) T.zlc PySem.boot_len (Za (pD hu (pv 2) Zn) Zd)) Zi))
 (Zc (Z9 (Zm Wq (pI (iU K) (pv 1) Zi) Zn (Zv _))
  (Zf (Zo (Ey (E4 (K:=K) rfl) (pv 0) Am (An (Mo Rv Zi)))))
  Zu)
 (Zc (Z9 (Zm Wq (pI (iU K) (pv 1) Zi) Zn (Zv _))
  (Zc (pS 4 Tg.nd (Yd (Za (pD hu (pv 2) Zn) (Za (pD hu (pv 2) Zn) (Za (pD hu (pv 2) Zn) (Za (pF zmw hr (Za (pv 2) Zd)) Zd))))))
  (Zc (Yl hu (pv 2) Zn (Zp Ko (pD hu (pv 2) Zn) (Ya (Za (pv 4) Zd))) rfl)
  (Zc (Yl hu (pv 2) Zn Y0 rfl)
  (Zc (Yl hu (pv 2) Zn (Ya Zd) rfl)
  (Zc (Yl hu (pv 2) Zn (Ya Zd) rfl)
  (Zf (Zo (Ya (Za (pv 2) Zd)))))))))
  Zu)
 (Zc (Z9 (Zm Wq (pI (iU K) (pv 1) Zi) Zn (Zv _))
  (Zc (Yl hu (pv 2) Zn (Zp Ko (pD hu (pv 2) Zn) (Ya (Za (Yd (Za (pI (iU K) (pv 1) Zi) (Za (pI (iU K) (pv 1) Zi) (Za (pI (iU K) (pv 1) Zi) Zd)))) Zd))) rfl)
  (Zf (Yl hu (pv 2) Zn (Yd (Za Zn (Za (pI (iU K) (pv 1) Zi) (Za (pv 3) Zd)))) rfl)))
  (Zf (Z9 (Zm Wq (pI (iU K) (pv 1) Zi) Zn (Zv _))
   (Zc (Yl hu (pv 2) Zn (pI (iU K) (pv 1) Zi) rfl)
   (Zf (Yl hu (pv 2) Zn (Yd (Za Zn (Za (Zw (cL K) (by rfl) T.zlc PySem.boot_len (Za (pI (iU K) (pv 1) Zi) Zd)) (Za (pv 3) Zd)))) rfl)))
   (Zc (Yl hu (pv 2) Zn (Zp Ko (pD hu (pv 2) Zn) (Ya (Za (Yd (Za (pI (iU K) (pv 1) Zi) (Za (pI (iU K) (pv 1) Zi) Zd))) Zd))) rfl)
   (Zf (Yl hu (pv 2) Zn (Yd (Za Zn (Za (pI (iU K) (pv 1) Zi) (Za (pI (iU K) (pv 1) Zi) Zd)))) rfl))))))
 (Zf (Zo (Zp Ko (pv 0) (Ya (Za (pv 2) Zd)))))))))),?_⟩
 show let y1:TS:=_;let y2:TS:=Zz _ y1;let y3:TS:=Zz _ y2;let y4:TS:=Zz _ y3;let y5:TS:=Zz _ y4;let y6:TS:=_;let y7:TS:=Zz _ y6;let y8:TS:=Zz (Cz _ (Zz _ y5) _) y7;let y9:TS:=Zz _ y8;let y10:TS:=Zz _ y9;Zz _ y10 _ _ _;intro y1 y2 y3 y4 y5 y6 y7 y8 y9 y10;obtain⟨lp,lo,lv,dv,li,lg,lm,a1,PB,okd⟩:=id PA.split;have hat:atI ((ds++[d]).map V.ref) (-1)=some (V.ref d):=by rw[zy7];exact L2.atI_last _ _
 refine⟨_,rfl,_,rfl,l,_,_,_,rfl,rfl,SqL.of hl,hat,d,_,rfl,.inl a1,fun d' fd'=>?_⟩
 obtain⟨ok1,hok1⟩:∃ ok1:Addr->Prop,ok1=fun x=>ok x\/H x=none:=⟨_,rfl⟩
 have okf:∀ x,H x=none->ok1 x:=fun x hx=>by rw[hok1];exact .inr hx
 have oko:∀ x,ok x->ok1 x:=fun x hx=>by rw[hok1];exact .inl hx
 rw[<- hok1] at h
 have s1:=Ze (o:=.dK (pgF P0.len P0.rest lp lo lv dv li lg lm)) fd';have q1:upd H d' (.dK (pgF P0.len P0.rest lp lo lv dv li lg lm)) d'=some (.dK (pgF P0.len P0.rest lp lo lv dv li lg lm)):=Zb;have PB1:=(PB.imp (fun x _ o=>oko x o)).keepL (.of s1)
 walk_at "if";generalize upd H d' (.dK (pgF P0.len P0.rest lp lo lv dv li lg lm))=H1 at s1 q1 PB1 ⊢
 have PA1:PgAt ok1 H1 d' P0:=.join q1 PB1 (okf _ fd');obtain⟨vts,v1,v2,v3⟩:=PB1.vv;refine⟨_,rfl,d',_,rfl,DGet.k (k:=.inr "over") q1,lv,vts,rfl,.inl (SqL.of v1),_,_,rfl,rfl,?_⟩;rw[v2.length];have wr:∀ {H:Hp} {lp lo lv:Addr} {dv li:V} {lg lm:Addr} {x:V} {k:Str},H d'=some (.dK (pgF P0.len P0.rest lp lo lv dv li lg lm))->DPut H d' (.str k) x (upd H d' (.dK (putK (pgF P0.len P0.rest lp lo lv dv li lg lm) (.inr k) x))):=fun q=>DPut.k (k:=.inr _) q zed
 have sz0:([]:List V).length<=sizeLine:=zzs _;have sz1:∀ x:V,[x].length<=sizeLine:=fun x=>by show 1<=sizeLine;rw[sizeLine_eq];decide
 walk_at "if";cases D with
 | back =>
   have ht:H t=some (.tup [.str "take back"]):=hD;refine⟨_,rfl,t,_,_,_,rfl,rfl,SqT.of (s1 _ _ ht),rfl,rfl,_,rfl,?_⟩;rw[D8];refine iteT ?_;refine⟨_,rfl,_,rfl,_,rfl,l,_,rfl,SqL.of (s1 _ _ hl),fun c fc=>?_⟩
   rw[zy7,show J7 (ds.map V.ref++[d].map V.ref) none (some (-1))=ds.map V.ref from zeg _ _]
   exact h c d' _ Zb (fun z=>absurd rfl z) (s1.trans (Ze fc)) (s1.free fc) fd'
 | close =>
   have ht:H t=some (.tup [.str "close"]):=hD;refine⟨_,rfl,t,_,_,_,rfl,rfl,SqT.of (s1 _ _ ht),rfl,rfl,_,rfl,?_⟩;rw[Sm (by decide +kernel)]
   refine iteF (Z1 ?_);refine⟨_,rfl,t,_,_,_,rfl,rfl,SqT.of (s1 _ _ ht),rfl,rfl,_,rfl,?_⟩;rw[D8];refine iteT ?_;obtain⟨ms,hms,hml⟩:=hcl rfl;refine⟨_,rfl,d',_,rfl,DGet.k (k:=.inr "listed") q1,_,rfl,d',_,rfl,DGet.k (k:=.inr "goes") q1,_,rfl,d',_,rfl,DGet.k (k:=.inr "moves") q1,_,rfl,ok1,d',P0,ms,rfl,PA1,PO,hms,hml,hpl,fun ly ls H2 hly ily s2 fly fls=>?_⟩
   obtain⟨ll,ts,rfl,b1,b2,b3⟩:∃ l ts,li=.ref l/\H1 l=some (.lst ts)/\TupL H1 ts (ms.map pV)/\ok1 l:=by have:=PB1.li;rw[hms] at this;exact this
   obtain⟨mts,c1,c2,c3⟩:=PB1.mm;obtain⟨g1,g2⟩:=PB1.gg;have sh2:=s1.trans s2;refine⟨by show 4<=sizeLine;rw[sizeLine_eq];decide,fun tk ftk=>?_⟩
   have s3:=s2.trans (Ze (o:=.tup [.ref ll,.ref lg,.ref lm,.ref ly]) ftk);have t3:=Zb (H:=H2) (a:=tk) (o:=.tup [.ref ll,.ref lg,.ref lm,.ref ly]);have y3:=Ze (o:=.tup [.ref ll,.ref lg,.ref lm,.ref ly]) ftk _ _ hly;have i3:=ily.same (Ze (o:=.tup [.ref ll,.ref lg,.ref lm,.ref ly]) ftk);generalize upd H2 tk (.tup [.ref ll,.ref lg,.ref lm,.ref ly])=H3 at s3 t3 y3 i3 ⊢
   walk_at "if";refine⟨_,rfl,d',_,rfl,DGet.k (k:=.inr "over") (s3 _ _ q1),_,rfl,sz1 _,fun l1 f1=>?_⟩
   have s4:=Ze (o:=.lst [.ref tk]) f1;have t4:=Zb (H:=H3) (a:=l1) (o:=.lst [.ref tk]);generalize upd H3 l1 (.lst [.ref tk])=H4 at s4 t4 ⊢
   have s04:=s3.trans s4;refine⟨lv,l1,vts,_,rfl,rfl,s04 _ _ v1,t4,szN (by rw[v2.length];have:=PO.1;show P0.over.length+1<=1000;omega),fun lv' fv'=>?_⟩
   have s5:=s4.trans (Ze (o:=.lst (vts++[.ref tk])) fv');have t5:=Zb (H:=H4) (a:=lv') (o:=.lst (vts++[.ref tk]));generalize upd H4 lv' (.lst (vts++[.ref tk]))=H5 at s5 t5 ⊢
   have s15:=s3.trans s5;refine⟨_,rfl,d',_,rfl,wr (s15 _ _ q1),?_⟩;rw[zec];have s6:=Z8 (o:=.dK (pgF P0.len P0.rest lp lo lv' dv (.ref ll) lg lm)) fd' (s1.trans s15);have q6:=Zb (H:=H5) (a:=d') (o:=.dK (pgF P0.len P0.rest lp lo lv' dv (.ref ll) lg lm));have k6:=Xk.dict (s15 _ _ q1) (kvs':=pgF P0.len P0.rest lp lo lv' dv (.ref ll) lg lm);generalize upd H5 d' (.dK (pgF P0.len P0.rest lp lo lv' dv (.ref ll) lg lm))=H6 at s6 q6 k6 ⊢
   refine⟨_,rfl,d',_,rfl,wr q6,?_⟩;rw[K9];have s7:=Z8 (o:=.dK (pgF P0.len P0.rest lp lo lv' dv .non lg lm)) fd' s6;have q7:=Zb (H:=H6) (a:=d') (o:=.dK (pgF P0.len P0.rest lp lo lv' dv .non lg lm));have k7:=k6.trans (Xk.dict q6 (kvs':=pgF P0.len P0.rest lp lo lv' dv .non lg lm));generalize upd H6 d' (.dK (pgF P0.len P0.rest lp lo lv' dv .non lg lm))=H7 at s7 q7 k7 ⊢
   refine⟨sz0,fun lg' fg'=>?_⟩
   have s8:=Ze (o:=.lst []) fg';have t8:=Zb (H:=H7) (a:=lg') (o:=.lst []);generalize upd H7 lg' (.lst [])=H8 at s8 t8 ⊢
   refine⟨_,rfl,d',_,rfl,wr (s8 _ _ q7),?_⟩;rw[Ca];have s9:=Z8 (o:=.dK (pgF P0.len P0.rest lp lo lv' dv .non lg' lm)) fd' (s7.trans s8);have q9:=Zb (H:=H8) (a:=d') (o:=.dK (pgF P0.len P0.rest lp lo lv' dv .non lg' lm));have k9':=Xk.dict (s8 _ _ q7) (kvs':=pgF P0.len P0.rest lp lo lv' dv .non lg' lm);generalize upd H8 d' (.dK (pgF P0.len P0.rest lp lo lv' dv .non lg' lm))=H9 at s9 q9 k9' ⊢
   have k9:=(k7.trans (.of s8)).trans k9';refine⟨sz0,fun lm' fm'=>?_⟩
   have s10:=Ze (o:=.lst []) fm';have t10:=Zb (H:=H9) (a:=lm') (o:=.lst []);generalize upd H9 lm' (.lst [])=H10 at s10 t10 ⊢
   refine⟨_,rfl,d',_,rfl,wr (s10 _ _ q9),?_⟩;rw[zbw];have s11:=Z8 (o:=.dK (pgF P0.len P0.rest lp lo lv' dv .non lg' lm')) fd' (s9.trans s10);have q11:=Zb (H:=H10) (a:=d') (o:=.dK (pgF P0.len P0.rest lp lo lv' dv .non lg' lm'));have k11':=Xk.dict (s10 _ _ q9) (kvs':=pgF P0.len P0.rest lp lo lv' dv .non lg' lm');generalize upd H10 d' (.dK (pgF P0.len P0.rest lp lo lv' dv .non lg' lm'))=H11 at s11 q11 k11' ⊢
   have k11:=(k9.trans (.of s10)).trans k11';refine⟨_,rfl,sz1 _,fun lr flr=>?_⟩
   have s12:=Ze (o:=.lst [.ref d']) flr;have t12:=Zb (H:=H11) (a:=lr) (o:=.lst [.ref d']);have k12:=k11.trans (.of s12);have k1:=(Xk.of s15).trans k12;have k3:=(Xk.of s5).trans k12;generalize upd H11 lr (.lst [.ref d'])=H12 at s12 t12 k12 k1 k3 ⊢
   refine h lr d' H12 t12 (fun _=>?_) (s11.trans s12) (s11.free flr) fd'
   have b:=PB1.keepL k1;have e:Ua P0 .close={ P0 with over:=P0.over++[⟨ms,Qd P0 ms,P0.gv,P0.mv⟩],lis:=none,gv:=[],mv:=[] }:=by unfold Ua;rw[hms];rfl
   rw[e];have fr2:∀ x,H2 x=none->H x=none:=fun x hx=>sh2.free hx
   refine .join (P:={ P0 with over:=P0.over++[⟨ms,Qd P0 ms,P0.gv,P0.mv⟩],lis:=none,gv:=[],mv:=[] }) (s12 _ _ q11) ⟨b.pp,b.oo,⟨_,k12.1 _ _ t5,Xd.snoc (s:=⟨ms,Qd P0 ms,P0.gv,P0.mv⟩) (k3.2 _ _ t3) (k1.1 _ _ b1) (b2.mono k1.2) (k1.1 _ _ g1) (k1.1 _ _ c1) (c2.keepL k1) (k3.1 _ _ y3) (ILs.keepL k3 i3) ⟨b3,g2,c3,okf _ (s1.free fly),fun x hx=>okf _ (s1.free (fls x hx))⟩ (v2.keepL k1),okf _ (s1.free (s04.free fv'))⟩,b.dd,rfl,⟨?_,okf _ (s7.free fg')⟩,[],?_,.nil,okf _ (s9.free fm')⟩ (okf _ fd')
   ·exact s12 _ _ (k11'.1 _ _ (s10 _ _ (k9'.1 _ _ t8)))
   ·exact s12 _ _ (k11'.1 _ _ t10)
 | enrol n g c =>
   have ht:H t=some (.tup [.str "enrol",.int n,.int g,.int c]):=hD;have ht1:=s1 _ _ ht;have sz3:∀ x y z:V,[x,y,z].length<=sizeLine:=fun x y z=>by show 3<=sizeLine;rw[sizeLine_eq];decide
   refine⟨_,rfl,t,_,_,_,rfl,rfl,SqT.of ht1,rfl,rfl,_,rfl,?_⟩;rw[Sm (by decide +kernel)]
   refine iteF (Z1 ?_);refine⟨_,rfl,t,_,_,_,rfl,rfl,SqT.of ht1,rfl,rfl,_,rfl,?_⟩;rw[Sm (by decide +kernel)]
   refine iteF (Z1 ?_);refine⟨_,rfl,t,_,_,_,rfl,rfl,SqT.of ht1,rfl,rfl,_,rfl,?_⟩;rw[D8];refine iteT ?_;obtain⟨pts,p1,p2,p3⟩:=PB1.pp;refine⟨_,rfl,d',_,rfl,DGet.k (k:=.inr "people") q1,_,rfl,t,_,_,_,rfl,rfl,SqT.of ht1,rfl,_,rfl,t,_,_,_,rfl,rfl,SqT.of ht1,rfl,_,rfl,t,_,_,_,rfl,rfl,SqT.of ht1,rfl,sz3 _ _ _,fun tp ftp=>?_⟩
   have s2:=Ze (o:=.tup [.int n,.int g,.int c]) ftp;have t2:=Zb (H:=H1) (a:=tp) (o:=.tup [.int n,.int g,.int c]);generalize upd H1 tp (.tup [.int n,.int g,.int c])=H2 at s2 t2 ⊢
   refine⟨sz1 _,fun l1 f1=>?_⟩
   have s3:=Ze (o:=.lst [.ref tp]) f1;have t3:=Zb (H:=H2) (a:=l1) (o:=.lst [.ref tp]);generalize upd H2 l1 (.lst [.ref tp])=H3 at s3 t3 ⊢
   have s13:=s2.trans s3;refine⟨lp,l1,pts,_,rfl,rfl,s13 _ _ p1,t3,szN (by rw[p2.length,zyz];show _+1<=1000;omega),fun lp' fp'=>?_⟩
   have s4:=s13.trans (Ze (o:=.lst (pts++[.ref tp])) fp');have t4:=Zb (H:=H3) (a:=lp') (o:=.lst (pts++[.ref tp]));have t2':=(s3.trans (Ze (o:=.lst (pts++[.ref tp])) fp')) _ _ t2;generalize upd H3 lp' (.lst (pts++[.ref tp]))=H4 at s4 t4 t2' ⊢
   refine⟨_,rfl,d',_,rfl,wr (s4 _ _ q1),?_⟩;rw[Bv];have s5:=Z8 (o:=.dK (pgF P0.len P0.rest lp' lo lv dv li lg lm)) fd' (s1.trans s4);have q5:=Zb (H:=H4) (a:=d') (o:=.dK (pgF P0.len P0.rest lp' lo lv dv li lg lm));have k5':=Xk.dict (s4 _ _ q1) (kvs':=pgF P0.len P0.rest lp' lo lv dv li lg lm);generalize upd H4 d' (.dK (pgF P0.len P0.rest lp' lo lv dv li lg lm))=H5 at s5 q5 k5' ⊢
   have k5:=(Xk.of s4).trans k5';refine⟨_,rfl,t,_,_,_,rfl,rfl,SqT.of (s5 _ _ ht),rfl,_,rfl,sz3 _ _ _,fun td ftd=>?_⟩
   have s6:=Ze (o:=.tup [.str "enrol",.int n,.int ((P0.over.length:Int)+1)]) ftd;have t6:=Zb (H:=H5) (a:=td) (o:=.tup [.str "enrol",.int n,.int ((P0.over.length:Int)+1)]);generalize upd H5 td (.tup [.str "enrol",.int n,.int ((P0.over.length:Int)+1)])=H6 at s6 t6 ⊢
   refine⟨_,rfl,d',_,rfl,wr (s6 _ _ q5),?_⟩;rw[K8];have s7:=Z8 (o:=.dK (pgF P0.len P0.rest lp' lo lv (.ref td) li lg lm)) fd' (s5.trans s6);have q7:=Zb (H:=H6) (a:=d') (o:=.dK (pgF P0.len P0.rest lp' lo lv (.ref td) li lg lm));have k7':=Xk.dict (s6 _ _ q5) (kvs':=pgF P0.len P0.rest lp' lo lv (.ref td) li lg lm);generalize upd H6 d' (.dK (pgF P0.len P0.rest lp' lo lv (.ref td) li lg lm))=H7 at s7 q7 k7' ⊢
   have k7:=(k5.trans (.of s6)).trans k7';refine⟨_,rfl,_,rfl,sz1 _,fun l2 f2=>?_⟩
   have s8:=Ze (o:=.lst [.ref d']) f2;have t8:=Zb (H:=H7) (a:=l2) (o:=.lst [.ref d']);generalize upd H7 l2 (.lst [.ref d'])=H8 at s8 t8 ⊢
   refine⟨l,l2,_,_,rfl,rfl,s8 _ _ (s7 _ _ hl),t8,szN (by rw[zyz,zy2];show ds.length+1+1<=1000;omega),fun lr flr=>?_⟩
   have er:(ds++[d]).map V.ref++[.ref d']=(ds++[d]++[d']).map V.ref:=by rw[zy7 (l₁:=ds++[d])];rfl
   rw[er];have s9:=s8.trans (Ze (o:=.lst ((ds++[d]++[d']).map V.ref)) flr);have t9:=Zb (H:=H8) (a:=lr) (o:=.lst ((ds++[d]++[d']).map V.ref));generalize upd H8 lr (.lst ((ds++[d]++[d']).map V.ref))=H9 at s9 t9 ⊢
   have k9:=k7.trans (.of s9);have t6':=s9 _ _ (k7'.2 _ _ t6);refine h lr d' H9 t9 (fun _=>?_) (s7.trans s9) (s7.free (s8.free flr)) fd'
   have b:=PB1.keepL k9;refine .join (P:=Ua P0 (.enrol n g c)) (s9 _ _ q7) ⟨⟨_,s9 _ _ (k7'.1 _ _ (s6 _ _ (k5'.1 _ _ t4))),?_,okf _ (s1.free (s13.free fp'))⟩,b.oo,b.vv,⟨td,rfl,t6'⟩,b.li,b.gg,b.mm⟩ (okf _ fd');unfold Ua;dsimp only;rw[zy7];exact(p2.mono k9.2).snoc (s9 _ _ (k7'.2 _ _ (s6 _ _ (k5'.2 _ _ t2'))))
 | draw ms =>
   obtain⟨ll,ts,ht,hll,tl,okl⟩:∃ l ts,H t=some (.tup [.str "draw up",.ref l])/\H l=some (.lst ts)/\TupL H ts (ms.map pV)/\ok l:=hD
   have ht1:=s1 _ _ ht;have sz3:∀ x y z:V,[x,y,z].length<=sizeLine:=fun x y z=>by show 3<=sizeLine;rw[sizeLine_eq];decide
   refine⟨_,rfl,t,_,_,_,rfl,rfl,SqT.of ht1,rfl,rfl,_,rfl,?_⟩;rw[Sm (by decide +kernel)]
   refine iteF (Z1 ?_);refine⟨_,rfl,t,_,_,_,rfl,rfl,SqT.of ht1,rfl,rfl,_,rfl,?_⟩;rw[Sm (by decide +kernel)]
   refine iteF (Z1 ?_);refine⟨_,rfl,t,_,_,_,rfl,rfl,SqT.of ht1,rfl,rfl,_,rfl,?_⟩;rw[Sm (by decide +kernel)]
   refine iteF ?_;refine⟨_,rfl,t,_,_,_,rfl,rfl,SqT.of ht1,rfl,rfl,_,rfl,?_⟩;rw[D8];refine iteT ?_;refine⟨_,rfl,t,_,_,_,rfl,rfl,SqT.of ht1,rfl,_,rfl,d',_,rfl,wr q1,?_⟩;rw[K9];have s5:=Z8 (o:=.dK (pgF P0.len P0.rest lp lo lv dv (.ref ll) lg lm)) fd' s1;have q5:=Zb (H:=H1) (a:=d') (o:=.dK (pgF P0.len P0.rest lp lo lv dv (.ref ll) lg lm));have k5:=Xk.dict q1 (kvs':=pgF P0.len P0.rest lp lo lv dv (.ref ll) lg lm);generalize upd H1 d' (.dK (pgF P0.len P0.rest lp lo lv dv (.ref ll) lg lm))=H5 at s5 q5 k5 ⊢
   have ez:(ts.length:Int)=(ms.length:Int):=by rw[tl.length,zyz]
   refine⟨_,rfl,t,_,_,_,rfl,rfl,SqT.of (s5 _ _ ht),rfl,ll,ts,rfl,.inl (SqL.of (s5 _ _ hll)),_,rfl,sz3 _ _ _,fun td ftd=>?_⟩
   have s6:=Ze (o:=.tup [.str "draw up",.int (ts.length:Int),.int ((P0.over.length:Int)+1)]) ftd;have t6:=Zb (H:=H5) (a:=td) (o:=.tup [.str "draw up",.int (ts.length:Int),.int ((P0.over.length:Int)+1)]);generalize upd H5 td (.tup [.str "draw up",.int (ts.length:Int),.int ((P0.over.length:Int)+1)])=H6 at s6 t6 ⊢
   refine⟨_,rfl,d',_,rfl,wr (s6 _ _ q5),?_⟩;rw[K8];have s7:=Z8 (o:=.dK (pgF P0.len P0.rest lp lo lv (.ref td) (.ref ll) lg lm)) fd' (s5.trans s6);have q7:=Zb (H:=H6) (a:=d') (o:=.dK (pgF P0.len P0.rest lp lo lv (.ref td) (.ref ll) lg lm));have k7':=Xk.dict (s6 _ _ q5) (kvs':=pgF P0.len P0.rest lp lo lv (.ref td) (.ref ll) lg lm);generalize upd H6 d' (.dK (pgF P0.len P0.rest lp lo lv (.ref td) (.ref ll) lg lm))=H7 at s7 q7 k7' ⊢
   have k7:=(k5.trans (.of s6)).trans k7';refine⟨_,rfl,_,rfl,sz1 _,fun l2 f2=>?_⟩
   have s8:=Ze (o:=.lst [.ref d']) f2;have t8:=Zb (H:=H7) (a:=l2) (o:=.lst [.ref d']);generalize upd H7 l2 (.lst [.ref d'])=H8 at s8 t8 ⊢
   refine⟨l,l2,_,_,rfl,rfl,s8 _ _ (s7 _ _ hl),t8,szN (by rw[zyz,zy2];show ds.length+1+1<=1000;omega),fun lr flr=>?_⟩
   have er:(ds++[d]).map V.ref++[.ref d']=(ds++[d]++[d']).map V.ref:=by rw[zy7 (l₁:=ds++[d])];rfl
   rw[er];have s9:=s8.trans (Ze (o:=.lst ((ds++[d]++[d']).map V.ref)) flr);have t9:=Zb (H:=H8) (a:=lr) (o:=.lst ((ds++[d]++[d']).map V.ref));generalize upd H8 lr (.lst ((ds++[d]++[d']).map V.ref))=H9 at s9 t9 ⊢
   have k9:=k7.trans (.of s9);have t6':=s9 _ _ (k7'.2 _ _ t6);refine h lr d' H9 t9 (fun _=>?_) (s7.trans s9) (s7.free (s8.free flr)) fd'
   have b:=PB1.keepL k9;rw[ez] at t6'
   exact .join (P:=Ua P0 (.draw ms)) (s9 _ _ q7) ⟨b.pp,b.oo,b.vv,⟨td,rfl,t6'⟩,⟨ll,ts,rfl,s9 _ _ (s7 _ _ hll),tl.mono (fun x xs z=>s9 _ _ (s7 _ _ z)),oko _ okl⟩,b.gg,b.mm⟩ (okf _ fd')
 | away i n =>
   have ht:H t=some (.tup [.str "away",.int i,.int n]):=hD;have ht1:=s1 _ _ ht;have sz3:∀ x y z:V,[x,y,z].length<=sizeLine:=fun x y z=>by show 3<=sizeLine;rw[sizeLine_eq];decide
   refine⟨_,rfl,t,_,_,_,rfl,rfl,SqT.of ht1,rfl,rfl,_,rfl,?_⟩;rw[Sm (by decide +kernel)]
   refine iteF (Z1 ?_);refine⟨_,rfl,t,_,_,_,rfl,rfl,SqT.of ht1,rfl,rfl,_,rfl,?_⟩;rw[Sm (by decide +kernel)]
   refine iteF (Z1 ?_);refine⟨_,rfl,t,_,_,_,rfl,rfl,SqT.of ht1,rfl,rfl,_,rfl,?_⟩;rw[Sm (by decide +kernel)]
   refine iteF ?_;refine⟨_,rfl,t,_,_,_,rfl,rfl,SqT.of ht1,rfl,rfl,_,rfl,?_⟩;rw[Sm (by decide +kernel)]
   refine iteF ?_;obtain⟨pts,p1,p2,p3⟩:=PB1.oo;refine⟨_,rfl,d',_,rfl,DGet.k (k:=.inr "out") q1,_,rfl,t,_,_,_,rfl,rfl,SqT.of ht1,rfl,_,rfl,t,_,_,_,rfl,rfl,SqT.of ht1,rfl,sz2,fun tp ftp=>?_⟩
   have s2:=Ze (o:=.tup [.int i,.int n]) ftp;have t2:=Zb (H:=H1) (a:=tp) (o:=.tup [.int i,.int n]);generalize upd H1 tp (.tup [.int i,.int n])=H2 at s2 t2 ⊢
   refine⟨sz1 _,fun l1 f1=>?_⟩
   have s3:=Ze (o:=.lst [.ref tp]) f1;have t3:=Zb (H:=H2) (a:=l1) (o:=.lst [.ref tp]);generalize upd H2 l1 (.lst [.ref tp])=H3 at s3 t3 ⊢
   have s13:=s2.trans s3;refine⟨lo,l1,pts,_,rfl,rfl,s13 _ _ p1,t3,szN (by rw[p2.length,zyz];show _+1<=1000;omega),fun lo' fp'=>?_⟩
   have s4:=s13.trans (Ze (o:=.lst (pts++[.ref tp])) fp');have t4:=Zb (H:=H3) (a:=lo') (o:=.lst (pts++[.ref tp]));have t2':=(s3.trans (Ze (o:=.lst (pts++[.ref tp])) fp')) _ _ t2;generalize upd H3 lo' (.lst (pts++[.ref tp]))=H4 at s4 t4 t2' ⊢
   refine⟨_,rfl,d',_,rfl,wr (s4 _ _ q1),?_⟩;rw[zf0];have s5:=Z8 (o:=.dK (pgF P0.len P0.rest lp lo' lv dv li lg lm)) fd' (s1.trans s4);have q5:=Zb (H:=H4) (a:=d') (o:=.dK (pgF P0.len P0.rest lp lo' lv dv li lg lm));have k5':=Xk.dict (s4 _ _ q1) (kvs':=pgF P0.len P0.rest lp lo' lv dv li lg lm);generalize upd H4 d' (.dK (pgF P0.len P0.rest lp lo' lv dv li lg lm))=H5 at s5 q5 k5' ⊢
   have k5:=(Xk.of s4).trans k5';refine⟨_,rfl,t,_,_,_,rfl,rfl,SqT.of (s5 _ _ ht),rfl,_,rfl,t,_,_,_,rfl,rfl,SqT.of (s5 _ _ ht),rfl,sz3 _ _ _,fun td ftd=>?_⟩
   have s6:=Ze (o:=.tup [.str "away",.int n,.int i]) ftd;have t6:=Zb (H:=H5) (a:=td) (o:=.tup [.str "away",.int n,.int i]);generalize upd H5 td (.tup [.str "away",.int n,.int i])=H6 at s6 t6 ⊢
   refine⟨_,rfl,d',_,rfl,wr (s6 _ _ q5),?_⟩;rw[K8];have s7:=Z8 (o:=.dK (pgF P0.len P0.rest lp lo' lv (.ref td) li lg lm)) fd' (s5.trans s6);have q7:=Zb (H:=H6) (a:=d') (o:=.dK (pgF P0.len P0.rest lp lo' lv (.ref td) li lg lm));have k7':=Xk.dict (s6 _ _ q5) (kvs':=pgF P0.len P0.rest lp lo' lv (.ref td) li lg lm);generalize upd H6 d' (.dK (pgF P0.len P0.rest lp lo' lv (.ref td) li lg lm))=H7 at s7 q7 k7' ⊢
   have k7:=(k5.trans (.of s6)).trans k7';refine⟨_,rfl,_,rfl,sz1 _,fun l2 f2=>?_⟩
   have s8:=Ze (o:=.lst [.ref d']) f2;have t8:=Zb (H:=H7) (a:=l2) (o:=.lst [.ref d']);generalize upd H7 l2 (.lst [.ref d'])=H8 at s8 t8 ⊢
   refine⟨l,l2,_,_,rfl,rfl,s8 _ _ (s7 _ _ hl),t8,szN (by rw[zyz,zy2];show ds.length+1+1<=1000;omega),fun lr flr=>?_⟩
   have er:(ds++[d]).map V.ref++[.ref d']=(ds++[d]++[d']).map V.ref:=by rw[zy7 (l₁:=ds++[d])];rfl
   rw[er];have s9:=s8.trans (Ze (o:=.lst ((ds++[d]++[d']).map V.ref)) flr);have t9:=Zb (H:=H8) (a:=lr) (o:=.lst ((ds++[d]++[d']).map V.ref));generalize upd H8 lr (.lst ((ds++[d]++[d']).map V.ref))=H9 at s9 t9 ⊢
   have k9:=k7.trans (.of s9);have t6':=s9 _ _ (k7'.2 _ _ t6);refine h lr d' H9 t9 (fun _=>?_) (s7.trans s9) (s7.free (s8.free flr)) fd'
   have b:=PB1.keepL k9;refine .join (P:=Ua P0 (.away i n)) (s9 _ _ q7) ⟨b.pp,⟨_,s9 _ _ (k7'.1 _ _ (s6 _ _ (k5'.1 _ _ t4))),?_,okf _ (s1.free (s13.free fp'))⟩,b.vv,⟨td,rfl,t6'⟩,b.li,b.gg,b.mm⟩ (okf _ fd');unfold Ua;dsimp only;rw[zy7];exact(p2.mono k9.2).snoc (s9 _ _ (k7'.2 _ _ (s6 _ _ (k5'.2 _ _ t2'))))
noncomputable abbrev Yc:Stmt:=top 71
theorem Yu:Zl ["_law_cell_here","_law_clubs_here","_law_most","_law_mixed","_law_matches_here","_law_many","_law_grades","_law_rest_here","_law_k","_law_home","_law_guest"] ["_law_cell_here","_law_clubs_here","_law_most","_law_mixed"] (Zj Yc):=fnS
@[irreducible] noncomputable def V3:List Expr:=zbu (Q9 (Xl (Zs Yc) 2))
@[irreducible] noncomputable def Qo:Pos:=zbv (Q9 (Xl (Zs Yc) 2))
theorem Mm:Zs Yc=[Xl (Zs Yc) 0,Xl (Zs Yc) 1,.Assign (zeb (Xl (Zs Yc) 2)) (.List V3 Qo) (stP (Xl (Zs Yc) 2)),Xl (Zs Yc) 3,Xl (Zs Yc) 4,Xl (Zs Yc) 5]:=by unfold V3 Qo;kernel_rfl
theorem Mn:K7 V3 [1,2,3,4,5,6,7,8,9,1,1,1,1,2,2,3,3,4]:=by unfold V3;exact⟨by kernel_rfl,by kernel_rfl⟩
theorem J5(F:Fun K "_law_matches" "_law_matches" Yc f fd)(T:Tx K mg a)(zl1:Z7 P w K mg base "_law_mix" 1 ["_law_cell_here","_law_k"] Ay):Z3 P w K mg base (CX1 P w) 2 f fd ["_law_cell_here","_law_clubs_here","_law_most","_law_mixed"] (M7 K):=by
 refine F.okX Yu (by walk_at "ar") fun _ _ _ _ H _ Q E hr h=>?_
 obtain⟨b,ns,cell,most,mixed,rfl,hb,hl1,hl2,nd,rng,hm1,hmx,h⟩:=h;rw[Mm];refine⟨_,(Zc (pS 4 Yu.nd (Ya Zd))
 (Zc (pS 5 Yu.nd (Zw (cL K) (by rfl) T.zlc PySem.boot_len (Za (pv 1) Zd)))
 (Zc (pS 6 Yu.nd (Ya (Qx [1,2,3,4,5,6,7,8,9,1,1,1,1,2,2,3,3,4] Mn)))
 (Zc (pS 7 Yu.nd (Zp Y3 (pv 0) (Zp Ys (pv 2) Zi)))
 (Zc (Xq PassesOwn.leaving rfl (V8 rfl T.zl9 (Za (Zp Yn (pv 0) (Zp Ys (pv 2) Zi)) Zd)) (pN 8 Yu.nd)
  (Zc (pS 9 Yu.nd (Zp Yn (pv 7) (pv 5)))
  (Zc (pS 10 Yu.nd (Zp Yn (Zp Ys (Zp Ys (pv 9) Zi) (Zp Yn (Zp Y3 (pv 7) (pv 5)) (Zp Pq (pv 5) Zi))) (pv 5)))
  (Zc (Yv (pv 4) (Yd (Za (pI (iL K) (pv 1) (pv 9)) (Za (pI (iL K) (pv 1) (pv 10)) (Za (pI (iL K) (pv 6) (Zp Yn (Zp Y3 (Zp Y3 (pv 7) (pv 5)) (Zp Pq (pv 5) Zi)) Zi)) Zd)))))
  (Zf (pS 7 Yu.nd (pI (iL K) (Ya (Za (Zp Y3 (Zp Y3 (Zp Y3 (pv 7) (pv 5)) (Zp Pq (pv 5) Zi)) Zi) (Za (pF zl1 hr (Za (pv 7) (Za (pv 8) Zd))) Zd))) (pv 3))))))))
 (Zf (Zo (pv 4)))))))),?_⟩
 show let y1:TS:=_;let y2:TS:=Zz _ y1;let y3:TS:=Zz _ y2;let y4:TS:=_;let y5:TS:=Zz (zcp _ _ (Zz _ y3)) y4;let y6:TS:=Zz _ y5;let y7:TS:=Zz _ y6;let y8:TS:=Zz _ y7;Zz _ y8 _ _ _;intro y1 y2 y3 y4 y5 y6 y7 y8;have sz0:([]:List V).length<=sizeLine:=zzs _;have sz3:∀ x y z:V,[x,y,z].length<=sizeLine:=fun x y z=>by show 3<=sizeLine;rw[sizeLine_eq];decide
 refine⟨sz0,fun r fr=>?_⟩
 have s1:=Ze (o:=.lst []) fr;have q1:=Zb (H:=H) (a:=r) (o:=.lst []);walk_at "if";generalize upd H r (.lst [])=H1 at s1 q1 ⊢
 refine⟨_,rfl,b,_,rfl,.inl (SqL.of (s1 _ _ hb)),?_⟩;rw[zyz];walk_at "if";refine D7 [1,2,3,4,5,6,7,8,9,1,1,1,1,2,2,3,3,4] (by decide) fun lg H2 hg s2 fg=>?_
 have frg:lg≠r:=(Zg q1 fg).symm;have hc:(0:Int)<(most:Int)+1:=by omega
 refine⟨_,rfl,_,rfl,_,_,rfl,rfl,_,_,rfl,rfl,⟨hc,by omega⟩,?_⟩
 walk_at "if";refine⟨_,rfl,_,rfl,_,_,rfl,rfl,_,_,rfl,rfl,hc,_,rfl,?_⟩;have c0:=zz5 cell (show ((most:Int)+1)≠0 by omega)
 have c1:=zzw cell hc;have hn0:(0:Int)<(ns.length:Int):=by omega
 have hn1:(0:Int)<(ns.length:Int)-1:=by omega
 let jv7:Nat->L2.St->Hp->Prop:=fun i σ H'=>(∃ v8 v9 v10 R,σ=[some (.int cell),some (.ref b),some (.int most),some (.int mixed),some (.ref r),some (.int ns.length),some (.ref lg),some (.int R),v8,v9,v10])/\(∀ x o,H2 x=some o->x≠r->H' x=some o)/\∃ ts ms,H' r=some (.lst ts)/\TupL H' ts (ms.map pV)/\ms.length=i/\Bz ms
 refine⟨by omega,by omega,Ti jv7
  ⟨⟨_,_,_,_,rfl⟩,fun _ _ e _=>e,[],[],s2 _ _ q1,.nil,rfl,(fun m z=>nomatch z),(fun m z=>nomatch z)⟩ ?_ ?_⟩
 ·rintro i σ H' hi ⟨⟨v8,v9,v10,R,rfl⟩,k,ts,ms,hr',tl,hml,gm⟩
  have hb':=k _ _ (s2 _ _ (s1 _ _ hb)) (Zg hb fr);have hg':=k _ _ hg frg;have e0:=zz5 R (show (ns.length:Int)≠0 by omega)
  have e1:=zzw R hn0;have f0:=zz5 (R/(ns.length:Int)) (show (ns.length:Int)-1≠0 by omega)
  have f1:=zzw (R/(ns.length:Int)) hn1;have w0:=zz5 (R/(ns.length:Int)/((ns.length:Int)-1)) (show (18:Int)≠0 by omega)
  have w1:=zzw (R/(ns.length:Int)/((ns.length:Int)-1)) (show (0:Int)<18 by omega)
  obtain⟨g0,g1,g2⟩:=zei e0 e1 (y:=1+R/(ns.length:Int)%((ns.length:Int)-1)) (by omega) (by omega)
  rw[<- Int.add_assoc] at g0 g1 g2
  refine⟨_,rfl,_,rfl,_,_,rfl,rfl,hn0,?_⟩;walk_at "if";refine⟨_,rfl,_,_,rfl,rfl,_,rfl,_,rfl,_,_,rfl,rfl,⟨hn0,by omega⟩,_,rfl,_,_,rfl,rfl,_,_,rfl,rfl,hn1,_,_,rfl,rfl,_,rfl,_,_,rfl,rfl,hn0,?_⟩
  walk_at "if";generalize hG:(R%(ns.length:Int)+1+R/(ns.length:Int)%((ns.length:Int)-1))%(ns.length:Int)=gu at g0 g1 g2 ⊢
  generalize hHo:R%(ns.length:Int)=ho at e0 e1 g2 ⊢
  refine⟨_,rfl,r,_,rfl,hr',?_⟩;have hgr:=Wd (xs:=Ft) w0 (by show _<((18:Nat):Int);omega)
  have rgr:=B0 (R/(ns.length:Int)/((ns.length:Int)-1)%18).toNat (by omega)
  generalize hgv:Ft.getD (R/(ns.length:Int)/((ns.length:Int)-1)%18).toNat 0=gv at hgr rgr
  have hho:=Wd (xs:=ns) e0 (by omega)
  have hgu:=Wd (xs:=ns) g0 (by omega)
  have mho:=Tn (ns:=ns) (i:=ho.toNat) (by omega)
  have mgu:=Tn (ns:=ns) (i:=gu.toNat) (by omega)
  have hne:ns.getD ho.toNat 0≠ns.getD gu.toNat 0:=fun z=>by
   have:=zej nd (by omega) (by omega) z
   omega
  generalize ns.getD ho.toNat 0=a1 at hho mho hne
  generalize ns.getD gu.toNat 0=a2 at hgu mgu hne
  refine⟨_,rfl,_,rfl,b,_,_,_,rfl,rfl,SqL.of hb',hho,_,rfl,_,rfl,b,_,_,_,rfl,rfl,SqL.of hb',hgu,?_⟩;refine⟨_,rfl,_,rfl,_,rfl,_,_,rfl,rfl,⟨hn0,by omega⟩,_,rfl,_,_,rfl,rfl,_,_,rfl,rfl,⟨hn1,by omega⟩,_,_,rfl,rfl,(by omega),lg,_,_,_,rfl,rfl,SqL.of hg',hgr,sz3 _ _ _,fun t ft=>?_⟩
  have s3:=Ze (o:=.tup [.int a1,.int a2,.int gv]) ft;have q3:=Zb (H:=H') (a:=t) (o:=.tup [.int a1,.int a2,.int gv]);generalize upd H' t (.tup [.int a1,.int a2,.int gv])=H3 at s3 q3 ⊢
  have tln:=tl.length;rw[zyz] at tln
  refine⟨ts,s3 _ _ hr',szN (by omega),?_⟩
  have hi':i<21:=by omega
  have k4:∀ x o,H3 x=some o->x≠r->upd H3 r (.lst (ts++[.ref t])) x=some o:=fun x o e n=>by rw[Zh n];exact e
  have q4:=Zb (H:=H3) (a:=r) (o:=.lst (ts++[.ref t]));have kt4:∀ x ys,H3 x=some (.tup ys)->upd H3 r (.lst (ts++[.ref t])) x=some (.tup ys):=fun x ys e=>k4 _ _ e (Ym e (s3 _ _ hr') (by intro z;cases z))
  dsimp only;generalize upd H3 r (.lst (ts++[.ref t]))=H4 at k4 q4 kt4 ⊢
  obtain⟨z,hz⟩:=at2 (R/(ns.length:Int)/((ns.length:Int)-1)/18) (Bn R (0+(i:Int))) hmx;refine⟨_,rfl,_,rfl,_,_,rfl,rfl,⟨hn0,by omega⟩,_,rfl,_,_,rfl,rfl,_,_,rfl,rfl,⟨hn1,by omega⟩,_,_,rfl,rfl,⟨by omega,by omega⟩,_,rfl,_,rfl,_,_,rfl,sz2,fun l2 f2=>⟨_,rfl,l2,_,_,_,rfl,rfl,SqL.of Zb,hz,?_⟩⟩
  have s5:=Ze (o:=.lst [.int (R/(ns.length:Int)/((ns.length:Int)-1)/18),.int (Bn R (0+(i:Int)))]) f2;refine⟨⟨_,_,_,_,rfl⟩,fun x o e n=>s5 _ _ (k4 _ _ (s3 _ _ (k _ _ e n)) n),ts++[.ref t],ms++[(a1,a2,gv)],s5 _ _ q4,?_,by rw[zy2,hml];rfl,?_,?_⟩
  ·rw[zy7]
   exact(tl.mono fun x ys e=>s5 _ _ (kt4 _ _ (s3 _ _ e))).snoc (s5 _ _ (kt4 _ _ q3))
  ·intro m hm
   rcases zy6.mp hm with hm|hm
   ·exact gm.1 m hm
   ·rw[zy3.mp hm]
    have:=rng _ mho;have:=rng _ mgu;unfold badM;dsimp only;omega
  ·intro m hm
   rcases zy6.mp hm with hm|hm
   ·exact gm.2 m hm
   ·rw[zy3.mp hm];exact hne
 ·rintro σ H' ⟨⟨v8,v9,v10,R,rfl⟩,k,ts,ms,hr',tl,hml,gm⟩
  refine⟨_,rfl,h r ts ms H' hr' tl (by omega) gm (fun x o e=>k _ _ (s2 _ _ (s1 _ _ e)) (Zg e fr)) fr⟩
noncomputable abbrev Nm:Stmt:=top 72
theorem zcg:Zl ["_law_season","_law_deed_here"] ["_law_season","_law_deed_here"] (Zj Nm):=fnS
theorem zch(F:Fun K "_law_do" "_law_do" Nm f fd)(T:Tx K mg a)(znm:Zx P w K mg base a.zkq "enrol" 5 ["self","number","grade","club"] (zaf (ca a)))(znv:Zx P w K mg base a.zkq "away" 7 ["self","at","number"] (zd7 (ca a)))(zmt:Zx P w K mg base a.zkq "draw_up" 6 ["self","matches"] (Dw K (ca a)))(znd:Zx P w K mg base a.zkq "close" 4 ["self"] (zag (ca a)))(zme:Zx P w K mg base a.zkq "take_back" 2 ["self"] (K4 (ca a))):Z3 P w K mg base (CX1 P w) 8 f fd ["_law_season","_law_deed_here"] (zia K (ca a)):=by
 refine F.okX zcg (by walk_at "ar") fun _ _ _ _ H _ Q E hr h=>?_
 obtain⟨A',S,t,d,rfl,SA,hd,gd,co,po,hz,hoz,htot,hl,hol,hln,hsn,hbk,h⟩:=h;refine⟨_,(Zc (Z9 (Zm Wq (pI (iU K) (pv 1) Zi) Zn (Zv _))
  (Zf (Zo (X2 (pv 0) T.zkr znm (hr.mono (by decide)) Zk (Za (pI (iU K) (pv 1) Zi) (Za (pI (iU K) (pv 1) Zi) (Za (pI (iU K) (pv 1) Zi) Zd))))))
  Zu)
 (Zc (Z9 (Zm Wq (pI (iU K) (pv 1) Zi) Zn (Zv _))
  (Zf (Zo (X2 (pv 0) T.zkr znv (hr.mono (by decide)) Zk (Za (pI (iU K) (pv 1) Zi) (Za (pI (iU K) (pv 1) Zi) Zd)))))
  Zu)
 (Zc (Z9 (Zm Wq (pI (iU K) (pv 1) Zi) Zn (Zv _))
  (Zf (Zo (X2 (pv 0) T.zkr zmt (hr.mono (by decide)) Zk (Za (Y9 (Xs (K:=K) rfl) (by rfl) T.zmb PyProof.Rows.boot_list (Za (pI (iU K) (pv 1) Zi) Zd)) Zd))))
  Zu)
 (Zc (Z9 (Zm Wq (pI (iU K) (pv 1) Zi) Zn (Zv _))
  (Zf (Zo (Yp (pv 0) T.zkr znd (hr.mono (by decide)) Zk)))
  Zu)
 (Zf (Zo (Yp (pv 0) T.zkr zme (hr.mono (by decide)) Zk))))))),?_⟩
 obtain⟨⟨dx,v,a1,a2⟩,_⟩:=id SA;cases d with
 | enrol n g c0 =>
   have ht:H t=some (.tup [.str "enrol",.int n,.int g,.int c0]):=hd;obtain⟨g1,g2,g3,g4,g5⟩:=gd;have hb:=g3;unfold badI at hb
   refine⟨_,rfl,t,_,_,_,rfl,rfl,SqT.of ht,rfl,rfl,_,rfl,?_⟩;rw[D8];refine iteT ?_;refine⟨_,rfl,A'.p,dx,_,rfl,a1,Yo (by decide +kernel),_,rfl,t,_,_,_,rfl,rfl,SqT.of ht,rfl,_,rfl,t,_,_,_,rfl,rfl,SqT.of ht,rfl,_,rfl,t,_,_,_,rfl,rfl,SqT.of ht,rfl,A',S,n,g,c0,rfl,SA,⟨Yx (by omega) (by omega),Yx (by omega) (by omega),Yx (by omega) (by omega)⟩,by omega,by omega,?_⟩
   rw[if_neg (by omega),if_neg (by rw[g2];decide),if_neg g3,if_neg g4,if_neg (by omega),if_neg (by omega)]
   exact fun H' SA' f'=>h .non A' _ H' (.enrol n g c0) SA' (.refl A' H) f' (fun l z=>nomatch z)
 | away i n =>
   have ht:H t=some (.tup [.str "away",.int i,.int n]):=hd;obtain⟨g1,g2,g3,g4⟩:=gd;refine⟨_,rfl,t,_,_,_,rfl,rfl,SqT.of ht,rfl,rfl,_,rfl,?_⟩;rw[Sm (by decide +kernel)]
   refine iteF (Z1 ?_);refine⟨_,rfl,t,_,_,_,rfl,rfl,SqT.of ht,rfl,rfl,_,rfl,?_⟩;rw[D8];refine iteT ?_;have si:Y1 i:=Yx (by omega) (by omega)
   refine⟨_,rfl,A'.p,dx,_,rfl,a1,Yo (by decide +kernel),_,rfl,t,_,_,_,rfl,rfl,SqT.of ht,rfl,_,rfl,t,_,_,_,rfl,rfl,SqT.of ht,rfl,A',S,i,n,rfl,SA,si,hsn i n rfl,by omega,hoz,po,fun s hs=>?_,?_⟩
   ·obtain⟨c1,c2,c3,c4,c5⟩:=co s hs
    exact⟨c1,c2,c4,by omega⟩
   rw[if_neg (by omega),if_neg (by omega),if_pos g3,if_neg g4,if_neg (by omega)]
   refine⟨fun hc l H' hl' SA' f' fl=>h _ A' _ H' (.awayN hc hl') SA' (.refl A' H) f' (fun l2 z _=>by cases z;exact fl),fun s hi hs hp l H' hl' SA' f' fl=>?_,fun s p hi hs hp l us st e w' H' hl' tl CR SA' f' fl=>?_⟩
   ·subst hi
    exact h _ A' _ H' (.awayF hs hp hl') SA' (.refl A' H) f' (fun l2 z _=>by cases z;exact fl)
   ·subst hi
    exact h _ A' _ H' (.awayC hs hp hl' tl CR) SA' (.refl A' H) f' (fun l2 z _=>by cases z;exact fl)
 | draw ms =>
   obtain⟨l0,ts,ht,hl0,tl,okl⟩:∃ l ts,H t=some (.tup [.str "draw up",.ref l])/\H l=some (.lst ts)/\TupL H ts (ms.map pV)/\l∉A'.fp:=hd
   obtain⟨g1,g2,g3,g4,g5⟩:=gd;refine⟨_,rfl,t,_,_,_,rfl,rfl,SqT.of ht,rfl,rfl,_,rfl,?_⟩;rw[Sm (by decide +kernel)]
   refine iteF (Z1 ?_);refine⟨_,rfl,t,_,_,_,rfl,rfl,SqT.of ht,rfl,rfl,_,rfl,?_⟩;rw[Sm (by decide +kernel)]
   refine iteF (Z1 ?_);refine⟨_,rfl,t,_,_,_,rfl,rfl,SqT.of ht,rfl,rfl,_,rfl,?_⟩;rw[D8];refine iteT ?_;refine⟨_,rfl,A'.p,dx,_,rfl,a1,Yo (by decide +kernel),_,rfl,t,_,_,_,rfl,rfl,SqT.of ht,rfl,l0,ts,rfl,.inl (SqL.of hl0),fun l1 hl1=>?_⟩
   have s1:=Ze (o:=.lst ts) hl1;have q1:upd H l1 (.lst ts) l1=some (.lst ts):=Zb;generalize upd H l1 (.lst ts)=H1 at s1 q1
   have nb:¬ S6 ms:=fun ⟨m,hm,hb⟩=>g4 m hm hb
   have ns:¬ S7 ms:=fun ⟨m,hm,hb⟩=>g5 m hm hb
   refine⟨A',S,l1,ts,ms,rfl,SA.same s1,SqL.of q1,tl.same s1,fun m hm=>?_,by omega,by omega,po,?_⟩
   ·have:=g4 m hm
    unfold badM at this
    exact⟨Yx (by omega) (by omega),Yx (by omega) (by omega),Yx (by omega) (by omega)⟩
   rw[if_neg (by omega),if_neg (by rw[g2];decide)]
   refine⟨fun z=>absurd z (by omega),fun _ z=>absurd z nb,fun _ _ z=>absurd z ns,fun _ _ _=>⟨fun z=>absurd z (by omega),fun _ l gv H' hl' SA' FP SP f' fl=>?_⟩⟩
   exact h _ A' _ H' (.draw hl' FP SP) SA' (.refl A' H) ((FrS.of A' s1).trans f') (fun l2 z _=>by cases z;exact s1.free fl)
 | close =>
   have ht:H t=some (.tup [.str "close"]):=hd;obtain⟨g1,g2⟩:=gd;refine⟨_,rfl,t,_,_,_,rfl,rfl,SqT.of ht,rfl,rfl,_,rfl,?_⟩;rw[Sm (by decide +kernel)]
   refine iteF (Z1 ?_);refine⟨_,rfl,t,_,_,_,rfl,rfl,SqT.of ht,rfl,rfl,_,rfl,?_⟩;rw[Sm (by decide +kernel)]
   refine iteF (Z1 ?_);refine⟨_,rfl,t,_,_,_,rfl,rfl,SqT.of ht,rfl,rfl,_,rfl,?_⟩;rw[Sm (by decide +kernel)]
   refine iteF (Z1 ?_);refine⟨_,rfl,t,_,_,_,rfl,rfl,SqT.of ht,rfl,rfl,_,rfl,?_⟩;rw[D8];refine iteT ?_;refine⟨_,rfl,A'.p,dx,_,rfl,a1,Yo (by decide +kernel),A',S,rfl,SA,htot,hl,hol,fun s hs=>?_,?_⟩
   ·obtain⟨c1,c2,c3,c4,c5⟩:=co s hs
    refine⟨c2.one,?_,by omega⟩
    rw[c2.len,c4];unfold mayS;rw[zyz]
   rw[if_neg (by omega)]
   exact⟨fun z=>absurd z g2,fun s x H' hs SA' f' fx=>h _ { A' with lt:=x } _ H' (.close hs) SA' ⟨x,rfl,.inr fx⟩ f' (fun l2 z=>nomatch z)⟩
 | back =>
   have ht:H t=some (.tup [.str "take back"]):=hd;refine⟨_,rfl,t,_,_,_,rfl,rfl,SqT.of ht,rfl,rfl,_,rfl,?_⟩;rw[Sm (by decide +kernel)]
   refine iteF (Z1 ?_);refine⟨_,rfl,t,_,_,_,rfl,rfl,SqT.of ht,rfl,rfl,_,rfl,?_⟩;rw[Sm (by decide +kernel)]
   refine iteF (Z1 ?_);refine⟨_,rfl,t,_,_,_,rfl,rfl,SqT.of ht,rfl,rfl,_,rfl,?_⟩;rw[Sm (by decide +kernel)]
   refine iteF (Z1 ?_);refine⟨_,rfl,t,_,_,_,rfl,rfl,SqT.of ht,rfl,rfl,_,rfl,?_⟩;rw[Sm (by decide +kernel)]
   refine iteF (Z1 ?_);obtain⟨S0,hs0⟩:=hbk rfl;obtain⟨d0,e1,e2,e3,e4,e5,e6⟩:=id hs0;refine⟨_,rfl,A'.p,dx,_,rfl,a1,Yo (by decide +kernel),A',S,rfl,SA,fun z=>absurd z gd,fun std d s he=>?_⟩
   rw[e1] at he
   obtain⟨he1,he2⟩:=z0v he rfl;have he2:(d0,S0.cur)=(d,s):=by simpa using he2
   cases he2;subst he1;refine⟨S0.ppl,S0.out,e2,fun t' H' ht' SA' f'=>?_⟩
   have eS:{ S with ppl:=S0.ppl,out:=S0.out,cur:=S0.cur,std:=S0.std }=S0:=by
    cases S;cases S0;simp only at e3 e4 e5 e6 ⊢
    subst e3 e4 e5 e6;rfl
   rw[eS] at SA'
   exact h _ A' S0 H' (.back e1 ht' hs0) SA' (.refl A' H) f' (fun l2 z hx=>by cases z;obtain⟨xs,hx⟩:=hx;rw[ht'] at hx;cases hx)
noncomputable abbrev Rf:Stmt:=top 73
theorem Yz:Zl ["_law_pages","_law_cell_here","_law_pool_here","_law_most","_law_mixed","_law_clubs_here","_law_numbers_here","_law_page","_law_at_here","_law_kind","_law_rest_here","_law_day","_law_here","_law_known","_law_fresh","_law_club"] ["_law_pages","_law_cell_here","_law_pool_here","_law_most","_law_mixed"] (Zj Rf):=fnS
theorem Cr(F:Fun K "_law_deed" "_law_deed" Rf f fd)(T:Tx K mg a)(zn0:Z7 P w K mg base "_law_matches" 2 ["_law_cell_here","_law_clubs_here","_law_most","_law_mixed"] (M7 K)):Z3 P w K mg base (CX1 P w) 3 f fd ["_law_pages","_law_cell_here","_law_pool_here","_law_most","_law_mixed"] (Cd K):=by
 refine F.okX Yz (by walk_at "ar") fun _ _ _ _ H _ Q E hr h=>?_
 obtain⟨ok,l,t,lc,ln,ds,d,P0,cell,cs,nu,most,mixed,rfl,hl,PA,PL,hm1,hmx,hov,hpp,h⟩:=h;have hu:=W2 hr;refine⟨_,(Zc (Ki (pv 2) (Wi (K:=K) (n:=2) rfl rfl (Z0 (pN 5 Yz.nd) (Z0 (pN 6 Yz.nd) Wg))))
 (Zc (pS 7 Yz.nd (pI (iL K) (pv 0) (Mo Rv Zi)))
 (Zc (pS 8 Yz.nd (Zp Ys (Zw (cL K) (by rfl) T.zlc PySem.boot_len (Za (pD hu (pv 7) Zn) Zd)) Zi))
 (Zc (pS 9 Yz.nd (Zp Yn (pv 1) Zi))
 (Zc (pS 10 Yz.nd (Zp Y3 (pv 1) Zi))
 (Zc (Z9 (PW.pt (Np (Zm Wq (pv 9) Zi (Zv _)) (Qp (Zm Ri (Zw (cL K) (by rfl) T.zlc PySem.boot_len (Za (pv 0) Zd)) Zi (Zv _)))))
  (Zf (Zo (Yd (Za Zn Zd))))
  Zu)
 (Zc (pS 11 Yz.nd (Zw (Hs rfl) (by rfl) T.zqa PyProof.Rows.boot_min (Za (pD hu (pv 7) Zn) (Za (Zp Ys (pv 8) (pI (iL K) (Ya (Za Zi (Za (Zp Ys Zi (Zp Yn (Zp Y3 (pv 10) Zi) Zi)) Zd))) (Y9 Hu (by rfl) T.zp2 PyProof.Rows.boot_int (Za (Qq Wq (pv 9) Zi (Zv _)) Zd)))) Zd))))
 (Zc (T2 (i:=12) Yz.nd rfl rfl rfl (cT ["_law_day","_law_page"] [11,7]) (Yf (K:=K) rfl (pD hu (pv 7) Zn)) (fun _ _ _ _ _=>Ov (Zm (Ll (K:=K) rfl hr.units) (Yd (Za (pv 1) (Za (pI (iU K) (pv 0) Zi) Zd))) (pD hu (pv 2) Zn) (by with_unfolding_all rfl))) (fun _ _ _ _ _=>(pI (iU K) (pv 0) Zi)))
 (Zc (Z9 (PW.pt (Np (Zm (Ax (K:=K) rfl hr.units) (pv 12) (Ya Zd) (Zv _)) (Qp (PW.pt (Ru (Zm Ri (pv 9) Zi (Zv _)) (Sb (PW.pt (Np (Zm Ri (pv 9) Zi (Zv _)) (Qp (Zm Vi (pD hu (pv 7) Zn) Y0 (Zv _)))))))))))
  (Zf (Zo (Yd (Za Zn (Za (pv 11) (Za (pI (iL K) (pv 12) (Zp Yn (pv 10) (Zw (cL K) (by rfl) T.zlc PySem.boot_len (Za (pv 12) Zd)))) Zd))))))
  Zu)
 (Zc (Z9 (Zm Vi (pD hu (pv 7) Zn) Y0 (Zv _))
  (Zf (Zo (Yd (Za Zn Zd))))
  Zu)
 (Zc (pS 13 Yz.nd (Ut rfl (cT [] []) (Yf (K:=K) rfl (pD hu (pv 7) Zn)) (fun _ _ _ _ _=>Uc) (fun _ _ _ _ _=>(pI (iU K) (pv 0) Zi))))
 (Zc (T2 (i:=14) Yz.nd rfl rfl rfl (cT ["_law_known"] [13]) (Yf (K:=K) rfl (pv 6)) (fun _ _ _ _ _=>Ov (Zm (Pl (K:=K) rfl) (pv 0) (pv 1) (by with_unfolding_all rfl))) (fun _ _ _ _ _=>(pv 0)))
 (Zc (Z9 (PW.pt (Np (Zm Wq (pv 9) Zi (Zv _)) (Qp (Zm (Ax (K:=K) rfl hr.units) (pv 14) (Ya Zd) (Zv _)))))
  (Zc (pS 15 Yz.nd (pI (iL K) (pv 5) (Zp Yn (Zp Y3 (pv 10) Zi) (Zw (cL K) (by rfl) T.zlc PySem.boot_len (Za (pv 5) Zd)))))
  (Zf (Zo (Yd (Za Zn (Za (pI (iL K) (pv 14) (Zp Yn (pv 10) (Zw (cL K) (by rfl) T.zlc PySem.boot_len (Za (pv 14) Zd)))) (Za (Zp Ys Zi (Zp Yn (Zp Y3 (pv 10) Zi) Zi)) (Za (pv 15) Zd))))))))
  Zu)
 (Zf (Zo (Yd (Za Zn (Za (pF zn0 hr (Za (pv 10) (Za (pv 5) (Za (pv 3) (Za (pv 4) Zd))))) Zd)))))))))))))))))),?_⟩
 show let y1:TS:=_;let y2:TS:=Zz _ y1;let y3:TS:=Zz _ y2;let y4:TS:=Zz _ y3;let y5:TS:=Zz _ y4;let y6:TS:=Zz _ y5;let y7:TS:=Zz _ y6;let y8:TS:=Zz _ y7;let y9:TS:=Zz _ y8;let y10:TS:=Zz _ y9;let y11:TS:=Zz _ y10;let y12:TS:=Zz _ y11;let y13:TS:=Zz _ y12;Zz _ y13 _ _ _;intro y1 y2 y3 y4 y5 y6 y7 y8 y9 y10 y11 y12 y13;have sz0:([]:List V).length<=sizeLine:=zzs _;obtain⟨lp,lo,lv,dv,li,lg,lm,a1,PB,okd⟩:=id PA.split;have hat:atI ((ds++[d]).map V.ref) (-1)=some (V.ref d):=by rw[zy7];exact L2.atI_last _ _
 obtain⟨vts,v1,v2,v3⟩:=PB.vv;refine⟨_,rfl,t,_,rfl,SqT.of PL.tup,rfl,_,_,rfl,_,_,rfl,rfl,?_⟩;walk_at "if";refine⟨_,rfl,_,rfl,l,_,_,_,rfl,rfl,SqL.of hl,hat,?_⟩;walk_at "if";refine⟨_,rfl,d,_,rfl,DGet.k (k:=.inr "over") a1,lv,vts,rfl,.inl (SqL.of v1),_,_,rfl,rfl,?_⟩;rw[v2.length];walk_at "if";refine⟨_,rfl,_,_,rfl,rfl,(by omega),?_⟩
 walk_at "if";refine⟨_,rfl,_,_,rfl,rfl,⟨by omega,by omega⟩,?_⟩
 walk_at "if";obtain⟨kd,hkd⟩:∃ kd,kd=cell%8:=⟨_,rfl⟩
 obtain⟨R,hR⟩:∃ R,R=cell/8:=⟨_,rfl⟩
 rw[<- hkd,<- hR];show Zz _ _ _ [some (.ref l),some (.int cell),some (.ref t),some (.int most),some (.int mixed),some (.ref lc),some (.ref ln),some (.ref d),some (.int ((P0.over.length:Int)+1)),some (.int kd),some (.int R),none,none,none,none,none] H;have hdl:((((ds++[d]).map V.ref).length:Nat):Int)=(ds.length:Int)+1:=by rw[zyz,zy2];rfl
 have tup1:∀ (w:Str),([V.str w]).length<=sizeLine:=fun w=>by show 1<=sizeLine;rw[sizeLine_eq];decide
 refine Sy (Vm (b:=decide (V.int kd=V.int 7)&&decide (1<(ds.length:Int)+1)) (N3 (fun Q q=>⟨_,rfl,rfl,_,rfl,q⟩) (fun Q q=>⟨_,rfl,l,_,rfl,.inl (SqL.of hl),_,_,rfl,rfl,_,rfl,by rw[hdl];exact q⟩)) (itB (fun hb=>?_) (fun _=>Z1 ?_)))
 ·refine⟨tup1 _,fun tt ft=>?_⟩
  refine h tt .back _ (show upd H tt _ tt=_ from Zb) ?_ (Ze ft) ft
  rw[z0f,decide_eq_true_eq,decide_eq_true_eq] at hb
  intro z;rw[z] at hb
  have:=hb.2;simp at this
 refine⟨_,rfl,d,_,rfl,DGet.k (k:=.inr "rounds") a1,_,rfl,_,rfl,_,_,rfl,rfl,⟨by omega,by omega⟩,_,_,rfl,rfl,(by omega),_,_,rfl,rfl,sz2,fun l2 f2=>?_⟩
 have s2:=Ze (o:=.lst [.int 0,.int (1+R/60%3)]) f2;have q2:=Zb (H:=H) (a:=l2) (o:=.lst [.int 0,.int (1+R/60%3)]);generalize upd H l2 (.lst [.int 0,.int (1+R/60%3)])=H2 at s2 q2 ⊢
 obtain⟨z,hz,hz0⟩:∃ z:Int,atI [V.int 0,V.int (1+R/60%3)] (if decide (V.int kd=V.int 6)=true then 1 else 0)=some (.int z)/\0<=z:=by
  cases decide (V.int kd=V.int 6) with
  | true=>exact⟨_,rfl,by omega⟩
  | false=>exact⟨0,rfl,by omega⟩
 refine⟨_,rfl,rfl,.inr ⟨_,rfl,l2,_,_,_,rfl,rfl,SqL.of q2,hz,_,_,rfl,rfl,_,_,rfl,?_⟩⟩;obtain⟨day,hday,hd1,hd2⟩:∃ day:Int,(if ((P0.over.length:Int)+1+z)<(P0.len:Int) then ((P0.over.length:Int)+1+z) else (P0.len:Int))=day/\(P0.over.length:Int)<day/\day<=P0.len:=⟨_,rfl,by split<;>omega,by split<;>omega⟩
 rw[hday];walk_at "if";obtain⟨pts,p1,p2,p3⟩:=PB.pp;obtain⟨ots,o1,o2,o3⟩:=PB.oo;have hpl:pts.length=P0.ppl.length:=by rw[p2.length,zyz]
 have hls:=PB.li.some;refine⟨_,rfl,d,_,rfl,DGet.k (k:=.inr "people") (s2 _ _ a1),lp,rfl,⟨_,SqL.of (s2 _ _ p1)⟩,We (K:=K) (a:=lp) (xs:=pts) (fun i ys H'=>Same H2 H'/\ys=(((P0.ppl.take i).filter fun x=>!decide ((day,x.1)∈P0.out)).map (·.1)).map V.int) ⟨Same.refl _,rfl⟩ (fun i ys H' _ ⟨z,_⟩=>SqL.of (z _ _ (s2 _ _ p1))) (szN (by omega)) (fun i ys H' ⟨_,e⟩=>by rw[e,zyz,zyz];exact zzg (zz2 _ _) (z0c _ _)) ?_ ?_⟩
 ·rintro j x ys H3 hx3 ⟨s3,rfl⟩
  obtain⟨tp,pp,rfl,hpp',htp⟩:=Ks p2 hx3;have sh3:=s2.trans s3;refine⟨_,rfl,_,rfl,tp,_,_,_,rfl,rfl,SqT.of (sh3 _ _ htp),(show atI (pV pp) 0=some _ from rfl),sz2,fun t3 f3=>?_⟩
  have s4:=Ze (o:=.tup [.int day,.int pp.1]) f3;have q4:=Zb (H:=H3) (a:=t3) (o:=.tup [.int day,.int pp.1]);generalize upd H3 t3 (.tup [.int day,.int pp.1])=H4 at s4 q4 ⊢
  have sh4:=sh3.trans s4;refine⟨_,rfl,d,_,rfl,DGet.k (k:=.inr "out") (sh4 _ _ a1),t3,lo,ots,_,_,P0.out,rfl,rfl,SqT.of q4,SqL.of (sh4 _ _ o1),o2.same sh4,_,rfl,?_⟩;rw[if_pos rfl,Wf hpp',z0y,zy7,zy7];refine itB (fun hb=>?_) (fun hb=>?_)
  ·refine⟨_,rfl,tp,_,_,_,rfl,rfl,SqT.of (sh4 _ _ htp),(show atI (pV pp) 0=some _ from rfl),s3.trans s4,?_⟩
   rw[z0l (p:=fun x:P3=>!decide ((day,x.1)∈P0.out)) (a:=pp) hb,z01]
   rfl
  ·refine⟨s3.trans s4,?_⟩
   rw[z0k (p:=fun x:P3=>!decide ((day,x.1)∈P0.out)) (a:=pp) (by rw[hb];decide),z01]
   simp
 rintro ys H3 ⟨s3,rfl⟩ lh flh;rw[hpl,zzh];obtain⟨he,hhe⟩:∃ he,he=(P0.ppl.filter fun x=>!decide ((day,x.1)∈P0.out)).map (·.1):=⟨_,rfl⟩
 rw[<- hhe];have hel:he.length<=100:=by rw[hhe,zyz];exact zzg (zz2 _ _) hpp
 have hem:∀ n∈he,n∈P0.ppl.map (·.1)/\(day,n)∉P0.out:=fun n hn=>by
  rw[hhe] at hn
  obtain⟨x,hx,rfl⟩:=zy9.mp hn;obtain⟨hx1,hx2⟩:=zzq.mp hx;exact⟨zy9.mpr ⟨x,hx1,rfl⟩,by simpa using hx2⟩
 have s4:=(s2.trans s3).trans (Ze (o:=.lst (he.map V.int)) flh);have q4:=Zb (H:=H3) (a:=lh) (o:=.lst (he.map V.int));show Vh 12 (V.ref lh) _ (upd H3 lh (.lst (he.map V.int))) _;generalize upd H3 lh (.lst (he.map V.int))=H4 at s4 q4 ⊢
 walk_at "if";refine Sy (Dc (b:=!he.isEmpty&&(decide (3<kd)||(decide (0<kd)&&P0.lis.isSome))) (Gz (M9 rfl q4) (fun H5 s5=>Sz (R4 (fun Q q=>⟨_,rfl,_,_,rfl,rfl,_,rfl,q⟩) (N3 (fun Q q=>⟨_,rfl,_,_,rfl,rfl,_,rfl,q⟩) (fun Q q=>⟨_,rfl,d,_,rfl,DGet.k (k:=.inr "listed") (s5 _ _ (s4 _ _ a1)),rfl,_,rfl,by rw[hls];exact q⟩))))) (fun H5 s5=>itB (fun hb=>?_) (fun _=>Z1 ?_)))
 ·rw[z0f] at hb
  have hne:he.length≠0:=by have:=hb.1;intro z;rw[z0e.mp z] at this;exact absurd this (by decide)
  have hpos:(0:Int)<(he.length:Int):=by omega
  have y0:=zz5 R (show (he.length:Int)≠0 by omega)
  have y1:=zzw R hpos;have hix:=Wd (xs:=he) y0 (by omega)
  have mix:=Tn (ns:=he) (i:=(R%(he.length:Int)).toNat) (by omega)
  generalize he.getD (R%(he.length:Int)).toNat 0=n at hix mix
  refine⟨_,rfl,_,rfl,_,rfl,_,rfl,lh,_,rfl,.inl (SqL.of (s5 _ _ q4)),?_⟩;rw[zyz];refine⟨_,_,rfl,rfl,hpos,lh,_,_,_,rfl,rfl,SqL.of (s5 _ _ q4),hix,(by show 3<=sizeLine;rw[sizeLine_eq];decide),fun tt ft=>?_⟩
  exact h tt (.away day n) _ (show upd H5 tt _ tt=_ from Zb) ⟨hd1,hd2,(hem n mix).1,(hem n mix).2⟩ ((s4.trans s5).trans (Ze ft)) ((s4.trans s5).free ft)
 have s05:=s4.trans s5;dsimp only;refine Sy (Vm (b:=P0.lis.isSome) (fun Q q=>⟨_,rfl,d,_,rfl,DGet.k (k:=.inr "listed") (s05 _ _ a1),rfl,_,rfl,by rw[hls];exact q⟩) (itB (fun hb=>?_) (fun hb=>Z1 ?_)))
 ·refine⟨tup1 _,fun tt ft=>?_⟩
  exact h tt .close _ (show upd H5 tt _ tt=_ from Zb) (fun z=>by rw[z] at hb;cases hb) (s05.trans (Ze ft)) (s05.free ft)
 have hno:P0.lis=none:=by
  cases hq:P0.lis with
  | none=>rfl
  | some ms=>rw[hq] at hb;cases hb
 dsimp only;have nul:=PL.nfew;have csl:=PL.few;refine⟨_,rfl,d,_,rfl,DGet.k (k:=.inr "people") (s05 _ _ a1),lp,rfl,⟨_,SqL.of (s05 _ _ p1)⟩,We (K:=K) (a:=lp) (xs:=pts) (fun i ys H'=>Same H5 H'/\ys=((P0.ppl.take i).map (·.1)).map V.int) ⟨Same.refl _,rfl⟩ (fun i ys H' _ ⟨z,_⟩=>SqL.of (z _ _ (s05 _ _ p1))) (szN (by omega)) (fun i ys H' ⟨_,e⟩=>by rw[e,zyz,zyz];exact z0c _ _) ?_ ?_⟩
 ·rintro j x ys H6 hx6 ⟨s6,rfl⟩
  obtain⟨tp,pp,rfl,hpp',htp⟩:=Ks p2 hx6;unfold tYes;dsimp only;rw[if_pos rfl];refine⟨_,rfl,tp,_,_,_,rfl,rfl,SqT.of (s6 _ _ (s05 _ _ htp)),(show atI (pV pp) 0=some _ from rfl),s6,?_⟩
  rw[Wf hpp',zy7,zy7];rfl
 rintro ys H6 ⟨s6,rfl⟩ lk flk;rw[hpl,zzh];obtain⟨kn,hkn⟩:∃ kn,kn=P0.ppl.map (·.1):=⟨_,rfl⟩
 rw[<- hkn];have s7:=(s05.trans s6).trans (Ze (o:=.lst (kn.map V.int)) flk);have q7:=Zb (H:=H6) (a:=lk) (o:=.lst (kn.map V.int));show Vh 13 (V.ref lk) _ (upd H6 lk (.lst (kn.map V.int))) _;generalize upd H6 lk (.lst (kn.map V.int))=H7 at s7 q7 ⊢
 walk_at "if";refine⟨_,rfl,ln,rfl,⟨_,SqL.of (s7 _ _ PL.nums)⟩,We (K:=K) (a:=ln) (xs:=nu.map V.int) (fun i ys H'=>H'=H7/\ys=((nu.take i).filter fun n=>!decide (n∈kn)).map V.int) ⟨rfl,rfl⟩ (fun i ys H' _ ⟨z,_⟩=>by rw[z];exact SqL.of (s7 _ _ PL.nums)) (szN (by rw[zyz];omega)) (fun i ys H' ⟨_,e⟩=>by rw[e,zyz];exact zzg (zz2 _ _) (z0c _ _)) ?_ ?_⟩
 ·rintro j x ys H8 hx8 ⟨rfl,rfl⟩
  rw[zy5] at hx8
  obtain⟨n,hn,rfl⟩:=z0w.mp hx8;refine⟨_,rfl,_,rfl,lk,_,rfl,.inl (SqL.of q7),rfl,(z06.mpr fun y hy=>by obtain⟨i,_,rfl⟩:=zy9.mp hy;rfl),_,rfl,?_⟩
  rw[if_pos rfl,Kc,Wf hn,z0y,zy7];refine itB (fun hb=>?_) (fun hb=>?_)
  ·refine⟨_,rfl,rfl,?_⟩
   rw[z0l (p:=fun n:Int=>!decide (n∈kn)) (a:=n) hb,z01]
   rfl
  ·refine⟨rfl,?_⟩
   rw[z0k (p:=fun n:Int=>!decide (n∈kn)) (a:=n) (by rw[hb];decide),z01]
   simp
 rintro ys H8 ⟨rfl,rfl⟩ lf flf;rw[zyz,zzh];obtain⟨fs,hfs⟩:∃ fs,fs=nu.filter fun n=>!decide (n∈kn):=⟨_,rfl⟩
 rw[<- hfs];have hfm:∀ n∈fs,n∈nu/\n∉P0.ppl.map (·.1):=fun n hn=>by
  rw[hfs] at hn
  obtain⟨hx1,hx2⟩:=zzq.mp hn;exact⟨hx1,by rw[<- hkn];simpa using hx2⟩
 have hfl:fs.length<=100:=by rw[hfs];exact zzg (zz2 _ _) (by omega)
 have s9:=s7.trans (Ze (o:=.lst (fs.map V.int)) flf);have q9:=Zb (H:=H8) (a:=lf) (o:=.lst (fs.map V.int));show Vh 14 (V.ref lf) _ (upd H8 lf (.lst (fs.map V.int))) _;generalize upd H8 lf (.lst (fs.map V.int))=H9 at s9 q9 ⊢
 walk_at "if";refine Sy (Dc (b:=decide (V.int kd=V.int 3) && !fs.isEmpty) (Gz (Sz (fun Q q=>⟨_,rfl,rfl,_,rfl,q⟩)) (fun H10 s10=>M9 rfl (s10 _ _ q9))) (fun H10 s10=>itB (fun hb=>?_) (fun _=>Z1 ?_)))
 ·rw[z0f] at hb
  have hne:fs.length≠0:=by have:=hb.2;intro z;rw[z0e.mp z] at this;exact absurd this (by decide)
  have hpos:(0:Int)<(fs.length:Int):=by omega
  have y0:=zz5 R (show (fs.length:Int)≠0 by omega)
  have y1:=zzw R hpos;have hix:=Wd (xs:=fs) y0 (by omega)
  have mix:=Tn (ns:=fs) (i:=(R%(fs.length:Int)).toNat) (by omega)
  generalize fs.getD (R%(fs.length:Int)).toNat 0=n at hix mix
  have hcl:(0:Int)<(cs.length:Int):=by omega
  have w0:=zz5 (R/360) (show (cs.length:Int)≠0 by omega)
  have w1:=zzw (R/360) hcl;have hcs:=Wd (xs:=cs) w0 (by omega)
  have mcs:=Tn (ns:=cs) (i:=(R/360%(cs.length:Int)).toNat) (by omega)
  generalize cs.getD (R/360%(cs.length:Int)).toNat 0=c at hcs mcs
  have s010:=s9.trans s10;refine⟨_,rfl,_,rfl,_,_,rfl,rfl,⟨by omega,by omega⟩,_,rfl,lc,_,rfl,.inl (SqL.of (s010 _ _ PL.clubs)),?_⟩
  rw[zyz];refine⟨_,_,rfl,rfl,hcl,lc,_,_,_,rfl,rfl,SqL.of (s010 _ _ PL.clubs),hcs,?_⟩;walk_at "if";refine⟨_,rfl,_,rfl,_,rfl,lf,_,rfl,.inl (SqL.of (s10 _ _ q9)),?_⟩;rw[zyz];refine⟨_,_,rfl,rfl,hpos,lf,_,_,_,rfl,rfl,SqL.of (s10 _ _ q9),hix,_,rfl,_,_,rfl,rfl,⟨by omega,by omega⟩,_,_,rfl,rfl,(by omega),_,_,rfl,rfl,_,rfl,(by show 4<=sizeLine;rw[sizeLine_eq];decide),fun tt ft=>?_⟩
  exact h tt (.enrol n (1+R/40%9) c) _ (show upd H10 tt _ tt=_ from Zb) ⟨hno,(hfm n mix).1,(hfm n mix).2,by omega,by omega,mcs⟩ (s010.trans (Ze ft)) (s010.free ft)
 have s010:=s9.trans s10;dsimp only;refine⟨_,rfl,_,rfl,_,rfl,_,rfl,lc,cs,R,most,mixed,rfl,s010 _ _ PL.clubs,by omega,by omega,PL.cnd,PL.crng,hm1,hmx,fun lm' ts ms H11 hlm tl hml gm s11 flm=>⟨sz2,fun tt ft=>?_⟩⟩
 have s12:=Ze (o:=.tup [.str "draw up",.ref lm']) ft;exact h tt (.draw ms) _ ⟨lm',ts,Zb,s12 _ _ hlm,tl.same s12,s010.free flm⟩ ⟨hno,hml,gm⟩ ((s010.trans s11).trans s12) ((s010.trans s11).free ft)
noncomputable abbrev Xb:Stmt:=top 74
theorem Le:Zl ["_law_script","_law_crowd","_law_many"] ["_law_script","_law_crowd"] (Zj Xb):=fnS
@[irreducible] noncomputable def T7:List Expr:=zbu (D5 (Q9 (Xl (Zs Xb) 0)))
@[irreducible] noncomputable def Lg:Pos:=zbv (D5 (Q9 (Xl (Zs Xb) 0)))
theorem Hh:Zs Xb=[.Assign (zeb (Xl (Zs Xb) 0)) (.Subscript (.List T7 Lg) (zfy (Q9 (Xl (Zs Xb) 0))) (zfz (Q9 (Xl (Zs Xb) 0)))) (stP (Xl (Zs Xb) 0)),Xl (Zs Xb) 1]:=by unfold T7 Lg;kernel_rfl
theorem Hi:K7 T7 [4,3,5,4,6,10,4,8]:=by unfold T7;exact⟨by kernel_rfl,by kernel_rfl⟩
theorem Cs(F:Fun K "_law_pool" "_law_pool" Xb f fd)(T:Tx K mg a)(zkz:Z7 P w K mg base "_law_at" 1 ["_law_script","_law_k"] (Bm K))(zoj:Z7 P w K mg base "_law_clubs" 1 ["_law_cell_here","_law_many"] Az)(znx:Z7 P w K mg base "_law_numbers" 1 ["_law_cell_here","_law_many"] Kq):Z3 P w K mg base (CX1 P w) 2 f fd ["_law_script","_law_crowd"] (D1 K):=by
 refine F.okX Le (by walk_at "ar") fun _ _ _ _ H _ Q E hr h=>?_
 obtain⟨b,ns,cr,rfl,hS,hc1,hc2,h⟩:=h;rw[Hh];refine⟨_,(Zc (pS 2 Le.nd (pI (iL K) (Ya (Qx [4,3,5,4,6,10,4,8] Hi)) (Zp Yn (Zp Y3 (pF zkz hr (Za (pv 0) (Za Zi Zd))) Zi) Zi)))
 (Zf (Zo (Yd (Za (pF zoj hr (Za (pF zkz hr (Za (pv 0) (Za Zi Zd))) (Za (pv 2) Zd))) (Za (pF znx hr (Za (pF zkz hr (Za (pv 0) (Za Zi Zd))) (Za (pv 1) Zd))) Zd)))))),?_⟩
 refine zic [4,3,5,4,6,10,4,8] (by decide) fun l H1 q1 s1 fl=>?_
 have h0:=zz5 (Y8 ns 0/4) (show (8:Int)≠0 by decide)
 have h1:=zzw (Y8 ns 0/4) (show (0:Int)<8 by decide)
 refine⟨_,rfl,b,ns,0,rfl,s1.seq hS,_,_,rfl,rfl,⟨by decide,by decide⟩,_,_,rfl,rfl,(show (0:Int)<8 by decide),l,_,_,_,rfl,rfl,SqL.of q1,Wd (xs:=[4,3,5,4,6,10,4,8]) h0 (by show _<((8:Nat):Int);omega),?_⟩
 obtain⟨m,hm,hm1,hm2⟩:∃ m:Nat,([4,3,5,4,6,10,4,8]:List Int).getD (Y8 ns 0/4%8).toNat 0=m/\3<=m/\m<=10:=by
  have hk:(Y8 ns 0/4%8).toNat<8:=by omega
  generalize (Y8 ns 0/4%8).toNat=k at hk
  match k,hk with
  | 0,_=>exact⟨4,rfl,by decide,by decide⟩
  | 1,_=>exact⟨3,rfl,by decide,by decide⟩
  | 2,_=>exact⟨5,rfl,by decide,by decide⟩
  | 3,_=>exact⟨4,rfl,by decide,by decide⟩
  | 4,_=>exact⟨6,rfl,by decide,by decide⟩
  | 5,_=>exact⟨10,rfl,by decide,by decide⟩
  | 6,_=>exact⟨4,rfl,by decide,by decide⟩
  | 7,_=>exact⟨8,rfl,by decide,by decide⟩
 rw[hm];refine⟨_,rfl,b,ns,3,rfl,s1.seq hS,_,rfl,_,m,rfl,by omega,fun lc H2 hlc s2 f2=>?_⟩
 refine⟨_,rfl,b,ns,2,rfl,(s1.trans s2).seq hS,_,rfl,_,cr,rfl,by omega,fun ln H3 hln s3 f3=>?_⟩
 refine⟨sz2,fun t ht=>?_⟩
 have s4:=Ze (o:=.tup [.ref lc,.ref ln]) ht;have s13:=s1.trans (s2.trans s3);refine h t lc ln _ _ _ ⟨Zb,s4 _ _ (s3 _ _ hlc),s4 _ _ hln,by rw[Ih];exact⟨hm1,hm2⟩,D3 _ hm2,zbs _ _,by rw[Oy];exact⟨hc1,hc2⟩,D4 _ (by omega),zbt _ _⟩ (Oy _ _) (s13.trans s4) (s13.free ht) (s1.free f2) ((s1.trans s2).free f3)
noncomputable abbrev Yb:Stmt:=top 75
theorem Yr:Zl ["_law_script","_law_pool_here","_law_clubs_here","_law_numbers_here","_law_many","_law_grades","_law_rest_here","_law_deeds","_law_k"] ["_law_script","_law_pool_here"] (Zj Yb):=fnS
@[irreducible] noncomputable def Up:List Expr:=zbu (Q9 (Xl (Zs Yb) 3))
@[irreducible] noncomputable def Po:Pos:=zbv (Q9 (Xl (Zs Yb) 3))
theorem L7:Zs Yb=[Xl (Zs Yb) 0,Xl (Zs Yb) 1,Xl (Zs Yb) 2,.Assign (zeb (Xl (Zs Yb) 3)) (.List Up Po) (stP (Xl (Zs Yb) 3)),Xl (Zs Yb) 4,Xl (Zs Yb) 5,Xl (Zs Yb) 6,Xl (Zs Yb) 7]:=by unfold Up Po;kernel_rfl
theorem L8:K7 Up [1,2,3,4,5,6,7,8,9,9,9,9,9,8,8,7,6,5]:=by unfold Up;exact⟨by kernel_rfl,by kernel_rfl⟩
theorem Hj(F:Fun K "_law_people" "_law_people" Yb f fd)(T:Tx K mg a)(zkz:Z7 P w K mg base "_law_at" 1 ["_law_script","_law_k"] (Bm K))(zl1:Z7 P w K mg base "_law_mix" 1 ["_law_cell_here","_law_k"] Ay):Z3 P w K mg base (CX1 P w) 2 f fd ["_law_script","_law_pool_here"] (Je K):=by
 refine F.okX Yr (by walk_at "ar") fun _ _ _ _ H _ Q E hr h=>?_
 obtain⟨b,t,lc,ln,ns,cs,nu,rfl,hS,PA,h⟩:=h;rw[L7];refine⟨_,(Zc (Ki (pv 1) (Wi (K:=K) (n:=2) rfl rfl (Z0 (pN 2 Yr.nd) (Z0 (pN 3 Yr.nd) Wg))))
 (Zc (pS 4 Yr.nd (Zp Yn (pF zkz hr (Za (pv 0) (Za Zi Zd))) (Zp Ys (Zw (cL K) (by rfl) T.zlc PySem.boot_len (Za (pv 3) Zd)) Zi)))
 (Zc (Z9 (Zm Wq (Zp Yn (Zp Y3 (pF zkz hr (Za (pv 0) (Za Zi Zd))) (Zp Ys (Zw (cL K) (by rfl) T.zlc PySem.boot_len (Za (pv 3) Zd)) Zi)) Zi) Zi (Zv _))
  (Zf (pS 4 Yr.nd (Zp Pq (Zw (cL K) (by rfl) T.zlc PySem.boot_len (Za (pv 3) Zd)) (Zp Yn (pv 4) Zi))))
  Zu)
 (Zc (pS 5 Yr.nd (Ya (Qx [1,2,3,4,5,6,7,8,9,9,9,9,9,8,8,7,6,5] L8)))
 (Zc (pS 6 Yr.nd (pF zkz hr (Za (pv 0) (Za Zi Zd))))
 (Zc (pS 7 Yr.nd (Ya Zd))
 (Zc (Xq PassesOwn.leaving rfl (V8 rfl T.zl9 (Za (pv 4) Zd)) (pN 8 Yr.nd)
  (Zc (Yv (pv 7) (Yd (Za Zn (Za (pI (iL K) (pv 3) (pv 8)) (Za (pI (iL K) (pv 5) (Zp Yn (pv 6) Zi)) (Za (pI (iL K) (pv 2) (Zp Yn (Zp Y3 (pv 6) Zi) (Zw (cL K) (by rfl) T.zlc PySem.boot_len (Za (pv 2) Zd)))) Zd))))))
  (Zf (pS 6 Yr.nd (pI (iL K) (Ya (Za (Zp Y3 (Zp Y3 (pv 6) Zi) (Zw (cL K) (by rfl) T.zlc PySem.boot_len (Za (pv 2) Zd))) (Za (pF zl1 hr (Za (pv 6) (Za (pv 8) Zd))) Zd))) (Zp Yn (pF zkz hr (Za (pv 0) (Za Zi Zd))) Zi))))))
 (Zf (Zo (pv 7)))))))))),?_⟩
 show let y1:TS:=_;let y2:TS:=Zz _ y1;let y3:TS:=Zz _ y2;let y4:TS:=Zz _ y3;let y5:TS:=Zz _ y4;let y6:TS:=Zz _ y5;let y7:TS:=Zz _ y6;Zz _ y7 _ _ _;intro y1 y2 y3 y4 y5 y6 y7;have sz0:([]:List V).length<=sizeLine:=zzs _;have hw:(0:Int)<(nu.length:Int)+1:=by omega
 obtain⟨c1,c2⟩:=PA.few;obtain⟨n1,n2⟩:=PA.nfew;refine⟨_,rfl,t,_,rfl,SqT.of PA.tup,rfl,_,_,rfl,_,_,rfl,rfl,?_⟩;walk_at "if";refine⟨_,rfl,b,ns,4,rfl,hS,_,rfl,ln,_,rfl,.inl (SqL.of PA.nums),_,_,rfl,rfl,?_⟩;rw[zyz];refine⟨_,_,rfl,rfl,hw,?_⟩;walk_at "if";have u0:=zz5 (Y8 ns 4) (show (nu.length:Int)+1≠0 by omega)
 have u1:=zzw (Y8 ns 4) hw
 let jv8:L2.St->Hp->Prop:=fun σ' H'=>H'=H/\∃ m:Nat,σ'=[some (.ref b),some (.ref t),some (.ref lc),some (.ref ln),some (.int m),none,none,none,none]/\m<=nu.length
 refine Mv (b:=decide (V.int (Y8 ns 4/((nu.length:Int)+1)%2)=V.int 1)) jv8 (fun Q q=>?_) (fun _ N hN=>?_) (fun _ N hN=>?_) ?_
 ·refine⟨_,rfl,b,ns,4,rfl,hS,_,rfl,ln,_,rfl,.inl (SqL.of PA.nums),_,_,rfl,rfl,?_⟩
  rw[zyz];exact⟨_,_,rfl,rfl,⟨hw,by omega⟩,_,_,rfl,rfl,by omega,rfl,_,rfl,q⟩
 ·refine⟨_,rfl,ln,_,rfl,.inl (SqL.of PA.nums),?_⟩
  rw[zyz];refine⟨_,rfl,_,_,rfl,rfl,by omega,_,_,rfl,rfl,hN _ _ ⟨rfl,((nu.length:Int)-Y8 ns 4%((nu.length:Int)+1)%2).toNat,?_,by omega⟩⟩
  rw[z08 (by omega)];rfl
 ·refine Z1 (hN _ _ ⟨rfl,(Y8 ns 4%((nu.length:Int)+1)).toNat,?_,by omega⟩)
  rw[z08 (by omega)];rfl
 rintro σ H' ⟨rfl,m,rfl,hm⟩;refine D7 [1,2,3,4,5,6,7,8,9,9,9,9,9,8,8,7,6,5] (by decide) fun lg H2 hg s2 fg=>?_
 refine⟨_,rfl,b,ns,5,rfl,s2.seq hS,sz0,fun r fr=>?_⟩
 have s1:=s2.trans (Ze (o:=.lst []) fr);have q1:=Zb (H:=H2) (a:=r) (o:=.lst []);have hg1:=Ze (o:=.lst []) fr _ _ hg;walk_at "if";generalize upd H2 r (.lst [])=H1 at s1 q1 hg1 ⊢
 have fr0:=s2.free fr;have frg:lg≠r:=Zg hg fr
 let jv9:Nat->L2.St->Hp->Prop:=fun i σ H3=>(∃ v8 R,σ=[some (.ref b),some (.ref t),some (.ref lc),some (.ref ln),some (.int m),some (.ref lg),some (.int R),some (.ref r),v8])/\(∀ x o,H1 x=some o->x≠r->H3 x=some o)/\∃ ts es,H3 r=some (.lst ts)/\TupL H3 ts ((es:List P3).map enV)/\es.length=i/\es.map (·.1)=nu.take i/\(∀ x∈es,1<=x.2.1/\x.2.1<=9/\x.2.2∈cs)
 refine⟨_,rfl,_,rfl,by omega,by omega,Ti jv9
  ⟨⟨_,_,rfl⟩,fun _ _ e _=>e,[],[],q1,.nil,rfl,rfl,(fun m z=>nomatch z)⟩ ?_ ?_⟩
 ·rintro i σ H3 hi ⟨⟨v8,R,rfl⟩,k,ts,es,hr',tl,hml,enu,eok⟩
  rw[zzm] at hi
  rw[z1d];have s3:Same H' H3:=fun x o e=>k _ _ (s1 _ _ e) (Zg e fr0)
  have hg3:=k _ _ hg1 frg;have PA3:=PA.same s3;have hcl:(0:Int)<(cs.length:Int):=by omega
  have w0:=zz5 R (show (18:Int)≠0 by omega)
  have w1:=zzw R (show (0:Int)<18 by omega)
  have y0:=zz5 (R/18) (show (cs.length:Int)≠0 by omega)
  have y1:=zzw (R/18) hcl;have hgr:=Wd (xs:=Fu) w0 (by show _<((18:Nat):Int);omega)
  have rgr:=B1 (R%18).toNat (by omega)
  generalize hgv:Fu.getD (R%18).toNat 0=gv at hgr rgr
  have hcs:=Wd (xs:=cs) y0 (by omega)
  have mcs:=Tn (ns:=cs) (i:=(R/18%(cs.length:Int)).toNat) (by omega)
  generalize cs.getD (R/18%(cs.length:Int)).toNat 0=c at hcs mcs
  have hni:i<nu.length:=by omega
  have hnu:nu[i]?=some (nu[i]'hni):=zy1 hni;have etk:nu.take (i+1)=nu.take i++[nu[i]'hni]:=zzv hni;generalize nu[i]'hni=n at hnu etk
  walk_at "if";refine⟨_,rfl,r,_,rfl,hr',?_⟩;refine⟨_,rfl,_,rfl,ln,_,_,_,rfl,rfl,SqL.of PA3.nums,Y4 (by rw[zy5,hnu];rfl),_,rfl,_,rfl,_,_,rfl,rfl,(by omega),lg,_,_,_,rfl,rfl,SqL.of hg3,hgr,?_⟩
  refine⟨_,rfl,_,rfl,_,_,rfl,rfl,⟨by omega,by omega⟩,_,rfl,lc,_,rfl,.inl (SqL.of PA3.clubs),?_⟩
  rw[zyz];refine⟨_,_,rfl,rfl,hcl,lc,_,_,_,rfl,rfl,SqL.of PA3.clubs,hcs,(by show 4<=sizeLine;rw[sizeLine_eq];decide),fun tt ft=>?_⟩
  have s4:=Ze (o:=.tup [.str "enrol",.int n,.int gv,.int c]) ft;have q4:=Zb (H:=H3) (a:=tt) (o:=.tup [.str "enrol",.int n,.int gv,.int c]);generalize upd H3 tt (.tup [.str "enrol",.int n,.int gv,.int c])=H4 at s4 q4 ⊢
  have tln:=tl.length;rw[zyz] at tln
  refine⟨ts,s4 _ _ hr',szN (by omega),?_⟩
  have k5:∀ x o,H4 x=some o->x≠r->upd H4 r (.lst (ts++[.ref tt])) x=some o:=fun x o e n=>by rw[Zh n];exact e
  have q5:=Zb (H:=H4) (a:=r) (o:=.lst (ts++[.ref tt]));have kt5:∀ x ys,H4 x=some (.tup ys)->upd H4 r (.lst (ts++[.ref tt])) x=some (.tup ys):=fun x ys e=>k5 _ _ e (Ym e (s4 _ _ hr') (by intro z;cases z))
  dsimp only;generalize upd H4 r (.lst (ts++[.ref tt]))=H5 at k5 q5 kt5 ⊢
  have s05:Same H' H5:=fun x o e=>k5 _ _ (s4 _ _ (s3 _ _ e)) (Zg e fr0)
  have PA5:=PA.same s05;obtain⟨mx,hmx,hmx1⟩:∃ mx:Nat,Y8 ns 0%2=mx/\mx<=1:=⟨(Y8 ns 0%2).toNat,by omega,by omega⟩
  obtain⟨z,hz⟩:=at2 (R/18/(cs.length:Int)) (Bn R (i:Int)) hmx1;refine⟨_,rfl,_,_,rfl,rfl,⟨by omega,by omega⟩,_,rfl,lc,_,rfl,.inl (SqL.of PA5.clubs),?_⟩
  rw[zyz];refine⟨_,_,rfl,rfl,⟨hcl,by omega⟩,_,rfl,_,rfl,_,_,rfl,sz2,fun l2 f2=>?_⟩
  have s6:=Ze (o:=.lst [.int (R/18/(cs.length:Int)),.int (Bn R (i:Int))]) f2;have q6:=Zb (H:=H5) (a:=l2) (o:=.lst [.int (R/18/(cs.length:Int)),.int (Bn R (i:Int))]);generalize upd H5 l2 (.lst [.int (R/18/(cs.length:Int)),.int (Bn R (i:Int))])=H6 at s6 q6 ⊢
  refine⟨_,rfl,b,ns,0,rfl,(s05.trans s6).seq hS,_,_,rfl,rfl,(by omega),l2,_,_,_,rfl,rfl,SqL.of q6,(by rw[hmx];exact hz),?_⟩
  refine⟨⟨_,_,rfl⟩,fun x o e n=>s6 _ _ (k5 _ _ (s4 _ _ (k _ _ e n)) n),ts++[.ref tt],es++[(n,gv,c)],s6 _ _ q5,?_,by rw[zy2,hml];rfl,?_,?_⟩
  ·rw[zy7]
   exact(tl.mono fun x ys e=>s6 _ _ (kt5 _ _ (s4 _ _ e))).snoc (s6 _ _ (kt5 _ _ q4))
  ·rw[zy7,enu,etk];rfl
  ·intro m hm
   rcases zy6.mp hm with hm|hm
   ·exact eok m hm
   ·rw[zy3.mp hm];exact⟨rgr.1,rgr.2,mcs⟩
 ·rintro σ H3 ⟨⟨v8,R,rfl⟩,k,ts,es,hr',tl,hml,enu,eok⟩
  rw[zzm] at hml enu
  refine⟨_,rfl,h r ts es H3 hr' tl (by rw[hml];exact enu) (by omega) eok (fun x o e=>k _ _ (s1 _ _ e) (Zg e fr0)) fr0⟩
noncomputable abbrev V4:Stmt:=top 76
theorem Uy:Zl ["_law_season","_law_pages","_law_deeds","_law_deed_here"] ["_law_season","_law_pages","_law_deeds"] (Zj V4):=fnS
theorem L9(F:Fun K "_law_enrolled" "_law_enrolled" V4 f fd)(T:Tx K mg a)(zn1:Z7 P w K mg base "_law_do" 8 ["_law_season","_law_deed_here"] (zia K (ca a)))(zmf:Z7 P w K mg base "_law_paged" 3 ["_law_pages","_law_deed_here"] (Fs K)):Z3 P w K mg base (CX1 P w) 9 f fd ["_law_season","_law_pages","_law_deeds"] (Jf K (ca a)):=by
 refine F.okX Uy (by walk_at "ar") fun _ _ _ _ H _ Q E hr h=>?_
 obtain⟨mb,A',l,le,ts,es,ds,d,P0,S,nu,n,rfl,SA,hl,hlo,F,hle,hlf,tl,nd,eok,hp30,hn90,hcur,hlen,h⟩:=h;refine⟨_,(Zc (Xq PassesOwn.leaving rfl (Yf (K:=K) rfl (pv 2)) (pN 3 Uy.nd)
  (Zc (Z6 (pF zn1 hr (Za (pv 0) (Za (pv 3) Zd))))
  (Zf (pS 1 Uy.nd (pF zmf hr (Za (pv 1) (Za (pv 3) Zd)))))))
 (Zf (Zo (pv 1)))),?_⟩
 have tln:=tl.length;rw[zyz] at tln
 let jv10:Nat->L2.St->Hp->Prop:=fun i σ H1=>∃ A1 l1 ds1 d1 P1 S1 v,σ=[some (.ref A'.p),some (.ref l1),some (.ref le),v]/\Zy (ca a) H1 A1 S1/\H1 l1=some (.lst ((ds1++[d1]).map V.ref))/\l1∉A1.fp/\U5 mb (·∉A1.fp) H1 nu (n+i) ds1 d1 P1 S1/\FrN A' A1 H H1/\S1.cur=none/\S1.led=S.led/\S1.len=S.len/\S1.ppl=S.ppl++es.take i
 refine⟨_,rfl,le,rfl,⟨_,SqL.of hle⟩,Xz (K:=K) (a:=le) (xs:=ts) jv10
  ⟨A',l,ds,d,P0,S,_,rfl,SA,hl,hlo,F,.refl _ _,hcur,rfl,rfl,by simp⟩ (fun i σ H1 _ ⟨A1,_,_,_,_,_,_,_,_,_,_,_,f,_⟩=>SqL.of (f.k _ _ hle hlf).1) ?_ ?_⟩
 ·rintro i x σ H1 hx ⟨A1,l1,ds1,d1,P1,S1,v,rfl,SA1,hl1,ho1,F1,f1,e1,e2,e3,e4⟩
  have hi:i<ts.length:=(zy0.mp hx).1;have hie:i<es.length:=by omega
  have hex:es[i]?=some (es[i]'hie):=zy1 hie;have etk:=Wf hex;have hmem:es[i]'hie∈es:=zz4 hie;obtain⟨t,ht1,ht2⟩:∃ t,x=.ref t/\H t=some (.tup (enV (es[i]'hie))):=by
   obtain⟨t,r,z1,z2,z3⟩:=tl.get hx;rw[zy5,hex] at z2
   cases z2;exact⟨t,z1,z3⟩
  have hfr:(es[i]'hie).1∉(es.take i).map (·.1):=fun z=>by
   obtain⟨y,hy,ey⟩:=zy9.mp z;obtain⟨j,hj,rfl⟩:=zz9 hy;rw[z0u] at hj
   rw[List.getElem_take] at ey
   have h1:(es.map (·.1))[j]'(by rw[zyz];omega)=(es.map (·.1))[i]'(by rw[zyz];omega):=by rw[List.getElem_map,List.getElem_map];exact ey
   have:=(List.getElem_inj nd).mp h1;omega
  have hok:=eok _ hmem;generalize es[i]'hie=x0 at hex etk hmem ht2 hfr hok
  obtain⟨k,gr,c⟩:=x0;subst ht1;have hD:Ux (·∉A1.fp) H1 t (.enrol k gr c):=f1.kt _ _ ht2
  have g:M5 S1 (.enrol k gr c):=by
   refine⟨by rw[e2,e3];exact hlen,e1,hok.2.1,?_,?_⟩
   ·rw[e4,zy7]
    intro z;rcases zy6.mp z with z|z
    ·exact hok.2.2 z
    ·exact hfr z
   ·rw[e4,zy2,z0u];omega
  obtain⟨b1,b2,b3,b4,b5,b6,b7,b8,b9,b10⟩:=F1.pre g (by omega)
  refine⟨_,rfl,_,rfl,A1,S1,t,_,(by rw[f1.p];rfl),SA1,hD,g,b1,b2,b3,b4,b5,b6,b7,b8,b9,b10,fun v' A2 S2 H2 af SA2 nx fr _=>?_⟩
  have f12:=FrN.next SA1 nx fr;obtain⟨c1,c2,c3,c4,c5⟩:=F1.pre2 g (by omega)
  refine⟨_,rfl,_,rfl,(·∉A2.fp),l1,t,ds1,d1,P1,.enrol k gr c,rfl,(f12.k _ _ hl1 ho1).1,F1.pg.fr f12,hD.fr f12,c1,c2,c3,c4,c5,fun l3 d3 H3 hl3 pg s3 fl3 fd3=>?_⟩
  obtain⟨ds2,d2,P2,ek,Pe,eP,_⟩:=turn F1 SA1 af SA2 nx fr g (fun k' gr' c' z=>by cases z;exact hok.1) pg s3 fd3
  cases af with
  | enrol k gr c =>
    rw[ek] at hl3
    refine⟨A2,l3,ds2,d2,P2,_,_,rfl,SA2.same s3,hl3,SA2.newOk _ fl3,Pe.full (fun s hs=>?_) (fun z=>?_),f1.trans (f12.trans (.of s3)),e1,e2,e3,?_⟩
    ·have hs:S1.cur=some s:=hs
     rw[e1] at hs;cases hs
    ·rw[eP nofun]
     show P1.mv=_;rw[F1.re.mv z,Oe e1];exact(Oe e1).symm
    ·show S1.ppl++[(k,gr,c)]=_
     rw[e4,etk,z0r]
 ·rintro σ H1 ⟨A1,l1,ds1,d1,P1,S1,v,rfl,SA1,hl1,ho1,F1,f1,e1,e2,e3,e4⟩
  rw[tln] at F1
  exact⟨_,rfl,h A1 l1 ds1 d1 P1 S1 H1 SA1 hl1 ho1 F1 f1 e1 e2 e3⟩
noncomputable abbrev Xv:Stmt:=top 77
theorem Ct:Zl ["_law_script"] ["_law_script"] (Zj Xv):=fnS
@[irreducible] noncomputable def T8:List Expr:=zbu (D5 (zfx (Xl (Zs Xv) 0)))
@[irreducible] noncomputable def Lh:Pos:=zbv (D5 (zfx (Xl (Zs Xv) 0)))
theorem Hk:Zs Xv=[.Return (some (.Subscript (.List T8 Lh) (zfy (zfx (Xl (Zs Xv) 0))) (zfz (zfx (Xl (Zs Xv) 0))))) (stP (Xl (Zs Xv) 0))]:=by unfold T8 Lh;kernel_rfl
theorem Hl:K7 T8 [0,1,2,3,4,5,6,7,8,9,10,0,0,0,1,1,1,2,2,0,1,3]:=by unfold T8;exact⟨by kernel_rfl,by kernel_rfl⟩
theorem Cu(F:Fun K "_law_rest" "_law_rest" Xv f fd)(T:Tx K mg a)(zkz:Z7 P w K mg base "_law_at" 1 ["_law_script","_law_k"] (Bm K)):Z3 P w K mg base (CX1 P w) 2 f fd ["_law_script"] (Dy K):=by
 refine F.okX Ct (by walk_at "ar") fun _ _ _ _ H _ Q E hr h=>?_
 obtain⟨b,ns,rfl,hS,h⟩:=h;rw[Hk];refine⟨_,(Zf (Zo (pI (iL K) (Ya (Qx [0,1,2,3,4,5,6,7,8,9,10,0,0,0,1,1,1,2,2,0,1,3] Hl)) (Zp Yn (pF zkz hr (Za (pv 0) (Za Zi Zd))) Zi)))),?_⟩;refine zib M3 (by decide) fun l H1 q1 s1 fl=>?_
 have h0:=zz5 (Y8 ns 1) (show (22:Int)≠0 by decide)
 have h1:=zzw (Y8 ns 1) (show (0:Int)<22 by decide)
 have hat:=Wd (xs:=M3) h0 (show _<((22:Nat):Int) by omega)
 have hb:0<=M3.getD (Y8 ns 1%22).toNat 0/\M3.getD (Y8 ns 1%22).toNat 0<=10:=by
  generalize (Y8 ns 1%22).toNat=k;rw[zzp];cases e:M3[k]? with
  | none=>exact⟨by decide,by decide⟩
  | some x =>
    have hm:=zze e;have:∀ x∈M3,0<=x/\x<=10:=by decide
    exact this x hm
 have hfin:=h (M3.getD (Y8 ns 1%22).toNat 0).toNat H1 rfl (by omega) s1
 rw[z08 hb.1] at hfin
 exact⟨_,rfl,b,ns,1,rfl,s1.seq hS,_,_,rfl,rfl,(show (0:Int)<22 by decide),l,_,_,_,rfl,rfl,SqL.of q1,hat,hfin⟩
noncomputable abbrev Th:Stmt:=top 78
theorem Hm:Zl ["_law_script"] ["_law_script"] (Zj Th):=fnS
theorem Hn(F:Fun K "_law_rounds" "_law_rounds" Th f fd)(T:Tx K mg a)(zkz:Z7 P w K mg base "_law_at" 1 ["_law_script","_law_k"] (Bm K)):Z3 P w K mg base (CX1 P w) 2 f fd ["_law_script"] (K5 K):=by
 refine F.okX Hm (by walk_at "ar") fun _ _ _ _ H _ Q E hr h=>?_
 obtain⟨b,ns,rfl,hS,h⟩:=h;refine⟨_,(Zf (Zo (pI (iL K) (Ya (Za Zi (Za (Zp Ys Zi (Zp Yn (Zp Y3 (pF zkz hr (Za (pv 0) (Za Zi Zd))) Zi) Zi)) Zd))) (Zp Yn (Zp Y3 (pF zkz hr (Za (pv 0) (Za Zi Zd))) Zi) Zi)))),?_⟩;refine⟨_,rfl,b,ns,1,rfl,hS,?_⟩;refine⟨_,_,rfl,rfl,⟨by decide,by decide⟩,_,_,rfl,rfl,(show (0:Int)<60 by decide),_,_,rfl,rfl,sz2,fun l hl=>?_⟩
 have s1:=Ze (o:=.lst [V.int 60,V.int (1+Y8 ns 1/22%60)]) hl;have q1:upd H l (.lst [V.int 60,V.int (1+Y8 ns 1/22%60)]) l=some (.lst [V.int 60,V.int (1+Y8 ns 1/22%60)]):=Zb;refine⟨_,rfl,b,ns,0,rfl,s1.seq hS,_,_,rfl,rfl,⟨by decide,by decide⟩,_,_,rfl,rfl,(show (0:Int)<2 by decide),?_⟩
 have h01:Y8 ns 0/2%2=0\/Y8 ns 0/2%2=1:=by omega
 have hat:atI [V.int 60,V.int (1+Y8 ns 1/22%60)] (Y8 ns 0/2%2)=some (.int (((Qc ns).toNat:Nat):Int))/\1<=(Qc ns).toNat/\(Qc ns).toNat<=60:=by
  unfold Qc;rcases h01 with e|e
  ·rw[e,if_pos rfl];exact⟨rfl,by decide,by decide⟩
  ·rw[e,if_neg (by decide),z08 (by omega)]
   exact⟨rfl,by omega,by omega⟩
 exact⟨l,_,_,_,rfl,rfl,SqL.of q1,hat.1,h _ _ rfl hat.2.1 hat.2.2 s1⟩
noncomputable abbrev Rg:Stmt:=top 79
theorem Cv:Zl ["_law_script","_law_k"] ["_law_script","_law_k"] (Zj Rg):=fnS
theorem Cw(F:Fun K "_law_cell" "_law_cell" Rg f fd)(T:Tx K mg a)(zkz:Z7 P w K mg base "_law_at" 1 ["_law_script","_law_k"] (Bm K))(zl1:Z7 P w K mg base "_law_mix" 1 ["_law_cell_here","_law_k"] Ay):Z3 P w K mg base (CX1 P w) 2 f fd ["_law_script","_law_k"] (Dz K):=by
 refine F.okX Cv (by walk_at "ar") fun _ _ _ _ H _ Q E hr h=>?_
 obtain⟨b,ns,k,rfl,hS,hk,h⟩:=h;refine⟨_,(Zc (Z9 (Zm Wq (Zp Yn (pF zkz hr (Za (pv 0) (Za Zi Zd))) Zi) Zi (Zv _))
  (Zf (Zo (pF zl1 hr (Za (pI (iL K) (pv 0) (pv 1)) (Za (pv 1) Zd)))))
  Zu)
 (Zf (Zo (pI (iL K) (pv 0) (pv 1))))),?_⟩
 have hk':(ns.map V.int)[k]?=some (.int (ns[k]'hk)):=by rw[zy5,zy1 hk];rfl
 refine⟨_,rfl,b,ns,0,rfl,hS,_,_,rfl,rfl,(show (0:Int)<2 by decide),rfl,_,rfl,?_⟩
 refine itB (fun _=>?_) (fun _=>?_)
 ·exact⟨_,rfl,_,rfl,b,_,_,_,rfl,rfl,hS,Y4 hk',_,rfl,_,_,rfl,h _ H (Same.refl _)⟩
 ·exact⟨_,rfl,_,rfl,b,_,_,_,rfl,rfl,hS,Y4 hk',h _ H (Same.refl _)⟩
noncomputable abbrev J6:Stmt:=top 80
theorem Uz:Zl ["_law_script","_law_mixed","_law_season","_law_pool_here","_law_pages","_law_k","_law_deed_here","_law_page","_law_may","_law_found"] ["_law_script"] (Zj J6):=fnS
theorem zil(F:Fun K "law" "law" J6 f fd)(T:Tx K mg a)(zkz:Z7 P w K mg base "_law_at" 1 ["_law_script","_law_k"] (Bm K))(zp6:Sx P w K mg base "Season" a.zkq 3 ["self","rounds","rest"] (zae (ca a)))(zn8:Z7 P w K mg base "_law_rest" 2 ["_law_script"] (Dy K))(zm7:Z7 P w K mg base "_law_rounds" 2 ["_law_script"] (K5 K))(zos:Z7 P w K mg base "_law_pool" 2 ["_law_script","_law_crowd"] (D1 K))(zoh:Z7 P w K mg base "_law_first" 1 ["_law_rounds_here","_law_rest_here"] zaj)(znp:Z7 P w K mg base "_law_enrolled" 9 ["_law_season","_law_pages","_law_deeds"] (Jf K (ca a)))(zn7:Z7 P w K mg base "_law_people" 2 ["_law_script","_law_pool_here"] (Je K))(zor:Z7 P w K mg base "_law_deed" 3 ["_law_pages","_law_cell_here","_law_pool_here","_law_most","_law_mixed"] (Cd K))(zot:Z7 P w K mg base "_law_cell" 2 ["_law_script","_law_k"] (Dz K))(zn1:Z7 P w K mg base "_law_do" 8 ["_law_season","_law_deed_here"] (zia K (ca a)))(zmf:Z7 P w K mg base "_law_paged" 3 ["_law_pages","_law_deed_here"] (Fs K))(zmw:Z7 P w K mg base "_law_open" 2 ["_law_page"] (Bx K))(znr:Zx P w K mg base a.zkq "goes" 4 ["self","at"] (zd9 (ca a)))(zmv:Z7 P w K mg base "_law_is_filling" 2 ["_law_may","_law_given"] (Mx K))(zoc:Z7 P w K mg base "_law_filled" 1 ["_law_given"] (Cg K))(zmc:Z7 P w K mg base "_law_all_fillings" 1 ["_law_may","_law_numbers_here"] (zet K))(zn2:Z7 P w K mg base "_law_one_is" 2 ["_law_found","_law_due"] A0)(zks:Zx P w K mg base a.zkq "at_hand" 2 ["self"] (Us (ca a))):Z3 P w K mg base (CX1 P w) 10 f fd ["_law_script"] (A4 K):=by
 refine F.okX Uz (by walk_at "ar") fun _ _ _ _ H _ Q E hr h=>?_
 obtain⟨b,ns,rfl,hS,hlen,h⟩:=h;have hu:=W2 hr;refine⟨_,(Zc (pS 1 Uz.nd (Zp Yn (pF zkz hr (Za (pv 0) (Za Zi Zd))) Zi))
 (Zc (pS 2 Uz.nd (Fd zp6 (hr.mono (by decide)) Zk rfl (Za (pF zm7 hr (Za (pv 0) Zd)) (Za (pF zn8 hr (Za (pv 0) Zd)) Zd))))
 (Zc (pS 3 Uz.nd (pF zos hr (Za (pv 0) (Za Zi Zd))))
 (Zc (pS 4 Uz.nd (Ya (Za (pF zoh hr (Za (pF zm7 hr (Za (pv 0) Zd)) (Za (pF zn8 hr (Za (pv 0) Zd)) Zd))) Zd)))
 (Zc (pS 4 Uz.nd (pF znp hr (Za (pv 2) (Za (pv 4) (Za (pF zn7 hr (Za (pv 0) (Za (pv 3) Zd))) Zd)))))
 (Zc (Xq PassesOwn.leaving rfl (zav rfl T.zl9 (Za Zi (Za (Zw (Hs rfl) (by rfl) T.zqa PyProof.Rows.boot_min (Za Zi (Za (Zw (cL K) (by rfl) T.zlc PySem.boot_len (Za (pv 0) Zd)) Zd))) Zd))) (pN 5 Uz.nd)
  (Zc (Z9 (Zm Wq (Zw (cL K) (by rfl) T.zlc PySem.boot_len (Za (pD hu (pI (iL K) (pv 4) (Mo Rv Zi)) Zn) Zd)) (pD hu (pI (iL K) (pv 4) (Mo Rv Zi)) Zn) (Zv _))
   (Zf zcm)
   Zu)
  (Zc (pS 6 Uz.nd (pF zor hr (Za (pv 4) (Za (pF zot hr (Za (pv 0) (Za (pv 5) Zd))) (Za (pv 3) (Za Zi (Za (pv 1) Zd)))))))
  (Zc (Z6 (pF zn1 hr (Za (pv 2) (Za (pv 6) Zd))))
  (Zc (pS 4 Uz.nd (pF zmf hr (Za (pv 4) (Za (pv 6) Zd))))
  (Zc (pS 7 Uz.nd (pI (iL K) (pv 4) (Mo Rv Zi)))
  (Zf (Z9 (Zm Vi (pD hu (pv 7) Zn) Y0 (Zv _))
   (Zc (pS 8 Uz.nd (pF zmw hr (Za (pv 7) Zd)))
   (Zc (pS 9 Uz.nd (X2 (pv 2) T.zkr znr (hr.mono (by decide)) Zk (Za (Zp Ys (Zw (cL K) (by rfl) T.zlc PySem.boot_len (Za (pD hu (pv 7) Zn) Zd)) Zi) Zd)))
   (Zc (Z9 (Kh (Nn (pF zmv hr (Za (pv 8) (Za (pv 9) Zd)))))
    (Zf (Zo Rh))
    Zu)
   (Zc (Z9 (Zm zgi (pF zoc hr (Za (pv 9) Zd)) (pF zmc hr (Za (pv 8) (Za (pI (iU K) (pv 3) Zi) Zd))) (Zv _))
    (Zf (Zo Rh))
    Zu)
   (Zf (Yl hu (pv 7) Zn (Y9 (Xs (K:=K) rfl) (by rfl) T.zmb PyProof.Rows.boot_list (Za (pv 9) Zd)) rfl))))))
   Zu))))))))
 (Zf (Zo (pF zn2 hr (Za (Yp (pv 2) T.zkr zks (hr.mono (by decide)) Zk) (Za (Zp Ys (Zw (cL K) (by rfl) T.zlc PySem.boot_len (Za (pD hu (pI (iL K) (pv 4) (Mo Rv Zi)) Zn) Zd)) Zi) Zd))))))))))),?_⟩
 show let y1:TS:=_;let y2:TS:=Zz _ y1;let y3:TS:=Zz _ y2;let y4:TS:=Zz _ y3;let y5:TS:=(Cz _ (Zz _ y4) _);let y6:TS:=Zz _ y5;let y7:TS:=Zz _ y6;let y8:TS:=Zz _ y7;let y9:TS:=Zz _ y8;let y10:TS:=_;let y11:TS:=Zz (zcp _ _ (Zz _ y9)) y10;let y12:TS:=Zz _ y11;let y13:TS:=Zz _ y12;let y14:TS:=Zz _ y13;let y15:TS:=Zz _ y14;Zz _ y15 _ _ _;intro y1 y2 y3 y4 y5 y6 y7 y8 y9 y10 y11 y12 y13 y14 y15;refine⟨_,rfl,b,ns,0,rfl,hS,_,_,rfl,rfl,(show (0:Int)<2 by decide),?_⟩
 obtain⟨mx,hmx,hmx1⟩:∃ mx:Nat,Y8 ns 0%2=(mx:Int)/\mx<=1:=⟨(Y8 ns 0%2).toNat,by omega,by omega⟩
 walk_at "if";rw[hmx];refine⟨_,rfl,b,ns,rfl,hS,fun rr H1 hrr hr1 hr60 s1=>?_⟩
 refine⟨_,rfl,b,ns,rfl,s1.seq hS,fun rq H2 hrq hq10 s2=>?_⟩
 have s12:=s1.trans s2;have hS2:=s12.seq hS;intro p0 dx0 hp0 hdx0 ne0;refine⟨p0,dx0,rr,rq,rfl,Zb,Yx (by omega) (by omega),Yx (by omega) (by omega),?_⟩
 rw[if_neg (by omega),if_neg (by omega)]
 intro A1 H4 hAp SA4 k4 f4;rw[zzm,zzm] at SA4
 have s4:Same H2 H4:=fun x o e=>k4 x o (by rw[Zh (Zg e hp0),Zh (Zg e hdx0)];exact e) (Zg e hp0)
 have ff:∀ x∈A1.fp,H2 x=none:=fun x hx=>by
  by_cases z:x=p0
  ·rw[z];exact hp0
  ·have:=f4 x hx z
   rw[Zh z] at this
   by_cases w:x=dx0
   ·rw[w];exact hdx0
   ·rw[Zh w] at this;exact this
 have SC4:Rm K A1 H4 b (ns.map V.int):=.make hS2 A1 H4 s4 ff;clear f4 k4;subst hAp;refine⟨rfl,?_⟩;walk_at "if";refine⟨_,rfl,b,ns,7,rfl,SC4.sq,by decide,by decide,fun t lc ln cs nu H6 PL hnu s6 ft flc fln=>?_⟩
 have SA6:=SA4.same s6;have SC6:=SC4.fr (.of s6);have no5:=SA4.newOk;have PO6:Lc A1 H6 t lc ln cs nu:=⟨PL,no5 _ ft,no5 _ flc,no5 _ fln⟩;walk_at "if";refine⟨_,rfl,b,ns,rfl,SC6.sq,fun rr' H7 hrr' _ _ s7=>?_⟩
 have SC7:=SC6.fr (.of s7);refine⟨_,rfl,b,ns,rfl,SC7.sq,fun rq' H8 hrq' _ s8=>?_⟩
 cases (hrr'.trans hrr.symm);cases (hrq'.trans hrq.symm);refine⟨rr,rq,rfl,fun d9 H9 pg9 s9 fd9=>⟨(by show 1<=sizeLine;rw[sizeLine_eq];decide),fun l10 fl10=>?_⟩⟩
 have SC9:=((SC7.fr (.of s8)).fr (.of s9));have SA9:=((SA6.same s7).same s8).same s9;have PO9:=((PO6.fr (.of s7)).fr (.of s8)).fr (.of s9);have no8:=((SA6.same s7).same s8).newOk;have F9:=B4 (mb:=false) (nu:=nu) (n:=0) (pg9.imp (ok':=(·∉A1.fp)) fun x _ hx=>no8 x hx) hr60 hq10
 have s10:=Ze (o:=.lst [.ref d9]) fl10;have q10:=Zb (H:=H9) (a:=l10) (o:=.lst [.ref d9]);have o10:=SA9.newOk _ fl10;walk_at "if";generalize upd H9 l10 (.lst [.ref d9])=H10 at s10 q10 ⊢
 have SA10:=SA9.same s10;have SC10:=SC9.fr (.of s10);have PO10:=PO9.fr (.of s10);have F10:=F9.same s10;show Zz _ _ _ [some (.ref b),some (.int mx),some (.ref A1.p),some (.ref t),some (.ref l10),none,none,none,none,none] H10;clear SA9 SC9 PO9 F9 SA6 SC6 PO6 PL SC7 SC4 SA4 no5 no8 pg9 hS hS2 s12;have nfew:=PO10.at_.nfew;refine⟨_,rfl,_,rfl,_,rfl,_,rfl,b,t,lc,ln,ns,cs,nu,rfl,SC10.sq,PO10.at_,fun le ts es H11 hle tl en el eok s11 fle=>?_⟩
 have SA11:=SA10.same s11;have nd11:(es.map (·.1)).Nodup:=by rw[en];exact PO10.at_.nnd.sublist (List.take_sublist _ _)
 refine⟨false,A1,l10,le,ts,es,[],d9,_,_,nu,0,rfl,SA11,s11 _ _ q10,o10,F10.same s11,hle,SA10.newOk _ fle,tl,nd11,fun x hx=>?_,(by show 0+es.length<=30;omega),by omega,rfl,(by show 0<rr;omega),fun A2 l2 ds2 d2 P2 S2 H12 SA12 hl12 ho12 F12 f12 hc12 he12 hn12=>?_⟩
 ·obtain⟨x1,x2,x3⟩:=eok x hx
  have hxn:x.1∈nu:=by
   have:x.1∈es.map (·.1):=zy9.mpr ⟨x,hx,rfl⟩
   rw[en] at this
   exact List.mem_of_mem_take this
  refine⟨hxn,?_,nofun⟩;have:=PO10.at_.nrng _ hxn;have:=PO10.at_.crng _ x3;unfold badI;omega
 have SC12:=(SC10.fr (.of s11)).fr f12;have PO12:=(PO10.fr (.of s11)).fr f12;have hAp:=f12.p;walk_at "if";refine⟨_,rfl,b,_,rfl,.inl SC12.sq,?_⟩;rw[zyz];refine⟨_,_,rfl,6,_,rfl,⟨by omega,by omega,by split<;>omega,by split<;>omega⟩,?_⟩
 obtain⟨N0,hN0,hN1⟩:∃ N0:Nat,((if (ns.length:Int)<63 then (ns.length:Int) else 63)-6).toNat=N0/\∀ i:Nat,i<N0->6+i<ns.length:=⟨_,rfl,fun i hi=>by split at hi<;>omega⟩
 have hN57:N0<=57:=by rw[<- hN0];split<;>omega
 rw[hN0]
 let jv1:Nat->L2.St->Hp->Prop:=fun i σ H'=>∃ A2 l2 ds2 d2 P2 S2 v6 v7 v8 v9 v10,σ=[some (.ref b),some (.int mx),some (.ref A1.p),some (.ref t),some (.ref l2),v6,v7,v8,v9,v10]/\Zy (ca a) H' A2 S2/\H' l2=some (.lst ((ds2++[d2]).map V.ref))/\l2∉A2.fp/\U5 false (·∉A2.fp) H' nu (30+i) ds2 d2 P2 S2/\Rm K A2 H' b (ns.map V.int)/\Lc A2 H' t lc ln cs nu/\A2.p=A1.p
 refine Fy jv1
  ⟨A2,l2,ds2,d2,P2,S2,_,_,_,_,_,rfl,SA12,hl12,ho12,⟨F12.pg,F12.re,F12.so.mono (by omega),?_⟩,SC12,PO12,hAp⟩ ?_ ?_
 ·obtain⟨nd,e|⟨S0,bb,rr'⟩⟩:=F12.tl
  ·exact⟨nd,.inl e⟩
  ·exact⟨nd,.inr ⟨S0,bb.mono (by omega),rr'⟩⟩
 ·rintro N hN i σ H1 hi ⟨A2,l2,ds2,d2,P2,S2,v6,v7,v8,v9,v10,rfl,SA,hl2,ho2,F,SC,PO,eAp⟩
  have hki:=hN1 i hi;have e6:(6:Int)+(i:Int)=((6+i:Nat):Int):=by omega
  rw[e6];walk_at "if";obtain⟨lp,lo,lv,dv,li,lg,lm,a1,PB,okd⟩:=id F.pg.split;have hat:atI ((ds2++[d2]).map V.ref) (-1)=some (V.ref d2):=by rw[zy7];exact L2.atI_last _ _
  obtain⟨vts,u1,u2,u3⟩:=PB.vv;have hvl:(vts.length:Int)=(P2.over.length:Int):=by rw[u2.length]
  refine Sy (Vm (b:=decide (V.int (P2.over.length:Int)=V.int (P2.len:Int))) (fun Q q=>⟨_,rfl,_,rfl,l2,_,_,_,rfl,rfl,SqL.of hl2,hat,d2,_,rfl,DGet.k (k:=.inr "over") a1,lv,vts,rfl,.inl (SqL.of u1),_,rfl,_,rfl,l2,_,_,_,rfl,rfl,SqL.of hl2,hat,d2,_,rfl,DGet.k (k:=.inr "rounds") a1,rfl,_,rfl,by rw[hvl];exact q⟩) (itB (fun _=>hN i _ _ ⟨A2,l2,ds2,d2,P2,S2,_,_,_,_,_,rfl,SA,hl2,ho2,F,SC,PO,eAp⟩) (fun hb=>Z1 ?_)))
  have hlt:P2.over.length<P2.len:=by
   have h1:=F.re.b.olen;have h2:=F.so.olen;have h3:=F.so.len;have h4:=F.re.b.len;have h5:=of_decide_eq_false hb;have h6:P2.over.length≠P2.len:=fun z=>h5 (by rw[z])
   omega
  dsimp only;refine⟨_,rfl,_,rfl,_,rfl,b,ns,6+i,rfl,SC.sq,hki,fun cell H2 s2=>?_⟩
  have s3:=s2;refine⟨_,rfl,_,rfl,(·∉A2.fp),l2,t,lc,ln,ds2,d2,P2,cell,cs,nu,6,mx,rfl,s3 _ _ hl2,F.pg.same s3,PO.at_.same s3,by decide,hmx1,hlt,(by rw[F.re.b.ppl];have:=F.so.few;omega),fun t' D H4 hD gD s4 ft'=>?_⟩
  have s34:=s3.trans s4;have SA4:=SA.same s34;have F4:=F.same s34;have SC4:=SC.fr (.of s34);have PO4:=PO.fr (.of s34);have hD4:=zf7 (SA.same s3) hD;have g:=zf6 F.re.b F.so gD hlt (by decide) ⟨nfew.2,PO.at_.nrng⟩ PO.at_.crng F.back
  have hkn:∀ k gr c,D=.enrol k gr c->k∈nu:=fun k gr c z=>by rw[z] at gD;exact gD.2.1
  walk_at "if";obtain⟨w1,w2,w3,w4,w5,w6,w7,w8,w9,w10⟩:=F4.pre g (by omega)
  refine⟨_,rfl,_,rfl,A2,S2,t',D,(by rw[<- eAp];rfl),SA4,hD4,g,w1,w2,w3,w4,w5,w6,w7,w8,w9,w10,fun v' A3 S3 H5 af SA5 nx fr _=>?_⟩
  have f5:=FrN.next SA4 nx fr;obtain⟨c1,c2,c3,c4,c5⟩:=F4.pre2 g (by omega)
  dsimp only;refine⟨_,rfl,_,rfl,(·∉A3.fp),l2,t',ds2,d2,P2,D,rfl,(f5.k _ _ (s34 _ _ hl2) ho2).1,F4.pg.fr f5,hD4.fr f5,c1,c2,c3,c4,c5,fun l6 d6 H6 hl6 pg6 s6 fl6 fd6=>?_⟩
  obtain⟨ds7,d7,P7,ek,Pe,eP,eR⟩:=turn F4 SA4 af SA5 nx fr g hkn pg6 s6 fd6;have SA6:=SA5.same s6;have o6:=SA5.newOk _ fl6;have SC6:=(SC4.fr f5).fr (.of s6);have PO6:=(PO4.fr f5).fr (.of s6);have eAp6:=f5.p.trans eAp;rw[ek] at hl6
  have hat7:atI ((ds7++[d7]).map V.ref) (-1)=some (V.ref d7):=by rw[zy7];exact L2.atI_last _ _
  walk_at "if";refine⟨_,rfl,_,rfl,l6,_,_,_,rfl,rfl,SqL.of hl6,hat7,?_⟩;walk_at "if";clear SA F SA4 F4 SC4 PO4 SC PO hD4 hD;obtain⟨lp7,lo7,lv7,dv7,li7,lg7,lm7,y1,y2,y3⟩:=id Pe.pg.split;have hls:=y2.li.some;refine Vm (b:=P7.lis.isSome) (fun Q q=>⟨_,rfl,d7,_,rfl,DGet.k (k:=.inr "listed") y1,rfl,_,rfl,by rw[hls];exact q⟩) (itB (fun hb=>?_) (fun hb=>Z1 ?_))
  rotate_left
  ·have hno:P7.lis=none:=by
    cases hq:P7.lis with
    | none=>rfl
    | some ms=>rw[hq] at hb;cases hb
   have hcn:=Pe.rb.undrawn hno;have eN:30+i+1=30+(i+1):=by omega
   rw[eN] at Pe
   exact⟨A3,l6,ds7,d7,P7,S3,_,_,_,_,_,rfl,SA6,hl6,o6,Pe.full (fun s hs=>by rw[hcn] at hs;cases hs) (fun z=>nomatch z),SC6,PO6,eAp6⟩
  obtain⟨ms,hms⟩:=z0d.mp hb;obtain⟨sh,hcur,hshm⟩:=Pe.rb.drawn hms;subst hshm;obtain⟨k1,k2,k3,k4,k5⟩:=Pe.so.cur sh hcur;obtain⟨vts7,z1,z2,z3⟩:=y2.vv;have hvl7:(vts7.length:Int)+1=atV S3:=by rw[z2.length];exact Pe.rb.at Pe.so
  have hpl7:P7.ppl.length<=100:=by rw[Pe.rb.ppl];have:=Pe.so.few;omega
  refine⟨_,rfl,(·∉A3.fp),d7,P7,sh.ms,rfl,Pe.pg,Pe.rb.ovok Pe.so,hms,by omega,hpl7,fun lw ls H7 hlw ilw s7 flw _=>?_⟩
  rw[Pe.rb.may Pe.so,<- k4] at ilw
  have SA7:=SA6.same s7;have Pe7:=Pe.same s7;walk_at "if";obtain⟨⟨dx7,vv7,ob7,_⟩,_⟩:=id SA7;rw[eAp6] at ob7
  refine⟨_,rfl,A1.p,dx7,_,rfl,ob7,Yo (by decide +kernel),_,rfl,d7,_,rfl,DGet.k (k:=.inr "over") (s7 _ _ y1),lv7,vts7,rfl,.inl (SqL.of (s7 _ _ z1)),_,_,rfl,rfl,A3,S3,atV S3,(by rw[eAp6,<- hvl7];rfl),SA7,zif Pe.so hcur fun lf H8 hlf s8 flf=>?_⟩
  have hw8:=s8 _ _ hlw;have il8:=ilw.same s8;have SA8:=SA7.same s8;have Pe8:=Pe7.same s8;have hml:sh.may.length=sh.ms.length:=by rw[k4];unfold mayS;rw[zyz]
  have hgl:sh.gv.length=sh.may.length:=k2.len;walk_at "if";refine Sy ?_;refine⟨_,rfl,_,rfl,lw,lf,ls,sh.may,sh.gv,rfl,hw8,il8,by omega,hlf,k2,fun H9 s9=>⟨true,rfl,?_⟩⟩
  refine iteF (Z1 ?_);dsimp only;have SA9:=SA8.same s9;have Pe9:=Pe8.same s9;have hsub:∀ r∈sh.may,∀ x∈r,x∈nu:=fun r hr x hx=>by
   rw[k4] at hr
   unfold mayS at hr
   obtain⟨m,_,rfl⟩:=zy9.mp hr;unfold K1 at hx
   obtain⟨y,hy,rfl⟩:=zy9.mp hx;exact(Pe.so.ppl y (zzq.mp hy).1).1
  have s69:=s7.trans (s8.trans s9);have PO9:=PO6.fr (.of s69);refine Sy ?_;refine⟨_,rfl,lf,sh.gv,rfl,s9 _ _ hlf,k2.one,by omega,fun H10 s10=>⟨_,rfl,_,rfl,t,_,_,_,rfl,rfl,SqT.of (s10 _ _ PO9.at_.tup),rfl,lw,ln,ls,sh.may,nu,rfl,(s9.trans s10) _ _ hw8,il8.same (s9.trans s10),s10 _ _ PO9.at_.nums,hnu,by omega,fun best H11 hb1 hb2 s11=>⟨rfl,_,rfl,?_⟩⟩⟩
  have hbest:=zf8 PO9.at_.nnd hsub k2 k3 hb1 hb2;subst hbest;rw[zy4 rfl];refine iteF (Z1 ?_);dsimp only;have s912:=s10.trans s11;refine⟨_,rfl,lf,_,rfl,.inl (SqL.of (s912 _ _ (s9 _ _ hlf))),fun lg' flg=>?_⟩
  have s13:=s912.trans (Ze (o:=.lst sh.gv) flg);have q13:=Zb (H:=H11) (a:=lg') (o:=.lst sh.gv);have o13:=(SA9.same s912).newOk _ flg;generalize upd H11 lg' (.lst sh.gv)=H13 at s13 q13 ⊢
  have SA13:=SA9.same s13;obtain⟨kvs,b1,b2,F14⟩:=(Pe9.same s13).goes q13 o13 (fun s hs=>by rw[hcur] at hs;cases hs;rfl) (fun z=>nomatch z)
  have s613:=s69.trans s13;refine⟨_,rfl,d7,_,rfl,DPut.k (k:=.inr "goes") b1 b2,?_⟩;have eN:30+i+1=30+(i+1):=by omega
  rw[eN] at F14
  exact⟨A3,l6,ds7,d7,_,S3,_,_,_,_,_,rfl,SA13.dictW b1 y3,(Xk.dict b1).1 _ _ (s613 _ _ hl6),o6,F14,(SC6.fr (.of s613)).dictW b1,(PO6.fr (.of s613)).dictW b1,eAp6⟩
 ·rintro i σ H1 ⟨A2,l2,ds2,d2,P2,S2,v6,v7,v8,v9,v10,rfl,SA,hl2,ho2,F,SC,PO,eAp⟩
  obtain⟨lp,lo,lv,dv,li,lg,lm,a1,PB,okd⟩:=id F.pg.split;have hat:atI ((ds2++[d2]).map V.ref) (-1)=some (V.ref d2):=by rw[zy7];exact L2.atI_last _ _
  obtain⟨vts,u1,u2,u3⟩:=PB.vv;obtain⟨⟨dx2,vv2,ob2,_⟩,_⟩:=id SA;rw[eAp] at ob2
  refine⟨_,rfl,A1.p,dx2,_,rfl,ob2,Yo (by decide +kernel),A2,S2,(by rw[eAp];rfl),SA,?_⟩
  refine⟨_,rfl,_,rfl,l2,_,_,_,rfl,rfl,SqL.of hl2,hat,d2,_,rfl,DGet.k (k:=.inr "over") a1,lv,vts,rfl,.inl (SqL.of u1),_,_,rfl,rfl,?_⟩;have hvl:(vts.length:Int)+1=atV S2:=by rw[u2.length];exact F.re.b.at F.so
  dsimp only;rw[hvl];exact⟨_,rfl,.inr ⟨_,rfl⟩,h H1⟩
end
end K34

namespace K34
open PySem PySem.Spec PyProof.Rows L2 G PySem.W
theorem zim{l:OpenLaw}{w:World}{K:Frag}{h:Heap}{mg:Str->Option Value}{fa zoa zk7 zlk zla zlf zlg zmo zmk zlq zmd zlw zlr znj zmp zk4 zll zkt zku zkv zkq f0 f1 f2 f3 f4 f5 f6 f7 f8 f9 f10 f11 f12 f13 f14 f15 f16 f17 f18 f19 f20 f21 f22 f23 f24 f25 f26 f27 f28 f29 f30 f31 f32 f33 f34 f35 f36 f37 f38 f39 f40 f41 f42 f43 f44 f45 f46 f47 f48 f49 f50 f51 f52 f53 f54 f55 f56 f57 f58 f59 f60 f61 f62 f63 f64 f65 f66 f67 f68 f69 f70 f71 f72 f73 f74 f75 f76 f77:Addr}{tk0 tk1 tk2 tk3 tk4 tk5 tk6 tk7:Tok}{od0 an0 od1 an1 od2 an2 od3 an3 od4 an4 od5 an5 od6 an6 od7 an7 od8 an8 od9 an9 od10 an10 od11 an11 od12 an12 od13 an13 od14 an14 od15 an15 od16 an16 od17 an17 od18 an18 od19 an19 od20 an20 od21 an21 od22 an22 od23 an23 od24 an24 od25 an25 od26 an26 od27 an27 od28 an28 od29 an29 od30 an30 od31 an31 od32 an32 od33 an33 od34 an34 od35 an35 od36 an36 od37 an37 od38 an38 od39 an39 od40 an40 od41 an41 od42 an42 od43 an43 od44 an44 od45 an45 od46 an46 od47 an47 od48 an48 od49 an49 od50 an50 od51 an51 od52 an52 od53 an53 od54 an54 od55 an55 od56 an56 od57 an57 od58 an58 od59 an59 od60 an60 od61 an61 od62 an62 od63 an63 od64 an64 od65 an65 od66 an66 od67 an67 od68 an68 od69 an69 od70 an70 od71 an71 od72 an72 od73 an73 od74 an74 od75 an75 od76 an76 od77 an77:Option Addr}{sl0 sl1 sl2 sl3 sl4 sl5 sl6 sl7 sl8 sl9 sl10 sl11 sl12 sl13 sl14 sl15 sl16 sl17 sl18 sl19 sl20 sl21 sl22 sl23 sl24 sl25 sl26 sl27 sl28 sl29 sl30 sl31 sl32 sl33 sl34 sl35 sl36 sl37 sl38 sl39 sl40 sl41 sl42 sl43 sl44 sl45 sl46 sl47 sl48 sl49 sl50 sl51 sl52 sl53 sl54 sl55 sl56 sl57 sl58 sl59 sl60 sl61 sl62 sl63 sl64 sl65 sl66 sl67 sl68 sl69 sl70 sl71 sl72 sl73 sl74 sl75 sl76 sl77:Array (Option Value)}{oc0 kV0 dc0 pm0 cd0 ct0 oc1 kV1 dc1 pm1 cd1 ct1 oc2 kV2 dc2 pm2 cd2 ct2 oc3 kV3 dc3 pm3 cd3 ct3 oc4 kV4 dc4 pm4 cd4 ct4 oc5 kV5 dc5 pm5 cd5 ct5 oc6 kV6 dc6 pm6 cd6 ct6 oc7 kV7 dc7 pm7 cd7 ct7 oc8 kV8 dc8 pm8 cd8 ct8 oc9 kV9 dc9 pm9 cd9 ct9 oc10 kV10 dc10 pm10 cd10 ct10 oc11 kV11 dc11 pm11 cd11 ct11 oc12 kV12 dc12 pm12 cd12 ct12 oc13 kV13 dc13 pm13 cd13 ct13 oc14 kV14 dc14 pm14 cd14 ct14 oc15 kV15 dc15 pm15 cd15 ct15 oc16 kV16 dc16 pm16 cd16 ct16 oc17 kV17 dc17 pm17 cd17 ct17 oc18 kV18 dc18 pm18 cd18 ct18 oc19 kV19 dc19 pm19 cd19 ct19 oc20 kV20 dc20 pm20 cd20 ct20 oc21 kV21 dc21 pm21 cd21 ct21 oc22 kV22 dc22 pm22 cd22 ct22 oc23 kV23 dc23 pm23 cd23 ct23 oc24 kV24 dc24 pm24 cd24 ct24 oc25 kV25 dc25 pm25 cd25 ct25 oc26 kV26 dc26 pm26 cd26 ct26 oc27 kV27 dc27 pm27 cd27 ct27 oc28 kV28 dc28 pm28 cd28 ct28 oc29 kV29 dc29 pm29 cd29 ct29 oc30 kV30 dc30 pm30 cd30 ct30 oc31 kV31 dc31 pm31 cd31 ct31 oc32 kV32 dc32 pm32 cd32 ct32 oc33 kV33 dc33 pm33 cd33 ct33 oc34 kV34 dc34 pm34 cd34 ct34 oc35 kV35 dc35 pm35 cd35 ct35 oc36 kV36 dc36 pm36 cd36 ct36 oc37 kV37 dc37 pm37 cd37 ct37 oc38 kV38 dc38 pm38 cd38 ct38 oc39 kV39 dc39 pm39 cd39 ct39 oc40 kV40 dc40 pm40 cd40 ct40 oc41 kV41 dc41 pm41 cd41 ct41 oc42 kV42 dc42 pm42 cd42 ct42 oc43 kV43 dc43 pm43 cd43 ct43 oc44 kV44 dc44 pm44 cd44 ct44 oc45 kV45 dc45 pm45 cd45 ct45 oc46 kV46 dc46 pm46 cd46 ct46 oc47 kV47 dc47 pm47 cd47 ct47 oc48 kV48 dc48 pm48 cd48 ct48 oc49 kV49 dc49 pm49 cd49 ct49 oc50 kV50 dc50 pm50 cd50 ct50 oc51 kV51 dc51 pm51 cd51 ct51 oc52 kV52 dc52 pm52 cd52 ct52 oc53 kV53 dc53 pm53 cd53 ct53 oc54 kV54 dc54 pm54 cd54 ct54 oc55 kV55 dc55 pm55 cd55 ct55 oc56 kV56 dc56 pm56 cd56 ct56 oc57 kV57 dc57 pm57 cd57 ct57 oc58 kV58 dc58 pm58 cd58 ct58 oc59 kV59 dc59 pm59 cd59 ct59 oc60 kV60 dc60 pm60 cd60 ct60 oc61 kV61 dc61 pm61 cd61 ct61 oc62 kV62 dc62 pm62 cd62 ct62 oc63 kV63 dc63 pm63 cd63 ct63 oc64 kV64 dc64 pm64 cd64 ct64 oc65 kV65 dc65 pm65 cd65 ct65 oc66 kV66 dc66 pm66 cd66 ct66 oc67 kV67 dc67 pm67 cd67 ct67 oc68 kV68 dc68 pm68 cd68 ct68 oc69 kV69 dc69 pm69 cd69 ct69 oc70 kV70 dc70 pm70 cd70 ct70 oc71 kV71 dc71 pm71 cd71 ct71 oc72 kV72 dc72 pm72 cd72 ct72 oc73 kV73 dc73 pm73 cd73 ct73 oc74 kV74 dc74 pm74 cd74 ct74 oc75 kV75 dc75 pm75 cd75 ct75 oc76 kV76 dc76 pm76 cd76 ct76 oc77 kV77 dc77 pm77 cd77 ct77:Value}(X:K.In h)(G:h.Ns mainGlobals mg)(hfa:mg "law"=some (.ref fa))
  (zoi:nsIn K mainGlobals "BookError"=some (some (.ref zoa)))
  (zm9:nsIn K mainGlobals "OutOfRange"=some (some (.ref zk7)))
  (zmi:nsIn K mainGlobals "KnownReferee"=some (some (.ref zlk)))
  (zlu:nsIn K mainGlobals "TooManyReferees"=some (some (.ref zla)))
  (zl2:nsIn K mainGlobals "UnknownReferee"=some (some (.ref zlf)))
  (zlz:nsIn K mainGlobals "TooManyMatches"=some (some (.ref zlg)))
  (zn5:nsIn K mainGlobals "SameClub"=some (some (.ref zmo)))
  (znu:nsIn K mainGlobals "NoSuchMatch"=some (some (.ref zmk)))
  (zmz:nsIn K mainGlobals "NoSuchRound"=some (some (.ref zlq)))
  (znq:nsIn K mainGlobals "RoundOver"=some (some (.ref zmd)))
  (zm8:nsIn K mainGlobals "SeasonOver"=some (some (.ref zlw)))
  (zmx:nsIn K mainGlobals "AwayAlready"=some (some (.ref zlr)))
  (zol:nsIn K mainGlobals "DrawnUp"=some (some (.ref znj)))
  (zn4:nsIn K mainGlobals "NotDrawn"=some (some (.ref zmp)))
  (zln:nsIn K mainGlobals "NothingToTakeBack"=some (some (.ref zk4)))
  (zmn:nsIn K mainGlobals "TooManyDeeds"=some (some (.ref zll)))
  (zov:nsIn K mainGlobals "Ledger"=some (some (.ref zkt)))
  (zou:nsIn K mainGlobals "Roster"=some (some (.ref zku)))
  (zpr:nsIn K mainGlobals "Sheet"=some (some (.ref zkv)))
  (zox:nsIn K mainGlobals "Season"=some (some (.ref zkq)))
  (zpn:plainGet K zkt Str.empty=true)
  (zpe:hasDictIn K zkt=true)
  (zo7:plainOver K zkt=true)
  (zo4:findIn K (.ref zkt) "__setattr__"=some (some (.builtin "object.__setattr__")))
  (zpf:makesIn K zkt=true)
  (zpd:keepIn K (.ref zkt)=true)
  (zm0:findIn K (.ref zkt) "rounds"=some none)
  (zlv:findIn K (.ref zkt) "meetings"=some none)
  (zpk:plainGet K zku Str.empty=true)
  (zpp:hasDictIn K zku=true)
  (zph:plainOver K zku=true)
  (zo5:findIn K (.ref zku) "__setattr__"=some (some (.builtin "object.__setattr__")))
  (zpm:makesIn K zku=true)
  (zo8:keepIn K (.ref zku)=true)
  (zlj:findIn K (.ref zku) "entries"=some none)
  (zp3:plainGet K zkv Str.empty=true)
  (zp0:hasDictIn K zkv=true)
  (zpu:plainOver K zkv=true)
  (zpy:findIn K (.ref zkv) "__setattr__"=some (some (.builtin "object.__setattr__")))
  (zp7:makesIn K zkv=true)
  (zp5:keepIn K (.ref zkv)=true)
  (zml:findIn K (.ref zkv) "listed"=some none)
  (zo0:findIn K (.ref zkv) "lists"=some none)
  (zmy:findIn K (.ref zkv) "given"=some none)
  (zof:findIn K (.ref zkv) "gaps"=some none)
  (zpl:plainGet K zkq Str.empty=true)
  (zpi:hasDictIn K zkq=true)
  (zpa:plainOver K zkq=true)
  (zo9:findIn K (.ref zkq) "__setattr__"=some (some (.builtin "object.__setattr__")))
  (zo1:makesIn K zkq=true)
  (zo3:keepIn K (.ref zkq)=true)
  (znf:findIn K (.ref zkq) "length"=some none)
  (zpb:findIn K (.ref zkq) "rest"=some none)
  (zls:findIn K (.ref zkq) "roster"=some none)
  (zly:findIn K (.ref zkq) "ledger"=some none)
  (zmm:findIn K (.ref zkq) "absent"=some none)
  (znc:findIn K (.ref zkq) "sheets"=some none)
  (zle:findIn K (.ref zkq) "sheet"=some none)
  (zlm:findIn K (.ref zkq) "standing"=some none)
  (zn9:excIn K zk7 [.type "ValueError",.type "Exception",.type "BaseException",.type "object"] "ValueError.__new__"=true)
  (zmu:excIn K zlg [.type "ValueError",.type "Exception",.type "BaseException",.type "object"] "ValueError.__new__"=true)
  (zoq:excIn K zmo [.type "ValueError",.type "Exception",.type "BaseException",.type "object"] "ValueError.__new__"=true)
  (zng:excIn K zlk [.type "ValueError",.type "Exception",.type "BaseException",.type "object"] "ValueError.__new__"=true)
  (zmj:excIn K zla [.type "ValueError",.type "Exception",.type "BaseException",.type "object"] "ValueError.__new__"=true)
  (zms:excIn K zlf [.type "ValueError",.type "Exception",.type "BaseException",.type "object"] "ValueError.__new__"=true)
  (zod:excIn K zlw [.type "ValueError",.type "Exception",.type "BaseException",.type "object"] "ValueError.__new__"=true)
  (zo2:excIn K znj [.type "ValueError",.type "Exception",.type "BaseException",.type "object"] "ValueError.__new__"=true)
  (znw:excIn K zlq [.type "ValueError",.type "Exception",.type "BaseException",.type "object"] "ValueError.__new__"=true)
  (znh:excIn K zll [.type "ValueError",.type "Exception",.type "BaseException",.type "object"] "ValueError.__new__"=true)
  (zoo:excIn K zmp [.type "ValueError",.type "Exception",.type "BaseException",.type "object"] "ValueError.__new__"=true)
  (zog:excIn K zmd [.type "ValueError",.type "Exception",.type "BaseException",.type "object"] "ValueError.__new__"=true)
  (zny:excIn K zlr [.type "ValueError",.type "Exception",.type "BaseException",.type "object"] "ValueError.__new__"=true)
  (zl6:excIn K zk4 [.type "ValueError",.type "Exception",.type "BaseException",.type "object"] "ValueError.__new__"=true)
  (zpq:nsIn K mainGlobals "max"=some none)
  (zlc:nsIn K mainGlobals "len"=some none)
  (zow:nsIn K mainGlobals "tuple"=some none)
  (zmb:nsIn K mainGlobals "list"=some none)
  (zm2:nsIn K mainGlobals "enumerate"=some none)
  (zl9:nsIn K mainGlobals "range"=some none)
  (zqd:nsIn K mainGlobals "zip"=some none)
  (zlp:nsIn K mainGlobals "isinstance"=some none)
  (zp2:nsIn K mainGlobals "int"=some none)
  (zp1:nsIn K mainGlobals "bool"=some none)
  (zp4:nsIn K mainGlobals "dict"=some none)
  (zqa:nsIn K mainGlobals "min"=some none)
  (zl7:nsIn K mainGlobals "MOST_NUMBER"=some (some (.int 999 tk0)))
  (zl3:nsIn K mainGlobals "MOST_GRADE"=some (some (.int 9 tk1)))
  (zlx:nsIn K mainGlobals "MOST_CLUB"=some (some (.int 99 tk2)))
  (zli:nsIn K mainGlobals "MOST_REFEREES"=some (some (.int 30 tk3)))
  (zlo:nsIn K mainGlobals "MOST_MATCHES"=some (some (.int 20 tk4)))
  (zl8:nsIn K mainGlobals "MOST_ROUNDS"=some (some (.int 60 tk5)))
  (zm1:nsIn K mainGlobals "MOST_REST"=some (some (.int 10 tk6)))
  (zl4:nsIn K mainGlobals "MOST_DEEDS"=some (some (.int 100 tk7)))
  (b0:NsB K "met_lately" f0)
  (l0:LkF K f0 "met_lately" "met_lately" U7 oc0 kV0 dc0 pm0 cd0 ct0 od0 an0 sl0)
  (c0:codeIn K cd0 "met_lately"=true)
  (k0:keepIn K (.ref f0)=true)
  (b1:NsB K "reasons" f1)
  (l1:LkF K f1 "reasons" "reasons" Qy oc1 kV1 dc1 pm1 cd1 ct1 od1 an1 sl1)
  (c1:codeIn K cd1 "reasons"=true)
  (k1:keepIn K (.ref f1)=true)
  (b2:NsB K "takers" f2)
  (l2:LkF K f2 "takers" "takers" O7 oc2 kV2 dc2 pm2 cd2 ct2 od2 an2 sl2)
  (c2:codeIn K cd2 "takers"=true)
  (k2:keepIn K (.ref f2)=true)
  (b3:FdB K zkt "__init__" f3)
  (i3:isFn K (.ref f3)=true)
  (l3:LkF K f3 "__init__" "Ledger.__init__" Wj oc3 kV3 dc3 pm3 cd3 ct3 od3 an3 sl3)
  (c3:codeIn K cd3 "Ledger.__init__"=true)
  (k3:keepIn K (.ref f3)=true)
  (b4:FdB K zkt "write" f4)
  (i4:isFn K (.ref f4)=true)
  (l4:LkF K f4 "write" "Ledger.write" Vq oc4 kV4 dc4 pm4 cd4 ct4 od4 an4 sl4)
  (c4:codeIn K cd4 "Ledger.write"=true)
  (k4:keepIn K (.ref f4)=true)
  (b5:FdB K zkt "over" f5)
  (i5:isFn K (.ref f5)=true)
  (l5:LkF K f5 "over" "Ledger.over" Ud oc5 kV5 dc5 pm5 cd5 ct5 od5 an5 sl5)
  (c5:codeIn K cd5 "Ledger.over"=true)
  (k5:keepIn K (.ref f5)=true)
  (b6:FdB K zkt "met" f6)
  (i6:isFn K (.ref f6)=true)
  (l6:LkF K f6 "met" "Ledger.met" U8 oc6 kV6 dc6 pm6 cd6 ct6 od6 an6 sl6)
  (c6:codeIn K cd6 "Ledger.met"=true)
  (k6:keepIn K (.ref f6)=true)
  (b7:NsB K "check_range" f7)
  (l7:LkF K f7 "check_range" "check_range" Ue oc7 kV7 dc7 pm7 cd7 ct7 od7 an7 sl7)
  (c7:codeIn K cd7 "check_range"=true)
  (k7:keepIn K (.ref f7)=true)
  (b8:NsB K "check_count" f8)
  (l8:LkF K f8 "check_count" "check_count" Ug oc8 kV8 dc8 pm8 cd8 ct8 od8 an8 sl8)
  (c8:codeIn K cd8 "check_count"=true)
  (k8:keepIn K (.ref f8)=true)
  (b9:NsB K "check_ranges" f9)
  (l9:LkF K f9 "check_ranges" "check_ranges" Vr oc9 kV9 dc9 pm9 cd9 ct9 od9 an9 sl9)
  (c9:codeIn K cd9 "check_ranges"=true)
  (k9:keepIn K (.ref f9)=true)
  (b10:NsB K "check_clubs" f10)
  (l10:LkF K f10 "check_clubs" "check_clubs" Uh oc10 kV10 dc10 pm10 cd10 ct10 od10 an10 sl10)
  (c10:codeIn K cd10 "check_clubs"=true)
  (k10:keepIn K (.ref f10)=true)
  (b11:NsB K "checked" f11)
  (l11:LkF K f11 "checked" "checked" Qz oc11 kV11 dc11 pm11 cd11 ct11 od11 an11 sl11)
  (c11:codeIn K cd11 "checked"=true)
  (k11:keepIn K (.ref f11)=true)
  (b12:FdB K zku "__init__" f12)
  (i12:isFn K (.ref f12)=true)
  (l12:LkF K f12 "__init__" "Roster.__init__" Wk oc12 kV12 dc12 pm12 cd12 ct12 od12 an12 sl12)
  (c12:codeIn K cd12 "Roster.__init__"=true)
  (k12:keepIn K (.ref f12)=true)
  (b13:FdB K zku "check_new" f13)
  (i13:isFn K (.ref f13)=true)
  (l13:LkF K f13 "check_new" "Roster.check_new" X7 oc13 kV13 dc13 pm13 cd13 ct13 od13 an13 sl13)
  (c13:codeIn K cd13 "Roster.check_new"=true)
  (k13:keepIn K (.ref f13)=true)
  (b14:FdB K zku "check_known" f14)
  (i14:isFn K (.ref f14)=true)
  (l14:LkF K f14 "check_known" "Roster.check_known" Xo oc14 kV14 dc14 pm14 cd14 ct14 od14 an14 sl14)
  (c14:codeIn K cd14 "Roster.check_known"=true)
  (k14:keepIn K (.ref f14)=true)
  (b15:FdB K zku "add" f15)
  (i15:isFn K (.ref f15)=true)
  (l15:LkF K f15 "add" "Roster.add" U9 oc15 kV15 dc15 pm15 cd15 ct15 od15 an15 sl15)
  (c15:codeIn K cd15 "Roster.add"=true)
  (k15:keepIn K (.ref f15)=true)
  (b16:FdB K zku "strike" f16)
  (i16:isFn K (.ref f16)=true)
  (l16:LkF K f16 "strike" "Roster.strike" W6 oc16 kV16 dc16 pm16 cd16 ct16 od16 an16 sl16)
  (c16:codeIn K cd16 "Roster.strike"=true)
  (k16:keepIn K (.ref f16)=true)
  (b17:FdB K zku "numbers" f17)
  (i17:isFn K (.ref f17)=true)
  (l17:LkF K f17 "numbers" "Roster.numbers" Wv oc17 kV17 dc17 pm17 cd17 ct17 od17 an17 sl17)
  (c17:codeIn K cd17 "Roster.numbers"=true)
  (k17:keepIn K (.ref f17)=true)
  (b18:FdB K zku "entry" f18)
  (i18:isFn K (.ref f18)=true)
  (l18:LkF K f18 "entry" "Roster.entry" Vt oc18 kV18 dc18 pm18 cd18 ct18 od18 an18 sl18)
  (c18:codeIn K cd18 "Roster.entry"=true)
  (k18:keepIn K (.ref f18)=true)
  (b19:FdB K zku "person" f19)
  (i19:isFn K (.ref f19)=true)
  (l19:LkF K f19 "person" "Roster.person" W7 oc19 kV19 dc19 pm19 cd19 ct19 od19 an19 sl19)
  (c19:codeIn K cd19 "Roster.person"=true)
  (k19:keepIn K (.ref f19)=true)
  (b20:NsB K "places_taken" f20)
  (l20:LkF K f20 "places_taken" "places_taken" Vu oc20 kV20 dc20 pm20 cd20 ct20 od20 an20 sl20)
  (c20:codeIn K cd20 "places_taken"=true)
  (k20:keepIn K (.ref f20)=true)
  (b21:NsB K "steps_into" f21)
  (l21:LkF K f21 "steps_into" "steps_into" Ta oc21 kV21 dc21 pm21 cd21 ct21 od21 an21 sl21)
  (c21:codeIn K cd21 "steps_into"=true)
  (k21:keepIn K (.ref f21)=true)
  (b22:NsB K "free_referee" f22)
  (l22:LkF K f22 "free_referee" "free_referee" Vv oc22 kV22 dc22 pm22 cd22 ct22 od22 an22 sl22)
  (c22:codeIn K cd22 "free_referee"=true)
  (k22:keepIn K (.ref f22)=true)
  (b23:NsB K "traced" f23)
  (l23:LkF K f23 "traced" "traced" O8 oc23 kV23 dc23 pm23 cd23 ct23 od23 an23 sl23)
  (c23:codeIn K cd23 "traced"=true)
  (k23:keepIn K (.ref f23)=true)
  (b24:NsB K "chain" f24)
  (l24:LkF K f24 "chain" "chain" Kf oc24 kV24 dc24 pm24 cd24 ct24 od24 an24 sl24)
  (c24:codeIn K cd24 "chain"=true)
  (k24:keepIn K (.ref f24)=true)
  (b25:NsB K "stepped" f25)
  (l25:LkF K f25 "stepped" "stepped" Q4 oc25 kV25 dc25 pm25 cd25 ct25 od25 an25 sl25)
  (c25:codeIn K cd25 "stepped"=true)
  (k25:keepIn K (.ref f25)=true)
  (b26:NsB K "fill" f26)
  (l26:LkF K f26 "fill" "fill" Eb oc26 kV26 dc26 pm26 cd26 ct26 od26 an26 sl26)
  (c26:codeIn K cd26 "fill"=true)
  (k26:keepIn K (.ref f26)=true)
  (b27:NsB K "place_of" f27)
  (l27:LkF K f27 "place_of" "place_of" S9 oc27 kV27 dc27 pm27 cd27 ct27 od27 an27 sl27)
  (c27:codeIn K cd27 "place_of"=true)
  (k27:keepIn K (.ref f27)=true)
  (b28:FdB K zkv "__init__" f28)
  (i28:isFn K (.ref f28)=true)
  (l28:LkF K f28 "__init__" "Sheet.__init__" Ww oc28 kV28 dc28 pm28 cd28 ct28 od28 an28 sl28)
  (c28:codeIn K cd28 "Sheet.__init__"=true)
  (k28:keepIn K (.ref f28)=true)
  (b29:FdB K zkv "barred" f29)
  (i29:isFn K (.ref f29)=true)
  (l29:LkF K f29 "barred" "Sheet.barred" Vw oc29 kV29 dc29 pm29 cd29 ct29 od29 an29 sl29)
  (c29:codeIn K cd29 "Sheet.barred"=true)
  (k29:keepIn K (.ref f29)=true)
  (b30:FdB K zkv "fallen_out" f30)
  (i30:isFn K (.ref f30)=true)
  (l30:LkF K f30 "fallen_out" "Sheet.fallen_out" X8 oc30 kV30 dc30 pm30 cd30 ct30 od30 an30 sl30)
  (c30:codeIn K cd30 "Sheet.fallen_out"=true)
  (k30:keepIn K (.ref f30)=true)
  (b31:FdB K zkv "matches" f31)
  (i31:isFn K (.ref f31)=true)
  (l31:LkF K f31 "matches" "Sheet.matches" W9 oc31 kV31 dc31 pm31 cd31 ct31 od31 an31 sl31)
  (c31:codeIn K cd31 "Sheet.matches"=true)
  (k31:keepIn K (.ref f31)=true)
  (b32:FdB K zkv "goes" f32)
  (i32:isFn K (.ref f32)=true)
  (l32:LkF K f32 "goes" "Sheet.goes" Tb oc32 kV32 dc32 pm32 cd32 ct32 od32 an32 sl32)
  (c32:codeIn K cd32 "Sheet.goes"=true)
  (k32:keepIn K (.ref f32)=true)
  (b33:FdB K zkv "where" f33)
  (i33:isFn K (.ref f33)=true)
  (l33:LkF K f33 "where" "Sheet.where" Ui oc33 kV33 dc33 pm33 cd33 ct33 od33 an33 sl33)
  (c33:codeIn K cd33 "Sheet.where"=true)
  (k33:keepIn K (.ref f33)=true)
  (b34:FdB K zkv "chains" f34)
  (i34:isFn K (.ref f34)=true)
  (l34:LkF K f34 "chains" "Sheet.chains" Vx oc34 kV34 dc34 pm34 cd34 ct34 od34 an34 sl34)
  (c34:codeIn K cd34 "Sheet.chains"=true)
  (k34:keepIn K (.ref f34)=true)
  (b35:FdB K zkv "rows" f35)
  (i35:isFn K (.ref f35)=true)
  (l35:LkF K f35 "rows" "Sheet.rows" Tc oc35 kV35 dc35 pm35 cd35 ct35 od35 an35 sl35)
  (c35:codeIn K cd35 "Sheet.rows"=true)
  (k35:keepIn K (.ref f35)=true)
  (b36:NsB K "drawn_sheet" f36)
  (l36:LkF K f36 "drawn_sheet" "drawn_sheet" Uj oc36 kV36 dc36 pm36 cd36 ct36 od36 an36 sl36)
  (c36:codeIn K cd36 "drawn_sheet"=true)
  (k36:keepIn K (.ref f36)=true)
  (b37:FdB K zkq "__init__" f37)
  (i37:isFn K (.ref f37)=true)
  (l37:LkF K f37 "__init__" "Season.__init__" Wl oc37 kV37 dc37 pm37 cd37 ct37 od37 an37 sl37)
  (c37:codeIn K cd37 "Season.__init__"=true)
  (k37:keepIn K (.ref f37)=true)
  (b38:FdB K zkq "check_not_over" f38)
  (i38:isFn K (.ref f38)=true)
  (l38:LkF K f38 "check_not_over" "Season.check_not_over" Xa oc38 kV38 dc38 pm38 cd38 ct38 od38 an38 sl38)
  (c38:codeIn K cd38 "Season.check_not_over"=true)
  (k38:keepIn K (.ref f38)=true)
  (b39:FdB K zkq "check_undrawn" f39)
  (i39:isFn K (.ref f39)=true)
  (l39:LkF K f39 "check_undrawn" "Season.check_undrawn" Xe oc39 kV39 dc39 pm39 cd39 ct39 od39 an39 sl39)
  (c39:codeIn K cd39 "Season.check_undrawn"=true)
  (k39:keepIn K (.ref f39)=true)
  (b40:FdB K zkq "check_round" f40)
  (i40:isFn K (.ref f40)=true)
  (l40:LkF K f40 "check_round" "Season.check_round" Xp oc40 kV40 dc40 pm40 cd40 ct40 od40 an40 sl40)
  (c40:codeIn K cd40 "Season.check_round"=true)
  (k40:keepIn K (.ref f40)=true)
  (b41:FdB K zkq "check_room" f41)
  (i41:isFn K (.ref f41)=true)
  (l41:LkF K f41 "check_room" "Season.check_room" Xx oc41 kV41 dc41 pm41 cd41 ct41 od41 an41 sl41)
  (c41:codeIn K cd41 "Season.check_room"=true)
  (k41:keepIn K (.ref f41)=true)
  (b42:FdB K zkq "note" f42)
  (i42:isFn K (.ref f42)=true)
  (l42:LkF K f42 "note" "Season.note" Uk oc42 kV42 dc42 pm42 cd42 ct42 od42 an42 sl42)
  (c42:codeIn K cd42 "Season.note"=true)
  (k42:keepIn K (.ref f42)=true)
  (b43:FdB K zkq "sheet_at_hand" f43)
  (i43:isFn K (.ref f43)=true)
  (l43:LkF K f43 "sheet_at_hand" "Season.sheet_at_hand" Xf oc43 kV43 dc43 pm43 cd43 ct43 od43 an43 sl43)
  (c43:codeIn K cd43 "Season.sheet_at_hand"=true)
  (k43:keepIn K (.ref f43)=true)
  (b44:FdB K zkq "sheet_of" f44)
  (i44:isFn K (.ref f44)=true)
  (l44:LkF K f44 "sheet_of" "Season.sheet_of" Wm oc44 kV44 dc44 pm44 cd44 ct44 od44 an44 sl44)
  (c44:codeIn K cd44 "Season.sheet_of"=true)
  (k44:keepIn K (.ref f44)=true)
  (b45:FdB K zkq "takers_of" f45)
  (i45:isFn K (.ref f45)=true)
  (l45:LkF K f45 "takers_of" "Season.takers_of" X9 oc45 kV45 dc45 pm45 cd45 ct45 od45 an45 sl45)
  (c45:codeIn K cd45 "Season.takers_of"=true)
  (k45:keepIn K (.ref f45)=true)
  (b46:FdB K zkq "enrol" f46)
  (i46:isFn K (.ref f46)=true)
  (l46:LkF K f46 "enrol" "Season.enrol" Vy oc46 kV46 dc46 pm46 cd46 ct46 od46 an46 sl46)
  (c46:codeIn K cd46 "Season.enrol"=true)
  (k46:keepIn K (.ref f46)=true)
  (b47:FdB K zkq "draw_up" f47)
  (i47:isFn K (.ref f47)=true)
  (l47:LkF K f47 "draw_up" "Season.draw_up" Wx oc47 kV47 dc47 pm47 cd47 ct47 od47 an47 sl47)
  (c47:codeIn K cd47 "Season.draw_up"=true)
  (k47:keepIn K (.ref f47)=true)
  (b48:FdB K zkq "away" f48)
  (i48:isFn K (.ref f48)=true)
  (l48:LkF K f48 "away" "Season.away" Ul oc48 kV48 dc48 pm48 cd48 ct48 od48 an48 sl48)
  (c48:codeIn K cd48 "Season.away"=true)
  (k48:keepIn K (.ref f48)=true)
  (b49:FdB K zkq "step_in" f49)
  (i49:isFn K (.ref f49)=true)
  (l49:LkF K f49 "step_in" "Season.step_in" Wy oc49 kV49 dc49 pm49 cd49 ct49 od49 an49 sl49)
  (c49:codeIn K cd49 "Season.step_in"=true)
  (k49:keepIn K (.ref f49)=true)
  (b50:FdB K zkq "close" f50)
  (i50:isFn K (.ref f50)=true)
  (l50:LkF K f50 "close" "Season.close" V0 oc50 kV50 dc50 pm50 cd50 ct50 od50 an50 sl50)
  (c50:codeIn K cd50 "Season.close"=true)
  (k50:keepIn K (.ref f50)=true)
  (b51:FdB K zkq "take_back" f51)
  (i51:isFn K (.ref f51)=true)
  (l51:LkF K f51 "take_back" "Season.take_back" Wa oc51 kV51 dc51 pm51 cd51 ct51 od51 an51 sl51)
  (c51:codeIn K cd51 "Season.take_back"=true)
  (k51:keepIn K (.ref f51)=true)
  (b52:FdB K zkq "at_hand" f52)
  (i52:isFn K (.ref f52)=true)
  (l52:LkF K f52 "at_hand" "Season.at_hand" Wz oc52 kV52 dc52 pm52 cd52 ct52 od52 an52 sl52)
  (c52:codeIn K cd52 "Season.at_hand"=true)
  (k52:keepIn K (.ref f52)=true)
  (b53:FdB K zkq "goes" f53)
  (i53:isFn K (.ref f53)=true)
  (l53:LkF K f53 "goes" "Season.goes" Um oc53 kV53 dc53 pm53 cd53 ct53 od53 an53 sl53)
  (c53:codeIn K cd53 "Season.goes"=true)
  (k53:keepIn K (.ref f53)=true)
  (b54:NsB K "_law_whole" f54)
  (l54:LkF K f54 "_law_whole" "_law_whole" T4 oc54 kV54 dc54 pm54 cd54 ct54 od54 an54 sl54)
  (c54:codeIn K cd54 "_law_whole"=true)
  (k54:keepIn K (.ref f54)=true)
  (b55:NsB K "_law_at" f55)
  (l55:LkF K f55 "_law_at" "_law_at" Nh oc55 kV55 dc55 pm55 cd55 ct55 od55 an55 sl55)
  (c55:codeIn K cd55 "_law_at"=true)
  (k55:keepIn K (.ref f55)=true)
  (b56:NsB K "_law_mix" f56)
  (l56:LkF K f56 "_law_mix" "_law_mix" Q5 oc56 kV56 dc56 pm56 cd56 ct56 od56 an56 sl56)
  (c56:codeIn K cd56 "_law_mix"=true)
  (k56:keepIn K (.ref f56)=true)
  (b57:NsB K "_law_numbers" f57)
  (l57:LkF K f57 "_law_numbers" "_law_numbers" Yi oc57 kV57 dc57 pm57 cd57 ct57 od57 an57 sl57)
  (c57:codeIn K cd57 "_law_numbers"=true)
  (k57:keepIn K (.ref f57)=true)
  (b58:NsB K "_law_clubs" f58)
  (l58:LkF K f58 "_law_clubs" "_law_clubs" Yy oc58 kV58 dc58 pm58 cd58 ct58 od58 an58 sl58)
  (c58:codeIn K cd58 "_law_clubs"=true)
  (k58:keepIn K (.ref f58)=true)
  (b59:NsB K "_law_one_is" f59)
  (l59:LkF K f59 "_law_one_is" "_law_one_is" Te oc59 kV59 dc59 pm59 cd59 ct59 od59 an59 sl59)
  (c59:codeIn K cd59 "_law_one_is"=true)
  (k59:keepIn K (.ref f59)=true)
  (b60:NsB K "_law_is_filling" f60)
  (l60:LkF K f60 "_law_is_filling" "_law_is_filling" W0 oc60 kV60 dc60 pm60 cd60 ct60 od60 an60 sl60)
  (c60:codeIn K cd60 "_law_is_filling"=true)
  (k60:keepIn K (.ref f60)=true)
  (b61:NsB K "_law_all_fillings" f61)
  (l61:LkF K f61 "_law_all_fillings" "_law_all_fillings" Wb oc61 kV61 dc61 pm61 cd61 ct61 od61 an61 sl61)
  (c61:codeIn K cd61 "_law_all_fillings"=true)
  (k61:keepIn K (.ref f61)=true)
  (b62:NsB K "_law_filled" f62)
  (l62:LkF K f62 "_law_filled" "_law_filled" Tf oc62 kV62 dc62 pm62 cd62 ct62 od62 an62 sl62)
  (c62:codeIn K cd62 "_law_filled"=true)
  (k62:keepIn K (.ref f62)=true)
  (b63:NsB K "_law_first" f63)
  (l63:LkF K f63 "_law_first" "_law_first" T5 oc63 kV63 dc63 pm63 cd63 ct63 od63 an63 sl63)
  (c63:codeIn K cd63 "_law_first"=true)
  (k63:keepIn K (.ref f63)=true)
  (b64:NsB K "_law_met" f64)
  (l64:LkF K f64 "_law_met" "_law_met" Q6 oc64 kV64 dc64 pm64 cd64 ct64 od64 an64 sl64)
  (c64:codeIn K cd64 "_law_met"=true)
  (k64:keepIn K (.ref f64)=true)
  (b65:NsB K "_law_bars" f65)
  (l65:LkF K f65 "_law_bars" "_law_bars" Rb oc65 kV65 dc65 pm65 cd65 ct65 od65 an65 sl65)
  (c65:codeIn K cd65 "_law_bars"=true)
  (k65:keepIn K (.ref f65)=true)
  (b66:NsB K "_law_open" f66)
  (l66:LkF K f66 "_law_open" "_law_open" Rc oc66 kV66 dc66 pm66 cd66 ct66 od66 an66 sl66)
  (c66:codeIn K cd66 "_law_open"=true)
  (k66:keepIn K (.ref f66)=true)
  (b67:NsB K "_law_paged" f67)
  (l67:LkF K f67 "_law_paged" "_law_paged" T6 oc67 kV67 dc67 pm67 cd67 ct67 od67 an67 sl67)
  (c67:codeIn K cd67 "_law_paged"=true)
  (k67:keepIn K (.ref f67)=true)
  (b68:NsB K "_law_matches" f68)
  (l68:LkF K f68 "_law_matches" "_law_matches" Yc oc68 kV68 dc68 pm68 cd68 ct68 od68 an68 sl68)
  (c68:codeIn K cd68 "_law_matches"=true)
  (k68:keepIn K (.ref f68)=true)
  (b69:NsB K "_law_do" f69)
  (l69:LkF K f69 "_law_do" "_law_do" Nm oc69 kV69 dc69 pm69 cd69 ct69 od69 an69 sl69)
  (c69:codeIn K cd69 "_law_do"=true)
  (k69:keepIn K (.ref f69)=true)
  (b70:NsB K "_law_deed" f70)
  (l70:LkF K f70 "_law_deed" "_law_deed" Rf oc70 kV70 dc70 pm70 cd70 ct70 od70 an70 sl70)
  (c70:codeIn K cd70 "_law_deed"=true)
  (k70:keepIn K (.ref f70)=true)
  (b71:NsB K "_law_pool" f71)
  (l71:LkF K f71 "_law_pool" "_law_pool" Xb oc71 kV71 dc71 pm71 cd71 ct71 od71 an71 sl71)
  (c71:codeIn K cd71 "_law_pool"=true)
  (k71:keepIn K (.ref f71)=true)
  (b72:NsB K "_law_people" f72)
  (l72:LkF K f72 "_law_people" "_law_people" Yb oc72 kV72 dc72 pm72 cd72 ct72 od72 an72 sl72)
  (c72:codeIn K cd72 "_law_people"=true)
  (k72:keepIn K (.ref f72)=true)
  (b73:NsB K "_law_enrolled" f73)
  (l73:LkF K f73 "_law_enrolled" "_law_enrolled" V4 oc73 kV73 dc73 pm73 cd73 ct73 od73 an73 sl73)
  (c73:codeIn K cd73 "_law_enrolled"=true)
  (k73:keepIn K (.ref f73)=true)
  (b74:NsB K "_law_rest" f74)
  (l74:LkF K f74 "_law_rest" "_law_rest" Xv oc74 kV74 dc74 pm74 cd74 ct74 od74 an74 sl74)
  (c74:codeIn K cd74 "_law_rest"=true)
  (k74:keepIn K (.ref f74)=true)
  (b75:NsB K "_law_rounds" f75)
  (l75:LkF K f75 "_law_rounds" "_law_rounds" Th oc75 kV75 dc75 pm75 cd75 ct75 od75 an75 sl75)
  (c75:codeIn K cd75 "_law_rounds"=true)
  (k75:keepIn K (.ref f75)=true)
  (b76:NsB K "_law_cell" f76)
  (l76:LkF K f76 "_law_cell" "_law_cell" Rg oc76 kV76 dc76 pm76 cd76 ct76 od76 an76 sl76)
  (c76:codeIn K cd76 "_law_cell"=true)
  (k76:keepIn K (.ref f76)=true)
  (b77:NsB K "law" f77)
  (l77:LkF K f77 "law" "law" J6 oc77 kV77 dc77 pm77 cd77 ct77 od77 an77 sl77)
  (c77:codeIn K cd77 "law"=true)
  (k77:keepIn K (.ref f77)=true)
  : ∃ fd:FuncData,(∀ (s:Shared) (v:Value),BindsTo s fd ⟨[v],[]⟩ [("_law_script",v)])/\∀ base:Heap,K.In base->base.Ns mainGlobals mg->Z3 l.prog w K mg base (CX1 l.prog w) 10 fa fd ["_law_script"] (A4 K):=by
 have e:=hfa.symm.trans (mg_of X G b77);cases e
 let a:Ad:=⟨zoa,zk7,zlk,zla,zlf,zlg,zmo,zmk,zlq,zmd,zlw,zlr,znj,zmp,zk4,zll,zkt,zku,zkv,zkq⟩
 have T:Tx K mg a:=⟨⟨zpn,zpe,zo7,zo4⟩,
  zm0,
  zlv,
  ⟨zpk,zpp,zph,zo5⟩,
  zlj,
  ⟨zp3,zp0,zpu,zpy⟩,
  zml,
  zo0,
  zmy,
  zof,
  ⟨zpl,zpi,zpa,zo9⟩,
  znf,
  zpb,
  zls,
  zly,
  zmm,
  znc,
  zle,
  zlm,
  ⟨mg_of X G zm9,zn9⟩,
  ⟨mg_of X G zlz,zmu⟩,
  ⟨mg_of X G zn5,zoq⟩,
  ⟨mg_of X G zmi,zng⟩,
  ⟨mg_of X G zlu,zmj⟩,
  ⟨mg_of X G zl2,zms⟩,
  ⟨mg_of X G zm8,zod⟩,
  ⟨mg_of X G zol,zo2⟩,
  ⟨mg_of X G zmz,znw⟩,
  ⟨mg_of X G zmn,znh⟩,
  ⟨mg_of X G zn4,zoo⟩,
  ⟨mg_of X G znq,zog⟩,
  ⟨mg_of X G zmx,zny⟩,
  ⟨mg_of X G zln,zl6⟩,
  mg_none_of X G zpq,
  mg_none_of X G zlc,
  mg_none_of X G zow,
  mg_none_of X G zmb,
  mg_none_of X G zm2,
  mg_none_of X G zl9,
  mg_none_of X G zqd,
  mg_none_of X G zlp,
  mg_none_of X G zp2,
  mg_none_of X G zp1,
  mg_none_of X G zp4,
  mg_none_of X G zqa,
  mg_of X G zoi,
  mg_of X G zm9,
  mg_of X G zmi,
  mg_of X G zlu,
  mg_of X G zl2,
  mg_of X G zlz,
  mg_of X G zn5,
  mg_of X G znu,
  mg_of X G zmz,
  mg_of X G znq,
  mg_of X G zm8,
  mg_of X G zmx,
  mg_of X G zol,
  mg_of X G zn4,
  mg_of X G zln,
  mg_of X G zmn,
  mg_of X G zov,
  mg_of X G zou,
  mg_of X G zpr,
  mg_of X G zox,
  ⟨_,mg_of X G zl7⟩,
  ⟨_,mg_of X G zl3⟩,
  ⟨_,mg_of X G zlx⟩,
  ⟨_,mg_of X G zli⟩,
  ⟨_,mg_of X G zlo⟩,
  ⟨_,mg_of X G zl8⟩,
  ⟨_,mg_of X G zm1⟩,
  ⟨_,mg_of X G zl4⟩⟩
 have F0:=Zq (st:=U7) l0 c0 k0;have F1:=Zq (st:=Qy) l1 c1 k1;have F2:=Zq (st:=O7) l2 c2 k2;have F3:=Zq (st:=Wj) l3 c3 k3;have F4:=Zq (st:=Vq) l4 c4 k4;have F5:=Zq (st:=Ud) l5 c5 k5;have F6:=Zq (st:=U8) l6 c6 k6;have F7:=Zq (st:=Ue) l7 c7 k7;have F8:=Zq (st:=Ug) l8 c8 k8;have F9:=Zq (st:=Vr) l9 c9 k9;have F10:=Zq (st:=Uh) l10 c10 k10;have F11:=Zq (st:=Qz) l11 c11 k11;have F12:=Zq (st:=Wk) l12 c12 k12;have F13:=Zq (st:=X7) l13 c13 k13;have F14:=Zq (st:=Xo) l14 c14 k14;have F15:=Zq (st:=U9) l15 c15 k15;have F16:=Zq (st:=W6) l16 c16 k16;have F17:=Zq (st:=Wv) l17 c17 k17;have F18:=Zq (st:=Vt) l18 c18 k18;have F19:=Zq (st:=W7) l19 c19 k19;have F20:=Zq (st:=Vu) l20 c20 k20;have F21:=Zq (st:=Ta) l21 c21 k21;have F22:=Zq (st:=Vv) l22 c22 k22;have F23:=Zq (st:=O8) l23 c23 k23;have F24:=Zq (st:=Kf) l24 c24 k24;have F25:=Zq (st:=Q4) l25 c25 k25;have F26:=Zq (st:=Eb) l26 c26 k26;have F27:=Zq (st:=S9) l27 c27 k27;have F28:=Zq (st:=Ww) l28 c28 k28;have F29:=Zq (st:=Vw) l29 c29 k29;have F30:=Zq (st:=X8) l30 c30 k30;have F31:=Zq (st:=W9) l31 c31 k31;have F32:=Zq (st:=Tb) l32 c32 k32;have F33:=Zq (st:=Ui) l33 c33 k33;have F34:=Zq (st:=Vx) l34 c34 k34;have F35:=Zq (st:=Tc) l35 c35 k35;have F36:=Zq (st:=Uj) l36 c36 k36;have F37:=Zq (st:=Wl) l37 c37 k37;have F38:=Zq (st:=Xa) l38 c38 k38;have F39:=Zq (st:=Xe) l39 c39 k39;have F40:=Zq (st:=Xp) l40 c40 k40;have F41:=Zq (st:=Xx) l41 c41 k41;have F42:=Zq (st:=Uk) l42 c42 k42;have F43:=Zq (st:=Xf) l43 c43 k43;have F44:=Zq (st:=Wm) l44 c44 k44;have F45:=Zq (st:=X9) l45 c45 k45;have F46:=Zq (st:=Vy) l46 c46 k46;have F47:=Zq (st:=Wx) l47 c47 k47;have F48:=Zq (st:=Ul) l48 c48 k48;have F49:=Zq (st:=Wy) l49 c49 k49;have F50:=Zq (st:=V0) l50 c50 k50;have F51:=Zq (st:=Wa) l51 c51 k51;have F52:=Zq (st:=Wz) l52 c52 k52;have F53:=Zq (st:=Um) l53 c53 k53;have F54:=Zq (st:=T4) l54 c54 k54;have F55:=Zq (st:=Nh) l55 c55 k55;have F56:=Zq (st:=Q5) l56 c56 k56;have F57:=Zq (st:=Yi) l57 c57 k57;have F58:=Zq (st:=Yy) l58 c58 k58;have F59:=Zq (st:=Te) l59 c59 k59;have F60:=Zq (st:=W0) l60 c60 k60;have F61:=Zq (st:=Wb) l61 c61 k61;have F62:=Zq (st:=Tf) l62 c62 k62;have F63:=Zq (st:=T5) l63 c63 k63;have F64:=Zq (st:=Q6) l64 c64 k64;have F65:=Zq (st:=Rb) l65 c65 k65;have F66:=Zq (st:=Rc) l66 c66 k66;have F67:=Zq (st:=T6) l67 c67 k67;have F68:=Zq (st:=Yc) l68 c68 k68;have F69:=Zq (st:=Nm) l69 c69 k69;have F70:=Zq (st:=Rf) l70 c70 k70;have F71:=Zq (st:=Xb) l71 c71 k71;have F72:=Zq (st:=Yb) l72 c72 k72;have F73:=Zq (st:=V4) l73 c73 k73;have F74:=Zq (st:=Xv) l74 c74 k74;have F75:=Zq (st:=Th) l75 c75 k75;have F76:=Zq (st:=Rg) l76 c76 k76;have F77:=Zq (st:=J6) l77 c77 k77;refine⟨fnOf "law" "law" (Tu J6) (Zs J6) (Zj J6) .none kV77 dc77 pm77 an77 cd77 ct77,fun s v=>.of_eq rfl,fun base _ _=>?_⟩
 have zpv:=nMk (C:=a.zkt) l.prog w base F3 (Og F3 T ) ⟨zpf,b3,i3,zpd⟩ (mg_of X G zov);have znn:=mMk (C:=a.zkt) l.prog w base F4 (Ln F4 T ) ⟨b4,i4,k4⟩;have zkw:=mMk (C:=a.zkt) l.prog w base F5 (Jn F5 T ) ⟨b5,i5,k5⟩;have zob:=mMk (C:=a.zkt) l.prog w base F6 (Io F6 T ) ⟨b6,i6,k6⟩;have zky:=dMk l.prog w base F7 (Jp F7 T ) (mg_of X G b7);have znz:=dMk l.prog w base F8 (Jq F8 T ) (mg_of X G b8);have znt:=dMk l.prog w base F10 (Jr F10 T ) (mg_of X G b10);have zps:=nMk (C:=a.zku) l.prog w base F12 (Oi F12 T ) ⟨zpm,b12,i12,zo8⟩ (mg_of X G zou);have zk6:=mMk (C:=a.zku) l.prog w base F14 (Rq F14 T ) ⟨b14,i14,k14⟩;have zm4:=mMk (C:=a.zku) l.prog w base F16 (Me F16 T ) ⟨b16,i16,k16⟩;have zl0:=mMk (C:=a.zku) l.prog w base F17 (O6 F17 T ) ⟨b17,i17,k17⟩;have znb:=dMk l.prog w base F20 (Lr F20 T ) (mg_of X G b20);have zoe:=dMk l.prog w base F21 (Ir F21 T ) (mg_of X G b21);have znl:=dMk l.prog w base F22 (Ls F22 T ) (mg_of X G b22);have zoy:=dMk l.prog w base F23 (zcb F23 T ) (mg_of X G b23);have zmr:=dMk l.prog w base F25 (Ab F25 T ) (mg_of X G b25);have zon:=dMk l.prog w base F27 (Co F27 T ) (mg_of X G b27);have zna:=nMk (C:=a.zkv) l.prog w base F28 (Na F28 T ) ⟨zp7,b28,i28,zp5⟩ (mg_of X G zpr);have zm3:=mMk (C:=a.zkv) l.prog w base F31 (Mi F31 T ) ⟨b31,i31,k31⟩;have zl5:=mMk (C:=a.zkv) l.prog w base F32 (Iv F32 T ) ⟨b32,i32,k32⟩;have znk:=mMk (C:=a.zkv) l.prog w base F34 (Ly F34 T ) ⟨b34,i34,k34⟩;have zn3:=mMk (C:=a.zkv) l.prog w base F35 (Iy F35 T ) ⟨b35,i35,k35⟩;have zk5:=mMk (C:=a.zkq) l.prog w base F40 (Rt F40 T ) ⟨b40,i40,k40⟩;have zkx:=mMk (C:=a.zkq) l.prog w base F41 (Ql F41 T ) ⟨b41,i41,k41⟩;have zld:=mMk (C:=a.zkq) l.prog w base F42 (Jx F42 T ) ⟨b42,i42,k42⟩;have zk2:=mMk (C:=a.zkq) l.prog w base F43 (Su F43 T ) ⟨b43,i43,k43⟩;have zmg:=dMk l.prog w base F54 (Ed F54 T ) (mg_of X G b54);have zkz:=dMk l.prog w base F55 (zcd F55 T ) (mg_of X G b55);have zl1:=dMk l.prog w base F56 (Ac F56 T ) (mg_of X G b56);have znx:=dMk l.prog w base F57 (J2 F57 T ) (mg_of X G b57);have zoj:=dMk l.prog w base F58 (Ee F58 T ) (mg_of X G b58);have zmc:=dMk l.prog w base F61 (Pj F61 T ) (mg_of X G b61);have zoc:=dMk l.prog w base F62 (Hg F62 T ) (mg_of X G b62);have zoh:=dMk l.prog w base F63 (Ef F63 T ) (mg_of X G b63);have zpj:=dMk l.prog w base F64 (Ae F64 T ) (mg_of X G b64);have zop:=dMk l.prog w base F65 (Cp F65 T ) (mg_of X G b65);have zm6:=dMk l.prog w base F0 (Il F0 T zkw zob) (mg_of X G b0);have zni:=dMk l.prog w base F9 (Lo F9 T zky) (mg_of X G b9);have zlb:=mMk (C:=a.zku) l.prog w base F13 (Pc F13 T zky) ⟨b13,i13,k13⟩;have zne:=mMk (C:=a.zku) l.prog w base F18 (Lq F18 T zk6) ⟨b18,i18,k18⟩;have zok:=dMk l.prog w base F24 (zeu F24 T znb zoe znl zoy) (mg_of X G b24);have zlt:=mMk (C:=a.zkv) l.prog w base F33 (Jt F33 T zon) ⟨b33,i33,k33⟩;have zme:=mMk (C:=a.zkq) l.prog w base F51 (Ph F51 T zm4) ⟨b51,i51,k51⟩;have zks:=mMk (C:=a.zkq) l.prog w base F52 (Ng F52 T zkw) ⟨b52,i52,k52⟩;have zn2:=dMk l.prog w base F59 (I9 F59 T zmg) (mg_of X G b59);have zmv:=dMk l.prog w base F60 (Nk F60 T zmg) (mg_of X G b60);have zmw:=dMk l.prog w base F66 (Cq F66 T zpj zop) (mg_of X G b66);have zn0:=dMk l.prog w base F68 (J5 F68 T zl1) (mg_of X G b68);have zos:=dMk l.prog w base F71 (Cs F71 T zkz zoj znx) (mg_of X G b71);have zn7:=dMk l.prog w base F72 (Hj F72 T zkz zl1) (mg_of X G b72);have zn8:=dMk l.prog w base F74 (Cu F74 T zkz) (mg_of X G b74);have zm7:=dMk l.prog w base F75 (Hn F75 T zkz) (mg_of X G b75);have zot:=dMk l.prog w base F76 (Cw F76 T zkz zl1) (mg_of X G b76);have zpg:=dMk l.prog w base F1 (B8 F1 T zm6) (mg_of X G b1);have zpo:=dMk l.prog w base F11 (Aa F11 T znz zni znt) (mg_of X G b11);have zn6:=mMk (C:=a.zku) l.prog w base F15 (Iq F15 T zlb) ⟨b15,i15,k15⟩;have zm5:=mMk (C:=a.zku) l.prog w base F19 (Mg F19 T zne) ⟨b19,i19,k19⟩;have zqf:=dMk l.prog w base F26 (zgf F26 T zmr zok) (mg_of X G b26);have zno:=mMk (C:=a.zkv) l.prog w base F29 (Lv F29 T zna) ⟨b29,i29,k29⟩;have zma:=mMk (C:=a.zkv) l.prog w base F30 (Pd F30 T zlt zmr zok zna) ⟨b30,i30,k30⟩;have zp6:=nMk (C:=a.zkq) l.prog w base F37 (Ol F37 T zky zps zpv) ⟨zo1,b37,i37,zo3⟩ (mg_of X G zox);have zk0:=mMk (C:=a.zkq) l.prog w base F38 (Sf F38 T zks) ⟨b38,i38,k38⟩;have zmh:=mMk (C:=a.zkq) l.prog w base F44 (Oo F44 T zk5 zkw zks zk2) ⟨b44,i44,k44⟩;have zmf:=dMk l.prog w base F67 (Eg F67 T zmw) (mg_of X G b67);have zor:=dMk l.prog w base F70 (Cr F70 T zn0) (mg_of X G b70);have zpw:=dMk l.prog w base F2 (zca F2 T zpg) (mg_of X G b2);have zns:=dMk l.prog w base F36 (Jv F36 T zna zqf) (mg_of X G b36);have zk1:=mMk (C:=a.zkq) l.prog w base F39 (Sr F39 T zk0) ⟨b39,i39,k39⟩;have znd:=mMk (C:=a.zkq) l.prog w base F50 (L6 F50 T zk0 zk2 znn zn3 zkw) ⟨b50,i50,k50⟩;have znr:=mMk (C:=a.zkq) l.prog w base F53 (J1 F53 T zmh zl5) ⟨b53,i53,k53⟩;have zk9:=mMk (C:=a.zkq) l.prog w base F45 (Pf F45 T zl0 zm5 zks zpw) ⟨b45,i45,k45⟩;have znm:=mMk (C:=a.zkq) l.prog w base F46 (L4 F46 T zk1 zlb zkx zld zks zn6) ⟨b46,i46,k46⟩;have zmt:=mMk (C:=a.zkq) l.prog w base F47 (Nb F47 T zk1 zpo zkx zld zks zns zk9 zl5) ⟨b47,i47,k47⟩;have zmq:=mMk (C:=a.zkq) l.prog w base F49 (Nd F49 T zk9 zm3 zlt zno zma znk) ⟨b49,i49,k49⟩;have znv:=mMk (C:=a.zkq) l.prog w base F48 (Jz F48 T zk5 zkw zk6 zkx zld zks zmq) ⟨b48,i48,k48⟩;have zn1:=dMk l.prog w base F69 (zch F69 T znm znv zmt znd zme) (mg_of X G b69);have znp:=dMk l.prog w base F73 (L9 F73 T zn1 zmf) (mg_of X G b73);exact zil F77 T zkz zp6 zn8 zm7 zos zoh znp zn7 zor zot zn1 zmf zmw znr zmv zoc zmc zn2 zks
theorem walk{l:OpenLaw}{q:Program}{loose:List Str}{XP:(Str->Option Value)->Heap->Prop}{YP:World->Heap->Prop}{d:DefRec}{K:Params->Frag}(hn:l.most=some 63)(hdf:d.params.defaults=[])
  (hY:∀ (w:World) (h:Heap),YP w h->(K w.params).In h)
  (F:∀ (w:World) (mg:Str->Option Value) (fa:Addr) (h:Heap),(K w.params).In h->h.Ns mainGlobals mg->mg d.name=some (.ref fa) ->
   ∃ fd:FuncData,(∀ (s:Shared) (u:Value),BindsTo s fd ⟨[u],[]⟩ [("_law_script",u)])/\∀ base:Heap,(K w.params).In base->base.Ns mainGlobals mg->Z3 l.prog w (K w.params) mg base (CX1 l.prog w) 10 fa fd ["_law_script"] (A4 (K w.params))) :
  WalkO q loose XP YP l.row.toRowW d [] (fun f vs=>PySem.call f vs) :=
 L2.zfk (n:=63) (k:=10) (x:="_law_script") (CX:=fun w=>CX1 l.prog w) (sp:=fun w=>A4 (K w.params)) hn (by decide) hdf ⟨rfl,by decide,by decide⟩ hY F (fun _ _ a ns hl _ hS=>⟨a,ns,rfl,hS,hl,fun _=>rfl⟩) fun _ _ _ _ _ z=>by obtain⟨_,_,_,_,_,_,_,_,_,_,z⟩:=z;exact z
end K34
open PySem PySem.W PyProof.Rows
namespace PySem.W.Fast
def tw5647793668409356524:=Nat
def tw17403907648525012828:=Nat
def tw17365348311823489519:=Nat
def tw12643377504611204866:=Nat
def tw2872240217615664723:=Nat
def tw14228832760190492787:=Nat
def tw679970621836047279:=Nat
def tw14978805357202909938:=Nat
def tw6793890464482683515:=Nat
def tw10463657729693265496:=Nat
def tw4432367517827601319:=Nat
def tw10463716285655071370:=Nat
def tw4597769007817552711:=Nat
def tw5422095278135968883:=Nat
def tw8183460084075587509:=Nat
def tw9331625646099172946:=Nat
def tw16035353914949370449:=Nat
def tw1002842063916432392:=Nat
def tw4956450112117734889:=Nat
def tw9276442572533408528:=Nat
def tw17241405902389814710:=Nat
def tw14589481250974099609:=Nat
def tw7290048675860735808:=Nat
def tw8629275346745928491:=Nat
def tw9456287429673915145:=Nat
def tw3333735807543752407:=Nat
def tw13883009328602718681:=Nat
def tw5215457814370535646:=Nat
def tw16708189464342280752:=Nat
def tw17863486441683386703:=Nat
def tw1200831674101989974:=Nat
def tw18379542101153095529:=Nat
def tw14400166689406007472:=Nat
def tw14142955862890344600:=Nat
def tw9873441880797974480:=Nat
def tw16790435330130007187:=Nat
def tw6857318417852406650:=Nat
def tw4983065278686206488:=Nat
def tw11759076488192338693:=Nat
def tw12914677378135659180:=Nat
def tw2226021114381488020:=Nat
def tw5821014523537456316:=Nat
def tw7405179446696819895:=Nat
def tw7368106019724187396:=Nat
def tw14898185476262871943:=Nat
def tw13758750690843287765:=Nat
def tw7365171319721310187:=Nat
def tw3917634116322258191:=Nat
def tw12230242448151871177:=Nat
def tw5426833940108991244:=Nat
def tw16423987925024333228:=Nat
def tw7014918014362736218:=Nat
def tw477594172234636459:=Nat
def tw14606224686385269837:=Nat
def tw1279414265743590112:=Nat
def tw465345682629456667:=Nat
def tw15511285965658692851:=Nat
def tw6690189348413297708:=Nat
def tw8587466811566031095:=Nat
def tw9915134452381840437:=Nat
def tw8009868984737222414:=Nat
def tw7169296658512131962:=Nat
def tw9264382993533605113:=Nat
def tw13538745838313571695:=Nat
def tw5314205346838283816:=Nat
def tw293741313328727008:=Nat
def tw4062490626740694863:=Nat
def tw13915478134055353363:=Nat
def tw5784089119387979921:=Nat
def tw13781018258629388695:=Nat
def tw3102355948013716351:=Nat
def tw9139413833818970934:=Nat
def tw17879902526046985888:=Nat
def tw7179454855029203489:=Nat
def tw11380714236402259956:=Nat
def tw81067491594110656:=Nat
def tw18005727278952082423:=Nat
def tw13192754874142150849:=Nat
def tw8584907334626402452:=Nat
def tw2229384907402054038:=Nat
def tw678190239459077455:=Nat
def tw876315160538513472:=Nat
def tw4592300177927417121:=Nat
def tw14344466563595769784:=Nat
def tw3081491256302906819:=Nat
def tw6328417955322689551:=Nat
def tw9838484375379647118:=Nat
def tw398704470005778685:=Nat
def tw11193635616468915081:=Nat
def tw8186715103900351330:=Nat
def tw9624497870528829551:=Nat
def tw9057337214915227551:=Nat
def tw14302962623559654442:=Nat
def tw6783510277449152900:=Nat
def tw17839618762071076747:=Nat
def tw14193496265832338048:=Nat
def tw13282300243451815880:=Nat
def tw2292674828929573873:=Nat
def tw11594510365867610602:=Nat
def tw2026348971168567452:=Nat
def tw16411575912294452722:=Nat
def tw4645772522624948849:=Nat
def tw7863282052706069265:=Nat
def tw15216746433057209171:=Nat
def tw14462320009833552137:=Nat
def tw15734438265322969311:=Nat
def tw6839012033588885992:=Nat
def tw12741414786782785262:=Nat
def tw8399026937481300139:=Nat
def tw18217450689142259964:=Nat
def tw7797918089576903317:=Nat
def tw16633846330012710902:=Nat
def tw8347270579168598372:=Nat
def tw2451044953803715368:=Nat
def tw13648558198251381431:=Nat
def tw12458414997318017632:=Nat
def tw10050637897729400162:=Nat
def tw10700057057884882373:=Nat
def tw11885138012069125953:=Nat
def tw15523495849396691749:=Nat
def tw3871680654759169707:=Nat
def tw6402174736983421462:=Nat
def tw13202870877483087511:=Nat
def tw16258423726657951762:=Nat
def tw2884556939317899227:=Nat
def tw12423984787718181075:=Nat
def tw673226662888708519:=Nat
def tw12967024395738007981:=Nat
def tw12074264002894424352:=Nat
def tw5280695178552756718:=Nat
def tw4058568769471648615:=Nat
def tw10505197268803469747:=Nat
def tw12308930172598525083:=Nat
def tw11931446114079809694:=Nat
def tw13425976579983559086:=Nat
def tw4670977731767271075:=Nat
def tw3610331434344756540:=Nat
def tw8012651878132481494:=Nat
def tw4358045421034763309:=Nat
def tw3358520672975578040:=Nat
def tw8583711834751231988:=Nat
def tw929878985630325745:=Nat
def tw14867421708116884293:=Nat
def tw18051065609291597759:=Nat
def tw5405369387047168086:=Nat
def tw9659764125026206645:=Nat
def tw8774870262119858976:=Nat
def tw17519687551625831118:=Nat
def tw8930452991358032614:=Nat
def tw8162274662457017646:=Nat
def tw11414566248411431063:=Nat
def tw9106784769713476429:=Nat
def tw17059318397615899426:=Nat
def tw13590199040507578246:=Nat
def tw14864975122976281292:=Nat
def tw2721123270985519430:=Nat
def tw15661677425936926237:=Nat
def tw4863816555596869769:=Nat
def tw2944240864190855187:=Nat
def tw1219095916287046833:=Nat
def tw15029416232232757441:=Nat
def tw15264058829144869511:=Nat
def tw13561020229276781193:=Nat
def tw13831930201751029310:=Nat
def tw8907932972749102891:=Nat
def tw17953471331056375808:=Nat
def tw2633506321729471813:=Nat
def tw11260116812245123944:=Nat
def tw10461738418855087755:=Nat
def tw3572500599089094481:=Nat
def tw13508540531800963577:=Nat
def tw16618061279049773845:=Nat
def tw8544044852531329857:=Nat
def tw1900996833795048386:=Nat
def tw2967727258832586179:=Nat
def tw7111845220300920949:=Nat
def tw12913506245665204297:=Nat
def tw7664183584139879808:=Nat
def tw9106048199002589008:=Nat
def tw1728766142326293549:=Nat
def tw13804375089527696151:=Nat
def tw6767400308862883536:=Nat
def tw12788097593483183163:=Nat
def tw11881293191004216616:=Nat
def tw11704024465950284201:=Nat
def tw8769238097578099923:=Nat
def tw648249316812433310:=Nat
def tw5952630726201430870:=Nat
def tw660778694211301837:=Nat
def tw15695933160436290671:=Nat
def tw12773471145774986675:=Nat
def tw5522523276383721546:=Nat
def tw14751760941504566029:=Nat
def tw7794674489711298753:=Nat
def tw15615138128861037665:=Nat
def tw5857091173656280261:=Nat
def tw2408982078225243905:=Nat
def tw8599563812760117943:=Nat
def tw11559007160853540796:=Nat
def tw12665401485923166602:=Nat
def tw11237912256008169489:=Nat
def tw512522587169102126:=Nat
def tw10350417021864682907:=Nat
def tw6784581969384207616:=Nat
def tw1302482965648581821:=Nat
def tw12027046869593570829:=Nat
def tw6258257627901609268:=Nat
def tw13978129596532771806:=Nat
def tw15579702096974693506:=Nat
def tw15608679459529331462:=Nat
def tw1301794018876798315:=Nat
def tw2823378555017453534:=Nat
def tw713343708472434033:=Nat
def tw15859515012652477856:=Nat
def tw17023680218361000614:=Nat
def tw7237181609721617015:=Nat
def tw5727783451950346605:=Nat
def tw15176954986054752678:=Nat
def tw1215831737275342215:=Nat
def tw5341370702665318268:=Nat
def tw6574202305005306875:=Nat
def tw13207075016080361744:=Nat
def tw18330382987460642622:=Nat
def tw2483072470330011956:=Nat
def tw8876185298817023165:=Nat
def tw3852376239169808552:=Nat
def tw6720055854487141049:=Nat
def tw11301981385553403573:=Nat
def tw14152353943643907518:=Nat
def tw15390598698471184846:=Nat
def tw3084298443769914881:=Nat
def tw982011850361754886:=Nat
def tw6485575347367842688:=Nat
def tw12833669055454799785:=Nat
def tw1164717001626995993:=Nat
def tw3023934632122199037:=Nat
def tw14826572597635464724:=Nat
def tw8592421827453330681:=Nat
def tw7419123279000232756:=Nat
def tw504939919202827908:=Nat
def tw2990973823812364668:=Nat
def tw972604753649822076:=Nat
def tw4957585454568586024:=Nat
def tw13370390846574467884:=Nat
def tw12697950428878771951:=Nat
def tw11191126478105114023:=Nat
def tw15561654854821205005:=Nat
def tw17179537593341528975:=Nat
def tw9307352263142527106:=Nat
def tw12531810379815934690:=Nat
def tw11236360397730109783:=Nat
def tw17789579153285296146:=Nat
def tw17390303170417081590:=Nat
def tw4549802712892193484:=Nat
def tw7953544834975540775:=Nat
def tw11733138740044121993:=Nat
def tw1558456942823963780:=Nat
def tw5482938168381317058:=Nat
def tw6356595068541699166:=Nat
def tw6642503703432599626:=Nat
def tw2358289883942089894:=Nat
def tw9453472001753532361:=Nat
def tw8277436975900604464:=Nat
def tw14287627114126982432:=Nat
def tw10491441216384032317:=Nat
def tw12529369447723230004:=Nat
def tw11245329836669593320:=Nat
def tw3534054029598849154:=Nat
def tw84097801240651556:=Nat
def tw1653646714070626497:=Nat
def tw10615471420733171295:=Nat
def tw9132743362737143471:=Nat
def tw4302648577527555742:=Nat
def tw5586919186940282535:=Nat
def tw3585055711695327542:=Nat
def tw10166396036819725305:=Nat
def tw16018098555250160976:=Nat
def tw404935436456142433:=Nat
def tw4883295225487104104:=Nat
def tw1275301651884050210:=Nat
def tw1342688593013794424:=Nat
def tw15584720763817000068:=Nat
def tw6004092410299177893:=Nat
def tw8773120911772238872:=Nat
def tw15633554962465174898:=Nat
def tw4966419173278479282:=Nat
def tw8464241162088024611:=Nat
def tw13644035598284660116:=Nat
def tw14623516193750141560:=Nat
def tw5917216354502352753:=Nat
def tw16981208994122672561:=Nat
def tw16407893342086828778:=Nat
def tw2532471569961738101:=Nat
def tw10413400539600344196:=Nat
def tw4591948584782468289:=Nat
def tw12917175503186442401:=Nat
def tw17581855992248706655:=Nat
def tw6658742550581050986:=Nat
def tw3184018019987643886:=Nat
def tw12795138329969083594:=Nat
def tw5493846450272161888:=Nat
def tw1525286964160423920:=Nat
def tw1859921070346936124:=Nat
def tw4232818835515067013:=Nat
def tw9377600336304411924:=Nat
def tw10110259521865152444:=Nat
def tw14728677856270834872:=Nat
def tw13918424241193845372:=Nat
def tw17381145800277229542:=Nat
def tw10403285222582716211:=Nat
def tw16878216862443797450:=Nat
def tw18314012572824799696:=Nat
def tw7231168438052179439:=Nat
def tw479670344368570699:=Nat
def tw12464754187155493817:=Nat
def tw8746238908702839627:=Nat
def tw215512600967822797:=Nat
def tw5493565157322882122:=Nat
def tw8326687069903006927:=Nat
def tw4468876483635863996:=Nat
def tw8658069094978622785:=Nat
def tw12510794318962003746:=Nat
def tw15054870560366447440:=Nat
def tw7848249250199488026:=Nat
def tw138552680063217596:=Nat
def tw8489240198076089834:=Nat
def tw16052516630377785911:=Nat
def tw16027047863577870445:=Nat
def tw16886610957642236737:=Nat
def tw11424436417112823300:=Nat
def tw1539729186888031004:=Nat
def tw16300199080638320426:=Nat
def tw1278102054254085143:=Nat
def tw15965353499075668396:=Nat
def tw1920344431411612815:=Nat
def tw4583362147310309003:=Nat
def tw6444209544299981502:=Nat
def tw16920442868038399378:=Nat
def tw16973093291283878513:=Nat
def tw16639305339513356574:=Nat
def tw13722868967610834206:=Nat
def tw6338286889452594016:=Nat
def tw7506256051317981695:=Nat
def tw3079624922508107675:=Nat
def tw7412119434177051441:=Nat
def tw13928092648326484716:=Nat
def tw15675955911592254784:=Nat
def tw5095975009530466702:=Nat
def tw5935146547733110047:=Nat
def tw16557396041112215178:=Nat
def tw15591131528661954951:=Nat
def tw15613041213685024434:=Nat
def tw8768556961436259429:=Nat
def tw13073607475547661077:=Nat
def tw16778255214801028581:=Nat
def tw6557463251293965766:=Nat
def tw2403439309828965780:=Nat
def tw15065608052852421360:=Nat
def tw2787532737041212707:=Nat
def tw461363188461417672:=Nat
def tw1959487534215180937:=Nat
def tw6202447054743349574:=Nat
def tw6854518876022628107:=Nat
def tw157991585917402363:=Nat
def tw5192455031287405318:=Nat
def tw5407344604689418578:=Nat
def tw7107731546342420459:=Nat
def tw11231544655549688217:=Nat
def tw4545311823653507992:=Nat
def tw6004178024408176459:=Nat
def tw3245978688004686101:=Nat
def tw11340812562304982340:=Nat
def tw4043479231932638700:=Nat
def tw12377930666979185637:=Nat
def tw1244305022519406636:=Nat
def tw2357857482851583453:=Nat
def tw1395764815976882857:=Nat
def tw14489552822319727451:=Nat
def tw5186886671423101758:=Nat
def tw4790397521471913010:=Nat
def tw16411678964051829188:=Nat
def tw3404597609070388804:=Nat
def tw2133148150544413626:=Nat
def tw3553451614841684328:=Nat
def tw872694054998525678:=Nat
def tw5870591898329444533:=Nat
def tw13407872861909304413:=Nat
def tw2295418372728964979:=Nat
def tw16177633523846606582:=Nat
def tw12805297698413942400:=Nat
def tw3386842502191810698:=Nat
def tw3383339993732784800:=Nat
def tw3919751605426268338:=Nat
def tw3146869351703627809:=Nat
def tw10817068714450400473:=Nat
def tw14248835833313982089:=Nat
def tw7067882251751806698:=Nat
def tw18229872147667178826:=Nat
def tw2564704750556369260:=Nat
def tw10285633238032006924:=Nat
def tw8147424034997776526:=Nat
def tw16826826736668379035:=Nat
def tw10198261215016784108:=Nat
def tw6236514608238343460:=Nat
def tw9120428827900950927:=Nat
def tw4139939007532639284:=Nat
def tw6775274318704475026:=Nat
def tw16993877438718669611:=Nat
def tw130843572155690559:=Nat
def tw3592977626748883671:=Nat
def tw9154856355417995157:=Nat
def tw8444776741813427518:=Nat
def tw12098718999140732876:=Nat
def tw3154989115881452694:=Nat
def tw11697384665282360960:=Nat
def tw5755472449186813075:=Nat
def tw9551653952450372397:=Nat
def tw17115619776976623606:=Nat
def tw2354617754990929973:=Nat
def tw12316829572156291722:=Nat
def tw3000018312443213527:=Nat
def tw8936960605471750772:=Nat
def tw9496134919834858986:=Nat
def tw4630112689130731664:=Nat
def tw15430511264473481289:=Nat
def tw11268273486498299871:=Nat
def tw10133053995251443352:=Nat
def tw3353240486597829564:=Nat
def tw16305870079582747429:=Nat
def tw6149640477776283144:=Nat
def tw12004031298091084362:=Nat
def tw11979250925552065345:=Nat
def tw5661132066579988843:=Nat
def tw2320190560655077511:=Nat
def tw15859794614462437071:=Nat
def tw13599302064787876988:=Nat
def tw11481455810089844138:=Nat
def tw18056115124195123207:=Nat
def tw13131553823664603475:=Nat
def tw8160009103720779189:=Nat
def tw693387315971852934:=Nat
def tw6289391007260243831:=Nat
def tw18134301037818111229:=Nat
def tw1164581825282242196:=Nat
def tw13293879818410499034:=Nat
def tw1883843729832226422:=Nat
def tw14317361842735170098:=Nat
def tw16110646028054886967:=Nat
def tw107966091232760756:=Nat
def tw7130979464396527260:=Nat
def tw4795517078690697247:=Nat
def tw7427754216871200014:=Nat
def tw14428150695542560485:=Nat
def tw57301132329083416:=Nat
def tw5981582928186162314:=Nat
def tw4707322638077157405:=Nat
def tw6327222914097358912:=Nat
def tw3380596772064241091:=Nat
def tw5864242005104559873:=Nat
def tw7610141721981941552:=Nat
def tw12842265403027646598:=Nat
def tw2643141069596736042:=Nat
def tw538651761535639964:=Nat
def tw15024160687177079094:=Nat
def tw13528350534586220644:=Nat
def tw743869016608419168:=Nat
def tw5431566792318809772:=Nat
def tw13174317556167382432:=Nat
def tw9552144179138422428:=Nat
def tw7317492979921759644:=Nat
def tw3934946784989751597:=Nat
def tw5908154027616039685:=Nat
def tw3296186091370900865:=Nat
def tw14846369012414810469:=Nat
def tw2532743306033549347:=Nat
def tw17406670601360819603:=Nat
def tw7978188730108553176:=Nat
def tw4968678620969613680:=Nat
def tw15647219273244854675:=Nat
def tw17916112525633822924:=Nat
def tw14675922415330051138:=Nat
def tw17239342941839134489:=Nat
def tw6667188845836364061:=Nat
def tw13848238113111207741:=Nat
def tw16058282347490445748:=Nat
def tw15793739706902024612:=Nat
def tw6572478259624781288:=Nat
def tw7744881413137942871:=Nat
def tw8540981132014458104:=Nat
def tw259084183927036855:=Nat
def tw2249755755685644259:=Nat
def tw4375959518401462756:=Nat
def tw4809387807931703006:=Nat
def tw17289715767780813418:=Nat
def tw686306075599118265:=Nat
def tw16719072972334449441:=Nat
def tw17388461723256286260:=Nat
def tw15166742582972657456:=Nat
def tw17462631876526647932:=Nat
def tw3078823286899569846:=Nat
def tw2622776240855435267:=Nat
def tw14563486145651033293:=Nat
def tw14882666820524193907:=Nat
def tw1215180031933516297:=Nat
def tw12962179909681858280:=Nat
def tw5657106688829434578:=Nat
def tw9649355609883943269:=Nat
def tw10800122514081730467:=Nat
def tw13216391010365409095:=Nat
def tw671131361606494067:=Nat
def tw17969915086446013895:=Nat
def tw8296525815197552820:=Nat
def tw6266016167631089535:=Nat
def tw9337492784382754070:=Nat
def tw12065284679299600606:=Nat
def tw41653118893294119:=Nat
def tw16245236631700529121:=Nat
def tw17250974682121202798:=Nat
def tw17575607460853873314:=Nat
def tw8996979014284490687:=Nat
def tw11166509040711206714:=Nat
def tw3539914244207934221:=Nat
def tw5253649326815104742:=Nat
def tw15821876863188018761:=Nat
def tw7462203914370694099:=Nat
def tw8824677502385880712:=Nat
def tw7320298728310002374:=Nat
def tw2024134521441412105:=Nat
def tw7506307096720974687:=Nat
def tw17803027606038484435:=Nat
def tw17413547790411901568:=Nat
def tw9296662564886332097:=Nat
def tw2511888044310501366:=Nat
def tw13742692476772715961:=Nat
def tw13413093610323922317:=Nat
def tw1942446411370778286:=Nat
def tw8690449155552892158:=Nat
def tw6985716174285535004:=Nat
def tw2108820755311810827:=Nat
def tw14363979555499581084:=Nat
def tw2613937775477246285:=Nat
def tw4607364287495393128:=Nat
def tw303703665407982312:=Nat
def tw10019013167117982265:=Nat
def tw92408106871794319:=Nat
def tw15431366393934275246:=Nat
def tw11044685334227449438:=Nat
def tw16942175424470793950:=Nat
def tw15598551142158479348:=Nat
def tw15271336119903856720:=Nat
def tw16009989831650593916:=Nat
def tw5944913979865052861:=Nat
def tw712654714619680644:=Nat
def tw5781002844271163345:=Nat
def tw15331200372167460408:=Nat
def tw14518111986913632288:=Nat
def tw18313159176004180623:=Nat
def tw7702865768455221540:=Nat
def tw2044774258389153838:=Nat
def tw12541064422033600726:=Nat
def tw12916013633112962237:=Nat
def tw4325822966419909064:=Nat
def tw107716584826589014:=Nat
def tw1125088890513660335:=Nat
def tw7457134977162674910:=Nat
def tw15829875695128096348:=Nat
def tw682486829383010315:=Nat
def tw17444490144623011054:=Nat
def tw4753710599916609815:=Nat
def tw13839170762114411085:=Nat
def tw5412325720106145632:=Nat
def tw16363542053592557561:=Nat
def tw2558229553277677169:=Nat
def tw10683253207391530454:=Nat
def tw14735329297621957213:=Nat
def tw8939697883254711594:=Nat
def tw13792633523871534570:=Nat
def tw3329577781914060901:=Nat
def tw3113578763823699597:=Nat
def tw345849683944269940:=Nat
def tw9762217752467714665:=Nat
def tw15048388987740519143:=Nat
def tw1081110003456585265:=Nat
def tw3690111635656217718:=Nat
def tw17032300164106835554:=Nat
def tw16848020274211196995:=Nat
def tw15433535773137930069:=Nat
def tw2743719136722892777:=Nat
def tw7809384907455262734:=Nat
def tw16748231474961746793:=Nat
def tw15172587399341154895:=Nat
def tw15975082578700788119:=Nat
def tw2241864122173977229:=Nat
def tw11438416196181158945:=Nat
def tw17179389832705497941:=Nat
def tw7961351344603726008:=Nat
def tw17782379913255172877:=Nat
def tw5262692257400343345:=Nat
def tw12563161638049682516:=Nat
def tw16891266540196616427:=Nat
def tw4432846698855737801:=Nat
def tw8191217572543075848:=Nat
def tw256479347243158964:=Nat
def tw6916531188968609236:=Nat
def tw5313287430441792900:=Nat
def tw2472773644648596187:=Nat
def tw16000363587406565495:=Nat
def tw10498825840944414667:=Nat
def tw13565072715254993570:=Nat
def tw4093292467524264987:=Nat
def tw10141409099511566105:=Nat
def tw3285187458143611418:=Nat
def tw14629847363494931459:=Nat
def tw8826790802640289549:=Nat
def tw2908821004881167137:=Nat
def tw9505789773206438290:=Nat
def tw6427702821636730358:=Nat
def tw5727455086361537849:=Nat
def tw8794752207585307371:=Nat
def tw11216796862856102481:=Nat
def tw8602820172751951671:=Nat
def tw13305282715243443049:=Nat
def tw7228356847691321797:=Nat
def tw4455811629469890525:=Nat
def tw1236098518177916094:=Nat
def tw10819007752747769824:=Nat
def tw12718355195257965077:=Nat
def tw13655391702274717083:=Nat
def tw10733275664088948330:=Nat
def tw8485417885795787212:=Nat
def tw11163244943884072810:=Nat
def tw14631672505945099177:=Nat
def tw7095577652387639523:=Nat
def tw6480824977548038265:=Nat
def tw8313677223090762351:=Nat
def tw211349183716518770:=Nat
def tw3999664068585159863:=Nat
def tw18352528411037456093:=Nat
def tw10507345878149321341:=Nat
def tw5738400363020182966:=Nat
def tw2871778315713682890:=Nat
def tw4129526324695315316:=Nat
def tw12238949958873520696:=Nat
def tw11401581751109886894:=Nat
def tw8001968810579539461:=Nat
def tw1654038825448524203:=Nat
def tw15652924619849364454:=Nat
def tw6204509417695470068:=Nat
def tw11849991927592416934:=Nat
def tw47632330049475704:=Nat
def tw12375367647270153629:=Nat
def tw3298290375133161609:=Nat
def tw11226292423724439958:=Nat
def tw8973415018029677782:=Nat
def tw3095994101087681207:=Nat
def tw7319065506407436460:=Nat
def tw5063060312539385621:=Nat
def tw5909120339129152808:=Nat
def tw5581858934821078421:=Nat
def tw3241736635789701990:=Nat
def tw8594335045415774930:=Nat
def tw13033981272108983460:=Nat
def tw1479952538183858081:=Nat
def tw17472070986232336200:=Nat
def tw12204835718387486572:=Nat
def tw13483429591027333441:=Nat
def tw9373299158938044817:=Nat
def tw746969276500426949:=Nat
def tw1207030815742836631:=Nat
def tw3481330121013249660:=Nat
def tw9354617401420630621:=Nat
def tw1474649853115919935:=Nat
def tw7742756330296943856:=Nat
def tw15676676248542515718:=Nat
def tw14078129700222355867:=Nat
def tw9232511906149776808:=Nat
def tw16225657999932728855:=Nat
def tw13323668922216376482:=Nat
def tw13043407234755325572:=Nat
def tw15562620818203484295:=Nat
def tw6580534944033991124:=Nat
def tw6155256816344275713:=Nat
def tw18242488741643912575:=Nat
def tw15292705037365127482:=Nat
def tw2992970611044595905:=Nat
def tw11748550977915973554:=Nat
def tw52097758649904942:=Nat
def tw13851869415595618631:=Nat
def tw18016995461929579612:=Nat
def tw13521153135857528546:=Nat
def tw16513918525955565301:=Nat
def tw11760496779973571887:=Nat
def tw675717452011363192:=Nat
def tw10085839769948766168:=Nat
def tw8862939349333863670:=Nat
def tw12196144741769865506:=Nat
def tw13442742371198176243:=Nat
def tw14725388108366659846:=Nat
def tw14500727636061343103:=Nat
def tw10502533656160081648:=Nat
def tw10401228570211918050:=Nat
def tw11063390546863098108:=Nat
def tw2841216559749351324:=Nat
def tw8890644665686241067:=Nat
def tw1320867648882627917:=Nat
def tw17563582625145745830:=Nat
def tw9916648626843069024:=Nat
def tw15925723450054205267:=Nat
def tw11123268546454949455:=Nat
def tw14548708128481233182:=Nat
def tw4053611514035889169:=Nat
def tw11082265221855502469:=Nat
def tw5981680049427434677:=Nat
def tw14829983262929113140:=Nat
def tw7041255795676370622:=Nat
def tw14188090588845851987:=Nat
def tw8070403736637261750:=Nat
def tw17209365912993363532:=Nat
def tw5619470099311233282:=Nat
def tw12008793718306364024:=Nat
def tw15172793207851313095:=Nat
def tw1198703694992762179:=Nat
def tw16397930313241910895:=Nat
def tw14463907600359275573:=Nat
def tw18244745011165890234:=Nat
def tw10438829530267800250:=Nat
def tw2529282637779091019:=Nat
def tw17097351276975700892:=Nat
def tw7115760510768433720:=Nat
def tw16017053413832492962:=Nat
def tw3394619541233435892:=Nat
def tw12509378255923227234:=Nat
def tw8819082086055651743:=Nat
def tw173352132328183367:=Nat
def tw6425836312913906521:=Nat
def tw11897861281548624381:=Nat
def tw7583977718539565126:=Nat
def tw3456560717661211144:=Nat
def tw7150944488683141857:=Nat
def tw10406153873833075494:=Nat
def tw9744892902723151521:=Nat
def tw8718173187570771016:=Nat
def tw6223244914233460269:=Nat
def tw5509330416227768805:=Nat
def tw6441110304573740246:=Nat
def tw8814674759704438963:=Nat
def tw10909529299951540886:=Nat
def tw2194121318012241887:=Nat
def tw4622575262021025494:=Nat
def tw16094175904030383588:=Nat
def tw11356553507694727042:=Nat
def tw2592937154941405035:=Nat
def tw14276011799800493474:=Nat
def tw10166610612104556959:=Nat
def tw6880756350072945018:=Nat
def tw9982316659214313077:=Nat
def tw9313266680831411021:=Nat
def tw9399098576584073968:=Nat
def tw1528611327280502299:=Nat
def tw15704912782579982576:=Nat
def tw15969470127254522482:=Nat
def tw9016146393491263343:=Nat
def tw1560507419503112971:=Nat
def tw18196563790533059280:=Nat
def tw2839260016358663093:=Nat
def tw8025185684627473718:=Nat
def tw6737372188661947020:=Nat
def tw5718551323130058209:=Nat
def tw8039107257374153717:=Nat
def tw1645168098735245136:=Nat
def tw11118714162086530484:=Nat
def tw43855546689818980:=Nat
def tw2589904791469353839:=Nat
def tw6332881433750117487:=Nat
def tw5413991844501318208:=Nat
def tw9679183543037571663:=Nat
def tw16606212123061564884:=Nat
def tw15990356698022200822:=Nat
def tw301252508161825926:=Nat
def tw1742019791739826563:=Nat
def tw398218359914103626:=Nat
def tw1345886808955426123:=Nat
def tw5776485198121623394:=Nat
def tw7893459276538124774:=Nat
def tw1246081478402637766:=Nat
def tw18058486515454893504:=Nat
def tw6613736862681348510:=Nat
def tw9065570930443667697:=Nat
def tw2717225953028548026:=Nat
def tw16179125431062623671:=Nat
def tw2653395347897501879:=Nat
def tw6373968688516878007:=Nat
def tw9158453536599241084:=Nat
def tw16739411190019529525:=Nat
def tw13407353451518933449:=Nat
def tw14618111640960175355:=Nat
def tw5883191150001900406:=Nat
def tw10081866595004099406:=Nat
def tw14464726609816727599:=Nat
def tw2822938798092157120:=Nat
def tw14563104002464006486:=Nat
def tw12998287230376627443:=Nat
def tw13100980466446207045:=Nat
def tw13886937993478965675:=Nat
def tw13840951815597520503:=Nat
def tw13736742241453581975:=Nat
def tw15878983770777847077:=Nat
def tw15849800583127995105:=Nat
def tw16358843158800784983:=Nat
def tw6082585416612426884:=Nat
def tw14131299950788229033:=Nat
def tw7380135209252651314:=Nat
def tw8139051482660824200:=Nat
def tw12000063977697141242:=Nat
def tw5049057631727459273:=Nat
def tw9932289208042930328:=Nat
def tw8710827552681702152:=Nat
def tw3183730810412741982:=Nat
def tw16399175013333130609:=Nat
def tw14452769850906556053:=Nat
def tw2651962929051670295:=Nat
def tw13816515790516239945:=Nat
def tw14314054456986363182:=Nat
def tw4554302100571566364:=Nat
def tw18294400094918593721:=Nat
def tw7473250687802460186:=Nat
def tw2163048571662272876:=Nat
def tw8409429877224074201:=Nat
def tw7895538179848883297:=Nat
def tw3686613324188569479:=Nat
def tw10613055451788447686:=Nat
def tw13504603022712584747:=Nat
def tw13486970181272025533:=Nat
def tw8181164799383088434:=Nat
def tw14119588945254773399:=Nat
def tw9673746804851530649:=Nat
def tw11464422179940126545:=Nat
def tw14930333886235206385:=Nat
def tw10946591096122037927:=Nat
def tw16999026705884330646:=Nat
def tw6151544361273622723:=Nat
def tw3378875546958528889:=Nat
def tw7055865832735142059:=Nat
def tw164839301061393466:=Nat
def tw16774909477459237818:=Nat
def tw1555595391688153538:=Nat
def tw9436746448424134625:=Nat
def tw5124111744588321511:=Nat
def tw6721973628591341255:=Nat
def tw12520598353533991314:=Nat
def tw17149336531244341688:=Nat
def tw3215252107749453037:=Nat
def tw14326262015380000528:=Nat
def tw4102710738342721305:=Nat
def tw8859929825229520110:=Nat
def tw6218212459700842465:=Nat
def tw15109695567142080910:=Nat
def tw2219862803627374359:=Nat
def tw11439033347358352017:=Nat
def tw4532303253521872976:=Nat
def tw12567019745794807444:=Nat
def tw15921414941978135200:=Nat
def tw15531725481229023471:=Nat
def tw6958588646222421138:=Nat
def tw16429795911567267575:=Nat
def tw13086998229009535336:=Nat
def tw3134607822526771025:=Nat
def tw17635854150023996506:=Nat
def tw5646882999023817675:=Nat
def tw12524650466176740390:=Nat
def tw3421878574687369726:=Nat
def tw4838697376592134105:=Nat
def tw5398817234777997481:=Nat
def tw7623478304074729489:=Nat
def tw2962435148018646537:=Nat
def tw2624588551311355198:=Nat
def tw13837398933385238915:=Nat
def tw2152023501021372196:=Nat
def tw17372489930881471235:=Nat
def tw247939941032109484:=Nat
def tw5001317418668859905:=Nat
def tw3749242627812152767:=Nat
def tw8244742153342686856:=Nat
def tw17386945251918316766:=Nat
def tw16407727584463937955:=Nat
def tw15033831213256624301:=Nat
def tw13124580767329195943:=Nat
def tw4034488227456200227:=Nat
def tw4780844010603625638:=Nat
def tw9214988242519327980:=Nat
def tw12537421526695675792:=Nat
def tw2047443727624215186:=Nat
def tw10544036642412966794:=Nat
def tw12415550043183716289:=Nat
def tw160036456121750247:=Nat
def tw12771752609376476094:=Nat
def tw12596736964501184003:=Nat
def tw3366726012777548080:=Nat
def tw742137600561206848:=Nat
def tw18008782451714005448:=Nat
def tw11217959381111458826:=Nat
def tw9697988993633609592:=Nat
def tw8806194379687363011:=Nat
def tw12105565313710050669:=Nat
def tw16607235319681417705:=Nat
def tw12508004720131392001:=Nat
def tw4925175206754917513:=Nat
def tw3593172222035464755:=Nat
def tw15994502379235636026:=Nat
def tw8153087965795178365:=Nat
def tw222608857866790802:=Nat
def tw9417202711932768287:=Nat
def tw5606356269328537599:=Nat
def tw311366800507742960:=Nat
def tw2986176383575130801:=Nat
def tw15153356692247737926:=Nat
def tw3970451316461395015:=Nat
def tw14249988879179391477:=Nat
def tw10374671029263447985:=Nat
def tw15331249585053522889:=Nat
def tw5894364608675341906:=Nat
def tw3883370437431413547:=Nat
def tw16797499807282465589:=Nat
def tw158296894008864218:=Nat
def tw1623071489843017932:=Nat
def tw10412632294228561793:=Nat
def tw6840174530911098667:=Nat
def tw11270139306096832952:=Nat
def tw17464982071289328047:=Nat
def tw14917164470249749594:=Nat
def tw6207507307337720895:=Nat
def tw17250123295577693307:=Nat
def tw2053400290596784646:=Nat
def tw6751110107073600177:=Nat
def tw1574124891364186895:=Nat
def tw10845572310482809846:=Nat
def tw9865219297621535583:=Nat
def tw8825552398989463351:=Nat
def tw733315690180063861:=Nat
def tw7462999985594456706:=Nat
def tw17063429893714998258:=Nat
def tw5391482449938180325:=Nat
def tw13824482445510430433:=Nat
def tw16842458061269560310:=Nat
def tw9272510836968897135:=Nat
def tw13076051606295163266:=Nat
def tw2937585258455087888:=Nat
def tw15159506756965478259:=Nat
def tw1224208023425993519:=Nat
def tw18390437630760990010:=Nat
def tw3306949071653037128:=Nat
def tw2024295852556357682:=Nat
def tw11450464600880155425:=Nat
def tw4418087429483430594:=Nat
def tw4608839726211492119:=Nat
def tw3132232067179429266:=Nat
def tw14907288887093310350:=Nat
def tw10054731587878060935:=Nat
def tw15423993858511219646:=Nat
def tw8188633518115987615:=Nat
def tw6608766430184105903:=Nat
def tw12720874477631239052:=Nat
def tw12630474795330799128:=Nat
def tw6482471401806600769:=Nat
def tw12909201810269093131:=Nat
def tw1700477455474161676:=Nat
def tw15023889878624881190:=Nat
def tw2436049460780926394:=Nat
def tw16556470604416493346:=Nat
def tw14530852623512595520:=Nat
def tw14408196336474831406:=Nat
def tw7428479232228920637:=Nat
def tw17151863999776221739:=Nat
def tw16394958378040196101:=Nat
def tw3407682992870708561:=Nat
def tw11502872179223213264:=Nat
def tw1351909785809473411:=Nat
def tw18181842330014372711:=Nat
def tw8015621479074065990:=Nat
def tw14921626115359662583:=Nat
def tw4619755455596882639:=Nat
def tw49492070407215413:=Nat
def tw17326563495324627582:=Nat
def tw15904423853054736391:=Nat
def tw10273847580306166176:=Nat
def tw17843085985659126557:=Nat
def tw837543175180228898:=Nat
def tw18334176370542824141:=Nat
def tw15989872787232162735:=Nat
def tw10957571157090106118:=Nat
def tw3634891620416661363:=Nat
def tw17102929406645527403:=Nat
def tw12343969931866610616:=Nat
def tw46620211829516951:=Nat
def tw17975008276326578556:=Nat
def tw1951167284822251497:=Nat
def tw7897228866752598661:=Nat
def tw6977164892671537852:=Nat
def tw14887888608690588880:=Nat
def tw5489984959089884716:=Nat
def tw206587143578378171:=Nat
def tw2645048426748054935:=Nat
def tw9355236945282716003:=Nat
def tw1554781300221133189:=Nat
def tw6521681994527588915:=Nat
def tw18294404714367483980:=Nat
def tw10455542253856495083:=Nat
def tw16114641319443730754:=Nat
def tw3255977267370313755:=Nat
def tw15758313105635696601:=Nat
def tw16327634606697891979:=Nat
end PySem.W.Fast
set_option maxRecDepth 100000 in
set_option maxHeartbeats 0 in
theorem PySem.Challenge.cw_whistlebook_k34_whole_all_fillings_holds : PySem.Challenge.rw_whistlebook_k34_whole_all_fillings.Holds := by
 w_on;o_law;k_head;(case hw=>w_witness2)
 k_fill
 refine K34.walk (l:=PySem.Challenge.rw_whistlebook_k34_whole_all_fillings) rfl rfl (fun w h Y=>PySem.W.kIn_of Y) ?F
 case F =>
  intro w mg fa h KX G hmg
  refine' K34.zim KX G hmg ?zoi ?zm9 ?zmi ?zlu ?zl2 ?zlz ?zn5 ?znu ?zmz ?znq ?zm8 ?zmx ?zol ?zn4 ?zln ?zmn ?zov ?zou ?zpr ?zox ?zpn ?zpe ?zo7 ?zo4 ?zpf ?zpd ?zm0 ?zlv ?zpk ?zpp ?zph ?zo5 ?zpm ?zo8 ?zlj ?zp3 ?zp0 ?zpu ?zpy ?zp7 ?zp5 ?zml ?zo0 ?zmy ?zof ?zpl ?zpi ?zpa ?zo9 ?zo1 ?zo3 ?znf ?zpb ?zls ?zly ?zmm ?znc ?zle ?zlm ?zn9 ?zmu ?zoq ?zng ?zmj ?zms ?zod ?zo2 ?znw ?znh ?zoo ?zog ?zny ?zl6 ?zpq ?zlc ?zow ?zmb ?zm2 ?zl9 ?zqd ?zlp ?zp2 ?zp1 ?zp4 ?zqa ?zl7 ?zl3 ?zlx ?zli ?zlo ?zl8 ?zm1 ?zl4 ?b0 ?l0 ?c0 ?k0 ?b1 ?l1 ?c1 ?k1 ?b2 ?l2 ?c2 ?k2 ?b3 ?i3 ?l3 ?c3 ?k3 ?b4 ?i4 ?l4 ?c4 ?k4 ?b5 ?i5 ?l5 ?c5 ?k5 ?b6 ?i6 ?l6 ?c6 ?k6 ?b7 ?l7 ?c7 ?k7 ?b8 ?l8 ?c8 ?k8 ?b9 ?l9 ?c9 ?k9 ?b10 ?l10 ?c10 ?k10 ?b11 ?l11 ?c11 ?k11 ?b12 ?i12 ?l12 ?c12 ?k12 ?b13 ?i13 ?l13 ?c13 ?k13 ?b14 ?i14 ?l14 ?c14 ?k14 ?b15 ?i15 ?l15 ?c15 ?k15 ?b16 ?i16 ?l16 ?c16 ?k16 ?b17 ?i17 ?l17 ?c17 ?k17 ?b18 ?i18 ?l18 ?c18 ?k18 ?b19 ?i19 ?l19 ?c19 ?k19 ?b20 ?l20 ?c20 ?k20 ?b21 ?l21 ?c21 ?k21 ?b22 ?l22 ?c22 ?k22 ?b23 ?l23 ?c23 ?k23 ?b24 ?l24 ?c24 ?k24 ?b25 ?l25 ?c25 ?k25 ?b26 ?l26 ?c26 ?k26 ?b27 ?l27 ?c27 ?k27 ?b28 ?i28 ?l28 ?c28 ?k28 ?b29 ?i29 ?l29 ?c29 ?k29 ?b30 ?i30 ?l30 ?c30 ?k30 ?b31 ?i31 ?l31 ?c31 ?k31 ?b32 ?i32 ?l32 ?c32 ?k32 ?b33 ?i33 ?l33 ?c33 ?k33 ?b34 ?i34 ?l34 ?c34 ?k34 ?b35 ?i35 ?l35 ?c35 ?k35 ?b36 ?l36 ?c36 ?k36 ?b37 ?i37 ?l37 ?c37 ?k37 ?b38 ?i38 ?l38 ?c38 ?k38 ?b39 ?i39 ?l39 ?c39 ?k39 ?b40 ?i40 ?l40 ?c40 ?k40 ?b41 ?i41 ?l41 ?c41 ?k41 ?b42 ?i42 ?l42 ?c42 ?k42 ?b43 ?i43 ?l43 ?c43 ?k43 ?b44 ?i44 ?l44 ?c44 ?k44 ?b45 ?i45 ?l45 ?c45 ?k45 ?b46 ?i46 ?l46 ?c46 ?k46 ?b47 ?i47 ?l47 ?c47 ?k47 ?b48 ?i48 ?l48 ?c48 ?k48 ?b49 ?i49 ?l49 ?c49 ?k49 ?b50 ?i50 ?l50 ?c50 ?k50 ?b51 ?i51 ?l51 ?c51 ?k51 ?b52 ?i52 ?l52 ?c52 ?k52 ?b53 ?i53 ?l53 ?c53 ?k53 ?b54 ?l54 ?c54 ?k54 ?b55 ?l55 ?c55 ?k55 ?b56 ?l56 ?c56 ?k56 ?b57 ?l57 ?c57 ?k57 ?b58 ?l58 ?c58 ?k58 ?b59 ?l59 ?c59 ?k59 ?b60 ?l60 ?c60 ?k60 ?b61 ?l61 ?c61 ?k61 ?b62 ?l62 ?c62 ?k62 ?b63 ?l63 ?c63 ?k63 ?b64 ?l64 ?c64 ?k64 ?b65 ?l65 ?c65 ?k65 ?b66 ?l66 ?c66 ?k66 ?b67 ?l67 ?c67 ?k67 ?b68 ?l68 ?c68 ?k68 ?b69 ?l69 ?c69 ?k69 ?b70 ?l70 ?c70 ?k70 ?b71 ?l71 ?c71 ?k71 ?b72 ?l72 ?c72 ?k72 ?b73 ?l73 ?c73 ?k73 ?b74 ?l74 ?c74 ?k74 ?b75 ?l75 ?c75 ?k75 ?b76 ?l76 ?c76 ?k76 ?b77 ?l77 ?c77 ?k77
  (case zoi|zm9|zmi|zlu|zl2|zlz|zn5|znu|zmz|znq|zm8|zmx|zol|zn4|zln|zmn|zov|zou|zpr|zox|zpn|zpe|zo7|zo4|zpf|zpd|zm0|zlv|zpk|zpp|zph|zo5|zpm|zo8|zlj|zp3|zp0|zpu|zpy|zp7|zp5|zml|zo0|zmy|zof|zpl|zpi|zpa|zo9|zo1|zo3|znf|zpb|zls|zly|zmm|znc|zle|zlm|zpq|zlc|zow|zmb|zm2|zl9|zqd|zlp|zp2|zp1|zp4|zqa|zl7|zl3|zlx|zli|zlo|zl8|zm1|zl4|b0|l0|c0|k0|b1|l1|c1|k1|b2|l2|c2|k2|b3|i3|l3|c3|k3|b4|i4|l4|c4|k4|b5|i5|l5|c5|k5|b6|i6|l6|c6|k6|b7|l7|c7|k7|b8|l8|c8|k8|b9|l9|c9|k9|b10|l10|c10|k10|b11|l11|c11|k11|b12|i12|l12|c12|k12|b13|i13|l13|c13|k13|b14|i14|l14|c14|k14|b15|i15|l15|c15|k15|b16|i16|l16|c16|k16|b17|i17|l17|c17|k17|b18|i18|l18|c18|k18|b19|i19|l19|c19|k19|b20|l20|c20|k20|b21|l21|c21|k21|b22|l22|c22|k22|b23|l23|c23|k23|b24|l24|c24|k24|b25|l25|c25|k25|b26|l26|c26|k26|b27|l27|c27|k27|b28|i28|l28|c28|k28|b29|i29|l29|c29|k29|b30|i30|l30|c30|k30|b31|i31|l31|c31|k31|b32|i32|l32|c32|k32|b33|i33|l33|c33|k33|b34|i34|l34|c34|k34|b35|i35|l35|c35|k35|b36|l36|c36|k36|b37|i37|l37|c37|k37|b38|i38|l38|c38|k38|b39|i39|l39|c39|k39|b40|i40|l40|c40|k40|b41|i41|l41|c41|k41|b42|i42|l42|c42|k42|b43|i43|l43|c43|k43|b44|i44|l44|c44|k44|b45|i45|l45|c45|k45|b46|i46|l46|c46|k46|b47|i47|l47|c47|k47|b48|i48|l48|c48|k48|b49|i49|l49|c49|k49|b50|i50|l50|c50|k50|b51|i51|l51|c51|k51|b52|i52|l52|c52|k52|b53|i53|l53|c53|k53|b54|l54|c54|k54|b55|l55|c55|k55|b56|l56|c56|k56|b57|l57|c57|k57|b58|l58|c58|k58|b59|l59|c59|k59|b60|l60|c60|k60|b61|l61|c61|k61|b62|l62|c62|k62|b63|l63|c63|k63|b64|l64|c64|k64|b65|l65|c65|k65|b66|l66|c66|k66|b67|l67|c67|k67|b68|l68|c68|k68|b69|l69|c69|k69|b70|l70|c70|k70|b71|l71|c71|k71|b72|l72|c72|k72|b73|l73|c73|k73|b74|l74|c74|k74|b75|l75|c75|k75|b76|l76|c76|k76|b77|l77|c77|k77=>(show _=_;k_is))
  (case zn9|zmu|zoq|zng|zmj|zms|zod|zo2|znw|znh|zoo|zog|zny|zl6=>k_exc)
#print axioms PySem.Challenge.cw_whistlebook_k34_whole_all_fillings_holds
