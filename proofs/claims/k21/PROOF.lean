import PyProof.Rows.All
import Wide.All
import OpenK.AllK
import Wide.FinOn
import PyProof.EqAt
import PyProof.EqKinds
import PyProof.TupleCall
import Lean
import KE.KDictList
import PyProof.MaxThree
import KE.LcSums
import PyProof.Rows.FactsN_abs
import PyProof.FactsAll.list_3
import PyProof.SeqI3
import PyProof.EnumIter
import PyProof.EnumMake
import PyProof.EnumFor
import PyProof.ZipIter
import PyProof.FactsAll.zip_1
import PyProof.DictIter
import PyProof.MinMaxWalk
import PyProof.Rows.TupDisplay
import PyProof.Rows.SetFrom
import PyProof.FactsAll.NoneType_1
import PyProof.StrCalls2
import PySem.Challenge.RW_whistlebook_k21_season_made
open PySem.W(Frag)
open Sum(inl inr)
local macro_rules|`(⋯)=>`(by first|decide +kernel|omega|walk_at "ar")
abbrev zqx:=@List.length_map
abbrev zqy:=@List.getElem?_eq_getElem
abbrev zqz:=@List.getElem?_eq_some_iff
abbrev zq0:=@List.mem_cons
abbrev zq1:=@Nat.le_refl
abbrev zq2:=@decide_eq_true
abbrev zq3:=@List.mem_singleton
abbrev zq4:=@List.length_append
abbrev zq5:=@decide_eq_false
abbrev zq6:=@List.size_toArray
abbrev zq7:=@List.getElem?_map
abbrev zq8:=@List.map_cons
abbrev zq9:=@List.mem_of_getElem?
abbrev zra:=@Nat.lt_of_lt_of_le
abbrev zrb:=@Bool.false_ne_true
abbrev zrc:=@List.length_cons
abbrev zrd:=@List.mem_append
abbrev zre:=@List.map_append
abbrev zrf:=@beq_eq_false_iff_ne
abbrev zrg:=@List.mem_map
abbrev zrh:=@List.mem_cons_of_mem
abbrev zri:=@List.mem_append_right
abbrev zrj:=@Nat.zero_le
abbrev zrk:=@Nat.ne_of_lt
abbrev zrl:=@List.nodup_cons
abbrev zrm:=@List.take_length
abbrev zrn:=@List.mem_append_left
abbrev zro:=@Nat.le_trans
abbrev zrp:=@List.getD_eq_getElem?_getD
abbrev zrq:=@List.mem_cons_self
abbrev zrr:=@List.take_succ_eq_append_getElem
abbrev zrs:=@List.lookup_cons
abbrev zrt:=@List.getElem?_append_right
abbrev zru:=@List.not_mem_nil
abbrev zrv:=@List.getElem?_append_left
abbrev zrw:=@List.getElem?_set_self
abbrev zrx:=@List.getElem?_set_ne
abbrev zry:=@List.take_add_one
abbrev zrz:=@Option.map_some
abbrev zr0:=@Bool.false_eq_true
abbrev zr1:=@Option.isSome_iff_exists
abbrev zr2:=@List.filter_cons
abbrev zr3:=@List.getElem_mem
abbrev zr4:=@List.length_nil
abbrev zr5:=@List.length_set
abbrev zr6:=@List.getElem_of_mem
abbrev zr7:=@Nat.lt_irrefl
abbrev zr8:=@Nat.lt_of_le_of_lt
abbrev zr9:=@List.length_range
abbrev zsa:=@Bool.and_eq_true
abbrev zsb:=@List.mem_filter
abbrev zsc:=@List.find?_cons
abbrev zsd:=@List.length_filter_le
abbrev zse:=@List.reverse_cons
abbrev zsf:=@Nat.lt_succ_of_lt
abbrev zsg:=@Int.toNat_natCast
abbrev zsh:=@List.mem_range
abbrev zsi:=@List.filterMap_cons
abbrev zsj:=@List.mem_filterMap
abbrev zsk:=@List.any_cons
abbrev zsl:=@Nat.not_lt_zero
set_option Elab.async false
set_option linter.all false
set_option maxRecDepth 100000
namespace L2
open PySem PySem.Spec PyProof.Rows
noncomputable abbrev Key:=Sum Int Str
noncomputable def Mq:Key->Value->Bool
 | .inl k,v=>Value.isInt k v
 | .inr x,v=>Value.isStrOf x v
noncomputable def zcu(w:World):Key->Int
 | .inl k=>hashInt k
 | .inr x=>hashStr w x
theorem Yf:∀ {k:Key} {v:Value},Mq k v=true->(∃ i t,k=inl i/\v=Value.int i t)\/(∃ x t,k=inr x/\v=Value.str x t)
 | .inl i,v,h=>by
   obtain⟨t,e⟩:=Value.isInt_shape (k:=i) (v:=v) h;exact .inl ⟨i,t,rfl,e⟩
 | .inr x,v,h=>by
   obtain⟨t,e⟩:=Value.isStrOf_shape (x:=x) (v:=v) h;exact .inr ⟨x,t,rfl,e⟩
theorem G9(i:Int)(t:Tok):Mq (.inl i) (.int i t)=true:=by simp[Mq,Value.isInt]
theorem Fb(x:Str)(t:Tok):Mq (.inr x) (.str x t)=true:=by simp[Mq,Value.isStrOf]
theorem As(a b:Int):decide ((inl a:Key)=inl b)=(a == b):=by
 by_cases e:a=b
 ·subst e;simp
 ·have h:¬ (inl a:Key)=inl b:=fun q=>e (inl.inj q);rw[zq5 h];exact(zrf.mpr e).symm
theorem Au(a b:Str):decide ((inr a:Key)=inr b)=decide (a=b):=by
 by_cases e:a=b
 ·subst e;simp
 ·have h:¬ (inr a:Key)=inr b:=fun q=>e (inr.inj q);rw[zq5 h,zq5 e]
theorem Av(a:Int)(b:Str):decide ((inl a:Key)=inr b)=false:=zq5 (fun q=>nomatch q)
theorem Aw(a:Str)(b:Int):decide ((inr a:Key)=inl b)=false:=zq5 (fun q=>nomatch q)
noncomputable def Yb(prog:Program)(w:World):PySem.KeyKind prog w Key where
 is:=Mq
 hash:=zcu w
 inj:=fun v a b ha hb=>by
  rcases Yf ha with ⟨i,t,rfl,rfl⟩|⟨x,t,rfl,rfl⟩
  ·rcases Yf hb with ⟨j,u,rfl,e⟩|⟨y,u,rfl,e⟩
   ·injection e with e1 _;rw[e1]
   ·exact nomatch e
  ·rcases Yf hb with ⟨j,u,rfl,e⟩|⟨y,u,rfl,e⟩
   ·exact nomatch e
   ·injection e with e1 _;rw[e1]
 byValue:=fun k v h=>by
  rcases Yf h with ⟨i,t,rfl,rfl⟩|⟨x,t,rfl,rfl⟩<;>rfl
 pyHash:=fun hv h=>by
  rcases Yf hv with ⟨i,t,rfl,rfl⟩|⟨x,t,rfl,rfl⟩
  ·exact wpAny_pyHash_int h
  ·exact wpAny_pyHash_str h
 eqBool:=fun hu hv h=>by
  rcases Yf hu with ⟨i,t,rfl,rfl⟩|⟨x,t,rfl,rfl⟩
  ·rcases Yf hv with ⟨j,u,rfl,rfl⟩|⟨y,u,rfl,rfl⟩
   ·rw[As] at h;exact wpAny_eqBool_int h
   ·rw[Av] at h;exact SeqAt.EqAt.int_str i t y u _ _ _ _ h
  ·rcases Yf hv with ⟨j,u,rfl,rfl⟩|⟨y,u,rfl,rfl⟩
   ·rw[Aw] at h;exact SeqAt.EqAt.str_int x t j u _ _ _ _ h
   ·rw[Au] at h;exact wpAny_eqBool_str h
 «strs»:=fun k x t v h=>by
  rcases Yf h with ⟨i,u,rfl,e⟩|⟨y,u,rfl,e⟩
  ·exact nomatch e
  ·injection e with e1 _;subst e1;cases v<;>rfl
theorem Ko(prog:Program)(w:World)(i:Int)(t:Tok):(Yb prog w).is (.inl i) (.int i t)=true:=G9 i t
theorem Kp(prog:Program)(w:World)(x:Str)(t:Tok):(Yb prog w).is (.inr x) (.str x t)=true:=Fb x t
inductive V where
 | non|bl (b:Bool)|int (i:Int)|str (x:Str)|byt (b:Array UInt8)|flt (b:UInt64)|ref (a:Addr)|ty (n:String)
 deriving DecidableEq
noncomputable def RelV:V->Value->Prop
 | .non,u=>u=Value.none
 | .bl b,u=>u=Value.bool b
 | .int i,u=>∃ t,u=Value.int i t
 | .str x,u=>∃ t,u=Value.str x t
 | .byt b,u=>∃ t,u=Value.bytes b t
 | .flt b,u=>∃ t,u=Value.float b t
 | .ref a,u=>u=Value.ref a
 | .ty n,u=>u=Value.type n
noncomputable abbrev Vals:List V->List Value->Prop:=Paired RelV
theorem Vals.length{xs:List V}{us:List Value}(r:Vals xs us):xs.length=us.length:=Paired.length r
theorem Vals.get:∀ {xs:List V} {us:List Value} {i:Nat} {x:V},Vals xs us->xs[i]?=some x->∃ u,us[i]?=some u/\RelV x u
 | _,_,_,_,.nil,e=>by simp at e
 | _,_,0,_,.cons r _,e=>by simp at e;subst e;exact⟨_,rfl,r⟩
 | _,_,i+1,x,.cons _ t,e=>by
   obtain⟨u,h1,h2⟩:=Vals.get (i:=i) (x:=x) t (by simpa using e);exact⟨u,by simpa using h1,h2⟩
theorem Vals.set{x:V}{u:Value}(r:RelV x u):∀ {xs:List V} {us:List Value} (i:Nat),Vals xs us->Vals (xs.set i x) (us.set i u)
 | _,_,_,.nil=>.nil
 | _,_,0,.cons _ t=>.cons r t
 | _,_,i+1,.cons q t=>.cons q (Vals.set r i t)
theorem Vals.append:∀ {xs ys:List V} {us ws:List Value},Vals xs us->Vals ys ws->Vals (xs++ys) (us++ws)
 | _,_,_,_,.nil,s=>s
 | _,_,_,_,.cons r t,s=>.cons r (Vals.append t s)
noncomputable def RelO:Option V->Option Value->Prop
 | some v,some u=>RelV v u
 | none,none=>True
 | _,_=>False
noncomputable def KV{κ:Type}:List (κ×V)->List (κ×Value)->Prop:=Paired fun (p:κ×V) (q:κ×Value)=>p.1=q.1/\RelV p.2 q.2
noncomputable def kV:Key->V
 | .inl i=>.int i
 | .inr x=>.str x
inductive HO where
 | lst (xs:List V)
 | tup (xs:List V)
 | dK (kvs:List (Key×V))|dT (kvs:List (List Key×V))
 | set (S:Int->Bool) (n:Nat)
 | ins (C dx:Addr) (fs:List (Str×V))
 | own (x:Addr)
 | xd (fs:List (Str×V))
 | met (f x:Addr)
 | rng (lo hi:Int)
 | frz (o:Obj) (u:HO)
 | tbl (ps:Array Value)
 | ext (φ:Heap->Prop)
noncomputable abbrev Hp:=Addr->Option HO
noncomputable def upd(H:Hp)(a:Addr)(o:HO):Hp:=fun b=>if b=a then some o else H b
theorem Zb{H:Hp}{a:Addr}{o:HO}:upd H a o a=some o:=by unfold upd;rw[if_pos rfl]
theorem Zg{H:Hp}{a b:Addr}{o:HO}(h:b≠a):upd H a o b=H b:=by unfold upd;rw[if_neg h]
theorem Of{H:Hp}{a:Addr}{o u:HO}:upd (upd H a o) a u=upd H a u:=by
 funext b;unfold upd;split<;>rfl
theorem Yl{H:Hp}{a b:Addr}{o u:HO}(h:H a=some o)(h':H b=some u)(d:o≠u):a≠b:=by
 intro e;subst e;rw[h] at h';exact d (Option.some.inj h')
theorem Zh{H:Hp}{a b:Addr}{o:HO}(h:H a=some o)(h':H b=none):a≠b:=by
 intro e;subst e;rw[h] at h';cases h'
section
variable(P:Program)(w:World)
noncomputable def Yh(H:Hp)(h:Heap)(a:Addr):HO->Prop
 | .lst xs=>xs.length<=sizeLine/\∃ (its:List Value) (n:Nat),Vals xs its/\h.get? a=some { cls:=.type "list",data:=.seq its.toArray n }
 | .tup xs=>xs.length<=sizeLine/\∃ its:List Value,Vals xs its/\IsTup h a its.toArray
 | .dK kvs=>kvs.length<=sizeLine/\(a == sysModules)=false/\∃ vs,KV kvs vs/\h.DictOf (Yb P w) a vs
 | .dT kvs=>kvs.length<=sizeLine/\(a == sysModules)=false/\∃ xs:List (List Key×Addr×Value),
   Paired (fun (p:List Key×V) (q:List Key×Addr×Value)=>p.1=q.1/\H q.2.1=some (.tup (p.1.map kV))/\RelV p.2 q.2.2) kvs xs /\
   ∃ o es ep,h.get? a=some o/\o.ExactDict/\o.data=.dict es ep/\es.toList=xs.map (entryOfKey (tupleKind (Yb P w)))/\(xs.map (·.1)).Nodup
 | .set S n=>h.SetOf (intKind P w) a S n
 | .ins C dx fs=>H dx=some (.own a)/\fs.length<=1000/\dx≠a/\h.get? a=some (PySem.W.instObj C dx) /\
   ∃ mA,h.Ns1 dx mA/\(∀ f,RelO (fs.lookup f) (mA f))/\PySem.Within mA (fs.map (·.1))
 | .own _=>∃ o,h.get? a=some o
 | .xd fs=>∃ mA,h.Ns1 a mA/\∀ f,RelO (fs.lookup f) (mA f)
 | .rng lo hi=>∃ t u v,h.get? a=some { cls:=.type "range",data:=.fields #[.int lo t,.int hi u,.int 1 v] }
 | .frz o u=>h.get? a=some o/\Yh H h a u
 | .tbl ps=>h.get? a=some { cls:=.none,data:=.fields ps }
 | .met f x=>h.get? a=some (PySem.W.methodObj (.ref f) (.ref x))
 | .ext φ=>φ h/\(∃ o,h.get? a=some o)/\∀ h1 h2:Heap,φ h1->(∀ o,h1.get? a=some o->h2.get? a=some o)->φ h2
noncomputable def HOk(H:Hp)(h:Heap):Prop:=∀ a o,H a=some o->Yh P w H h a o
end
section
variable{P:Program}{w:World}{H H':Hp}{h h':Heap}{a:Addr}{o:HO}
theorem Yh.lt(x:Yh P w H h a o):a<h.objs.size:=by
 cases o with
 | lst xs=>obtain⟨_,_,_,_,e⟩:=x;exact Heap.lt_size e
 | tup xs=>obtain⟨_,_,_,p⟩:=x;exact p.lt
 | dK kvs=>obtain⟨_,_,_,_,o,_,_,e,_⟩:=x;exact Heap.lt_size e
 | dT kvs=>obtain⟨_,_,_,_,o,_,_,e,_⟩:=x;exact Heap.lt_size e
 | set S n=>obtain⟨o,_,_,_,e,_⟩:=x;exact Heap.lt_size e
 | ins C dx fs=>obtain⟨_,_,_,e,_⟩:=x;exact Heap.lt_size e
 | own y=>obtain⟨_,e⟩:=x;exact Heap.lt_size e
 | xd fs=>obtain⟨_,⟨_,_,_,e,_⟩,_⟩:=x;exact Heap.lt_size e
 | rng lo hi=>obtain⟨_,_,_,e⟩:=x;exact Heap.lt_size e
 | frz ob u=>obtain⟨e,_⟩:=x;exact Heap.lt_size e
 | tbl ps=>exact Heap.lt_size (show h.get? a=some _ from x)
 | met f y=>exact Heap.lt_size (show h.get? a=some _ from x)
 | ext φ=>obtain⟨_,⟨_,e⟩,_⟩:=x;exact Heap.lt_size e
theorem Paired.mapP{α β:Type}{F G:α->β->Prop}:∀ {l₁:List α} {l₂:List β},Paired F l₁ l₂->(∀ a b,F a b->G a b)->Paired G l₁ l₂
 | _,_,.nil,_=>.nil
 | _,_,.cons r t,f=>.cons (f _ _ r) (Paired.mapP t f)
theorem Yh.stay(x:Yh P w H h a o)(k:∀ b u,(b=a\/H b=some (.own a))->h.get? b=some u->h'.get? b=some u)
  (ho:∀ b,H b=some (.own a)->H' b=some (.own a)) (ht:∀ b xs,H b=some (.tup xs)->H' b=some (.tup xs)):Yh P w H' h' a o:=by
 induction o with
 | lst xs=>obtain⟨z,its,n,r,e⟩:=x;exact⟨z,its,n,r,k _ _ (.inl rfl) e⟩
 | tup xs=>obtain⟨z,its,r,ob,e,c⟩:=x;exact⟨z,its,r,ob,k _ _ (.inl rfl) e,c⟩
 | dK kvs=>obtain⟨z,y,vs,r,ob,es,ep,e,c⟩:=x;exact⟨z,y,vs,r,ob,es,ep,k _ _ (.inl rfl) e,c⟩
 | dT kvs =>
   obtain⟨z,y,xs,r,ob,es,ep,e,c⟩:=x;exact⟨z,y,xs,Paired.mapP r fun p q z=>⟨z.1,ht _ _ z.2.1,z.2.2⟩,ob,es,ep,k _ _ (.inl rfl) e,c⟩
 | set S n=>obtain⟨ob,es,ep,t,e,c⟩:=x;exact⟨ob,es,ep,t,k _ _ (.inl rfl) e,c⟩
 | ins C dx fs =>
   obtain⟨d,z,ne,e,mA,⟨od,es,ep,e2,c⟩,r⟩:=x;exact⟨ho _ d,z,ne,k _ _ (.inl rfl) e,mA,⟨od,es,ep,k _ _ (.inr d) e2,c⟩,r⟩
 | own y=>obtain⟨ob,e⟩:=x;exact⟨ob,k _ _ (.inl rfl) e⟩
 | xd fs=>obtain⟨mA,⟨od,es,ep,e,c⟩,r⟩:=x;exact⟨mA,⟨od,es,ep,k _ _ (.inl rfl) e,c⟩,r⟩
 | rng lo hi=>obtain⟨t,u,v,e⟩:=x;exact⟨t,u,v,k _ _ (.inl rfl) e⟩
 | frz ob u ih=>obtain⟨e,q⟩:=x;exact⟨k _ _ (.inl rfl) e,ih q⟩
 | tbl ps =>
   have e:h.get? a=some { cls:=.none,data:=.fields ps }:=x;show h'.get? a=some { cls:=.none,data:=.fields ps };exact k a _ (.inl rfl) e
 | met f y =>
   have e:h.get? a=some (PySem.W.methodObj (.ref f) (.ref y)):=x;show h'.get? a=some (PySem.W.methodObj (.ref f) (.ref y));exact k a _ (.inl rfl) e
 | ext φ=>obtain⟨p,⟨o,e⟩,st⟩:=x;exact⟨st _ _ p fun o q=>k _ _ (.inl rfl) q,⟨o,k _ _ (.inl rfl) e⟩,st⟩
theorem HOk.lt(x:HOk P w H h)(e:H a=some o):a<h.objs.size:=(x a o e).lt
theorem HOk.fresh(x:HOk P w H h)(e:h.objs.size<=a):H a=none:=by
 cases q:H a with
 | none=>rfl
 | some u=>exact absurd (zra (x.lt q) e) (zr7 _)
theorem HOk.kept(x:HOk P w H h)(k:∀ b u,h.get? b=some u->h'.get? b=some u):HOk P w H h':=fun a o e =>
 (x a o e).stay (fun b u _ q=>k b u q) (fun _ q=>q) fun _ _ q=>q
theorem HOk.laid(x:HOk P w H h)(k:∀ b u,h.get? b=some u->h'.get? b=some u)(hp:h.objs.size<=a)(new:Yh P w (upd H a o) h' a o):HOk P w (upd H a o) h':=fun b u e=>by
 have hn:=x.fresh hp;by_cases hb:b=a
 ·subst hb;rw[Zb] at e;cases e;exact new
 ·rw[Zg hb] at e;exact(x b u e).stay (fun c v _ q=>k c v q) (fun c q=>by rw[Zg (Zh q hn)];exact q) fun c xs q=>by rw[Zg (Zh q hn)];exact q
end
noncomputable def Rd(H:Hp)(a:Addr)(u:HO):Prop:=H a=some u\/∃ o,H a=some (.frz o u)
theorem Rd.ok{P:Program}{w:World}{H:Hp}{h:Heap}{a:Addr}{u:HO}(r:Rd H a u)(x:HOk P w H h):Yh P w H h a u:=by
 rcases r with r|⟨o,r⟩
 ·exact x a u r
 ·obtain⟨_,q⟩:=x a _ r;exact q
noncomputable def Mut:Option HO->Prop
 | some (.lst _)=>True
 | some (.dK _)=>True
 | some (.dT _)=>True
 | some (.set _ _)=>True
 | some (.ins _ _ _)=>True
 | some (.ext _)=>True
 | _=>False
section
variable{P:Program}{w:World}{H:Hp}{h h':Heap}{x e:Addr}{o':HO}
theorem HOk.write(ok:HOk P w H h)(mu:Mut (H x))(he:e=x\/H e=some (.own x))(k:∀ b u,b≠e->h.get? b=some u->h'.get? b=some u)(heo:∃ u,h'.get? e=some u)
  (new:Yh P w (upd H x o') h' x o'):HOk P w (upd H x o') h':=fun b u q=>by
 have nown:∀ c y,H c=some (.own y)->c≠x:=fun c y r z=>by subst z;rw[r] at mu;exact mu
 have ntup:∀ c xs,H c=some (.tup xs)->c≠x:=fun c xs r z=>by subst z;rw[r] at mu;exact mu
 by_cases hb:b=x
 ·subst hb;rw[Zb] at q;cases q;exact new
 ·rw[Zg hb] at q;by_cases hbe:b=e
  ·have q':H b=some (.own x):=by
    rcases he with z|z
    ·exact absurd (hbe.trans z) hb
    ·rw[hbe];exact z
   rw[q] at q';cases q';obtain⟨v,hv⟩:=heo;exact⟨v,by rw[hbe];exact hv⟩
  ·refine(ok b u q).stay (fun c v hc r=>k c v ?_ r) (fun c r=>by rw[Zg (nown c b r)];exact r) fun c xs r=>by rw[Zg (ntup c xs r)];exact r
   rcases hc with rfl|hc
   ·exact hbe
   ·rintro rfl;rcases he with z|z
    ·exact nown c b hc z
    ·rw[hc] at z;cases z;exact hb rfl
end
structure Un(fs ex:List Addr)(H H':Hp)(h h':Heap):Prop where
 keep:∀ b o,h.get? b=some o->H b=none->b∉fs->b∉ex->h'.get? b=some o
 slot:∀ b o,h.get? b=some o->H b=none->b∈fs->b∉ex->∃ sl,h'.get? b=some { o with slots:=sl }
 free:∀ b o,h.get? b=some o->H b=none->b∉ex->H' b=none
 there:∀ b o,h.get? b=some o->b∉ex->∃ o',h'.get? b=some o'
 tups:∀ b xs,H b=some (.tup xs)->H' b=some (.tup xs)
 frzs:∀ b o u,H b=some (.frz o u)->H' b=some (.frz o u)
 tbls:∀ b ps,H b=some (.tbl ps)->∃ more,H' b=some (.tbl (ps++more))
section
variable{fs fs' ex ex':List Addr}{H H1 H2:Hp}{h h1 h2 h':Heap}{a x e:Addr}{o:HO}
theorem Un.any(u:Un fs ex H H1 h h1){b:Addr}{ob:Obj}(q:h.get? b=some ob)(n:H b=none)(hx:b∉ex):∃ sl,h1.get? b=some { ob with slots:=sl }:=by
 by_cases hb:b∈fs
 ·exact u.slot b ob q n hb hx
 ·exact⟨ob.slots,u.keep b ob q n hb hx⟩
theorem Un.kept(k:∀ b u,h.get? b=some u->h'.get? b=some u):Un fs ex H H h h' :=
 ⟨fun b ob q _ _ _=>k b ob q,fun b ob q _ _ _=>⟨ob.slots,k b ob q⟩,fun _ _ _ n _=>n,fun b ob q _=>⟨ob,k b ob q⟩,fun _ _ q=>q,fun _ _ _ q=>q,fun _ ps q=>⟨#[],by rw[q];simp⟩⟩
theorem Un.refl:Un fs ex H H h h:=Un.kept fun _ _ q=>q
theorem Un.laid(k:∀ b u,h.get? b=some u->h'.get? b=some u)(hp:h.objs.size<=a)(hn:H a=none):Un fs ex H (upd H a o) h h' where
 keep:=fun b u q _ _ _=>k b u q
 slot:=fun b u q _ _ _=>⟨u.slots,k b u q⟩
 free:=fun b u q n _=>by rw[Zg (zrk (zra (Heap.lt_size q) hp))];exact n
 there:=fun b u q _=>⟨u,k b u q⟩
 tups:=fun b xs q=>by rw[Zg (Zh q hn)];exact q
 frzs:=fun b u xs q=>by rw[Zg (Zh q hn)];exact q
 tbls:=fun b ps q=>⟨#[],by rw[Zg (Zh q hn),q];simp⟩
theorem Un.write(mu:Mut (H x))(he:e=x\/H e=some (.own x))(k:∀ b u,b≠e->h.get? b=some u->h'.get? b=some u)(heo:∃ u,h'.get? e=some u):Un fs ex H (upd H x o) h h':=by
 have hx:∀ b,H b=none->b≠x:=fun b n z=>by subst z;rw[n] at mu;exact mu
 have hb:∀ b,H b=none->b≠e:=fun b n z=>by
  subst z;rcases he with r|r
  ·exact hx b n r
  ·rw[n] at r;cases r
 have hm:∀ b u,H b=some u->¬ Mut (some u)->b≠x:=fun b u q nm z=>by subst z;rw[q] at mu;exact nm mu
 refine⟨fun b u q n _ _=>k b u (hb b n) q,fun b u q n _ _=>⟨u.slots,k b u (hb b n) q⟩,fun b u q n _=>by rw[Zg (hx b n)];exact n,fun b u q _=>?_,
  fun b xs q=>by rw[Zg (hm b _ q fun z=>z)];exact q,fun b u xs q=>by rw[Zg (hm b _ q fun z=>z)];exact q,fun b ps q=>⟨#[],by rw[Zg (hm b _ q fun z=>z),q];simp⟩⟩
 by_cases hbe:b=e
 ·subst hbe;exact heo
 ·exact⟨u,k b u hbe q⟩
end
noncomputable def trk(h:Heap)(H:Hp):List Addr:=(List.range h.objs.size).filter fun a=>(H a).isSome
noncomputable def Ll(h:Heap)(H:Hp):Heap:=PySem.W.hideAll h (trk h H)
theorem Fc(h:Heap)(H:Hp):(Ll h H).objs.size=h.objs.size:=PySem.W.hideAll_size _ _
theorem Ex{h:Heap}{H:Hp}{b:Addr}{o:Obj}(e:h.get? b=some o)(n:H b=none):(Ll h H).get? b=some o :=
 PySem.W.hideAll_get _ e fun hm=>by
  have q:(H b).isSome=true:=(zsb.mp hm).2;rw[n] at q;simp at q
theorem C8{h:Heap}{H:Hp}{b:Addr}{o:Obj}(e:(Ll h H).get? b=some o):h.get? b=some o/\H b=none:=by
 have e':h.get? b=some o:=PySem.W.of_hideAll (trk h H) e;refine⟨e',?_⟩;cases q:H b with
 | none=>rfl
 | some x =>
   have hm:b∈trk h H:=zsb.mpr ⟨zsh.mpr (Heap.lt_size e'),by simp[q]⟩;have z:(Ll h H).get? b=none:=PySem.W.hideAll_none (trk h H) hm;rw[z] at e;cases e
structure Mod(K:Frag)(mg:Str->Option Value)(base:Heap):Prop where
 kin:K.In base
 glob:base.Ns mainGlobals mg
 blt:∃ mb,base.Ns builtinsNs mb/\∀ x:Str,x≠"__name__"->mb x=bootBuiltins x
 nolimit:base.NoLimit
structure Cx where
 prog:Program
 w:World
 K:Frag
 mg:Str->Option Value
 base:Heap
 A:Around
 N:List Str
 s₀:Shared
 H₀:Hp
 env:Env
 outer:List Env
 stack:List Env
 ex:List Addr
 fn:Str->Bool
 calm:Bool
 pn:List (Addr×Obj)
 xe:Value->Shared->Prop
 lk:List (Option V):=[]
noncomputable def frs(l:List Env):List Addr:=l.filterMap (·.frame)
noncomputable abbrev Cx.fs(X:Cx):List Addr:=frs X.outer
noncomputable def Vis(sc:Scope)(x:Str):Prop:=sc.names.lookup x=some .local\/sc.names.lookup x=some .cell\/sc.names.lookup x=some .free
noncomputable def Loc(sc:Scope)(x:Str):Prop:=sc.names.lookup x=some .local\/sc.names.lookup x=some .cell
noncomputable def Look(env:Env)(h:Heap)(m:Str->Option Value)(x:Str)(u:Value):Prop :=
 (env.kindOf x=some .local/\m x=some u)\/((env.kindOf x=some .cell\/env.kindOf x=some .free)/\∃ c,env.cells.lookup x=some c/\h.IsCell c (some u))
structure Cx.Ok(X:Cx):Prop where
 mod:Mod X.K X.mg X.base
 kind:X.env.scope.kind=.function
 glob:X.env.globals=mainGlobals
 blt:X.env.builtins=builtinsNs
 above:X.s₀.heap.objs.size<=X.env.locals
 inj:∀ x y c,X.env.cells.lookup x=some c->X.env.cells.lookup y=some c->x=y
 has:∀ x,(X.env.kindOf x=some .cell\/X.env.kindOf x=some .free)->∃ c,X.env.cells.lookup x=some c
 cab:∀ x c,X.fn x=true->X.env.cells.lookup x=some c->X.s₀.heap.objs.size<=c
 hd:X.calm=true->X.A.handled=none
 frames:X.A.frames=some X.stack
 stk:X.stack=X.outer\/(X.stack=X.env :: X.outer/\X.env.frame=some X.env.locals)
 exf:∀ b∈X.ex,b≠X.env.locals/\∀ x c,X.env.cells.lookup x=some c->c≠b
 bs:∀ b o,X.base.get? b=some o->X.s₀.heap.get? b=some o/\X.H₀ b=none
 bsz:X.base.objs.size<=X.s₀.heap.objs.size
 noex:∀ b o,X.base.get? b=some o->b∉X.ex
 exfs:∀ b∈X.ex,b∉X.fs
 funs:X.s₀.heap.FunFrames X.base X.outer
 frf:∀ b∈X.fs,X.H₀ b=none
structure Inv(X:Cx)(pins:List (Addr×Obj))(σ:List (Option V))(H:Hp)(s:Shared):Prop where
 ok:X.Ok
 os:s.os=X.s₀.os
 bare:AllBare s.gens
 base:Un X.fs X.ex X.H₀ H X.s₀.heap s.heap
 loc:∃ m,s.heap.Ns X.env.locals m/\∀ (i:Nat) (x:Str) (v:V),X.N[i]?=some x->(σ[i]?=some (some v)\/X.lk[i]?=some (some v))->Vis X.env.scope x->∃ u,RelV v u/\Look X.env s.heap m x u
 cell:∀ x c,X.env.cells.lookup x=some c->∃ v,s.heap.IsCell c v
 free:H X.env.locals=none
 freeC:∀ x c,X.env.cells.lookup x=some c->H c=none
 pin:∀ p∈X.pn++pins,s.heap.get? p.1=some p.2/\H p.1=none/\p.1≠X.env.locals/\p.1∉X.fs/\∀ v,p.2.data≠.cell v
 hok:HOk X.prog X.w H s.heap
 len:σ.length=X.N.length
section
variable{X:Cx}{pins:List (Addr×Obj)}{σ:List (Option V)}{H H':Hp}{s:Shared}{h':Heap}
theorem Cx.Ok.nofr(ok:X.Ok){b:Addr}{o:Obj}(e:X.base.get? b=some o):b∉X.fs:=fun hb=>by
 have:=(ok.funs.mem hb).1;rw[e] at this;cases this
theorem Inv.bs(I:Inv X pins σ H s):∀ b o,X.base.get? b=some o->s.heap.get? b=some o/\H b=none:=fun b o e =>
 ⟨I.base.keep b o (I.ok.bs b o e).1 (I.ok.bs b o e).2 (I.ok.nofr e) (I.ok.noex b o e),I.base.free b o (I.ok.bs b o e).1 (I.ok.bs b o e).2 (I.ok.noex b o e)⟩
theorem Inv.bk(I:Inv X pins σ H s):∀ b o,X.base.get? b=some o->s.heap.get? b=some o:=fun b o e=>(I.bs b o e).1
theorem Inv.mod(I:Inv X pins σ H s):Mod X.K X.mg X.base:=I.ok.mod
theorem Inv.kIn(I:Inv X pins σ H s):X.K.In s.heap:=I.ok.mod.kin.keeps I.bk
theorem Inv.lt(I:Inv X pins σ H s):X.env.locals<s.heap.objs.size:=let ⟨_,hn,_⟩:=I.loc;hn.lt
theorem Inv.sz(I:Inv X pins σ H s):X.s₀.heap.objs.size<=s.heap.objs.size:=zro I.ok.above (Nat.le_of_lt I.lt)
theorem Inv.nofs(I:Inv X pins σ H s){a:Addr}(h:s.heap.objs.size<=a):a∉X.fs:=fun hb=>by
 obtain⟨_,o,ho,_⟩:=I.ok.funs.mem hb;exact absurd (zra (Heap.lt_size ho) (zro I.sz h)) (zr7 _)
theorem Inv.cne(I:Inv X pins σ H s):∀ x c,X.env.cells.lookup x=some c->c≠X.env.locals:=fun x c e z=>by
 obtain⟨v,o,ho,hd⟩:=I.cell x c e;obtain⟨m,⟨o',es,ep,ho',hd',_⟩,_⟩:=I.loc;rw[z,ho'] at ho;cases ho;rw[hd'] at hd;cases hd
theorem Inv.funs(I:Inv X pins σ H s):s.heap.FunFrames X.base X.outer:=by
 have all:∀ (l:List Env),(∀ b∈frs l,b∈X.fs)->X.s₀.heap.FunFrames X.base l->s.heap.FunFrames X.base l:=by
  intro l
  induction l with
  | nil=>intro _ _;trivial
  | cons env r ih =>
    intro hs hl;obtain⟨hk,⟨L,o,hf,hn,ho,hd⟩,hr⟩:=hl;have hL:L∈X.fs:=hs L (by unfold frs;rw[zsi,hf];exact zrq);obtain⟨sl,e⟩:=I.base.slot L o ho (I.ok.frf L hL) hL fun z=>I.ok.exfs L z hL;exact⟨hk,⟨L,_,hf,hn,e,hd⟩,ih (fun b hb=>hs b (by unfold frs;rw[zsi,hf];exact zrh _ hb)) hr⟩
 exact all X.outer (fun _ hb=>hb) I.ok.funs
theorem Inv.stack(I:Inv X pins σ H s):s.heap.FunFrames X.base X.stack:=by
 rcases I.ok.stk with e|⟨e,hf⟩
 ·rw[e];exact I.funs
 ·rw[e];obtain⟨m,hn,_⟩:=I.loc;refine .cons (by rw[I.ok.kind];decide) hf hn ?_ I.funs;exact Heap.get?_none_of_le (zro I.ok.bsz I.ok.above)
theorem Inv.stkSub(I:Inv X pins σ H s):∀ b∈frs X.stack,b∈X.env.locals :: X.fs:=fun b hb=>by
 rcases I.ok.stk with e|⟨e,hf⟩
 ·rw[e] at hb;exact zrh _ hb
 ·rw[e] at hb;unfold frs at hb;rw[zsi,hf] at hb;exact hb
theorem Inv.stkFree(I:Inv X pins σ H s):∀ b∈frs X.stack,H b=none:=fun b hb=>by
 rcases zq0.mp (I.stkSub b hb) with e|hb
 ·rw[e];exact I.free
 ·obtain⟨_,o,ho,_⟩:=I.ok.funs.mem hb;exact I.base.free b o ho (I.ok.frf b hb) fun z=>I.ok.exfs b z hb
theorem Inv.step{g':Array GenState}{t':Nat}{d':Drawn}{ch:List Addr}(I:Inv X pins σ H s)
  (hch:∀ b∈ch,(b∈X.ex\/X.s₀.heap.objs.size<=b)/\b≠X.env.locals/\(∀ x c,X.env.cells.lookup x=some c->c≠b)/\∀ p∈X.pn++pins,p.1≠b)
  (keep:∀ b o,b≠X.env.locals->b∉X.fs->b∉ch->s.heap.get? b=some o->H b=none->h'.get? b=some o)
  (slot:∀ b o,b≠X.env.locals->b∈X.fs->b∉ch->s.heap.get? b=some o->H b=none->∃ sl,h'.get? b=some { o with slots:=sl }) (free:∀ b o,b∉ch->s.heap.get? b=some o->H b=none->H' b=none)
  (there:∀ b o,b∉ch->s.heap.get? b=some o->∃ o',h'.get? b=some o')
  (tups:∀ b xs,H b=some (.tup xs)->H' b=some (.tup xs)) (frzs:∀ b o u,H b=some (.frz o u)->H' b=some (.frz o u)) (tbls:∀ b ps,H b=some (.tbl ps)->∃ more,H' b=some (.tbl (ps++more)))
  (ns:∀ m,s.heap.Ns X.env.locals m->h'.Ns X.env.locals m) (hok:HOk X.prog X.w H' h') (hg:AllBare g') :
  Inv X pins σ H' { s with heap:=h',gens:=g',drawn:=d',toks:=t' }:=by
 have neL:∀ b o,X.s₀.heap.get? b=some o->b≠X.env.locals:=fun b o e=>zrk (zra (Heap.lt_size e) I.ok.above);have neC:∀ b o,X.s₀.heap.get? b=some o->b∉X.ex->b∉ch:=fun b o e hx hb=>by
  rcases(hch b hb).1 with z|z
  ·exact hx z
  ·exact absurd (zra (Heap.lt_size e) z) (zr7 _)
 have cellK:∀ x c,X.env.cells.lookup x=some c->∀ v,s.heap.IsCell c v->h'.IsCell c v:=fun x c e v ⟨o,ho,hd⟩=>by
  have nch:c∉ch:=fun z=>(hch c z).2.2.1 x c e rfl;by_cases hc:c∈X.fs
  ·obtain⟨sl,q⟩:=slot c o (I.cne x c e) hc nch ho (I.freeC x c e);exact⟨_,q,hd⟩
  ·exact⟨o,keep c o (I.cne x c e) hc nch ho (I.freeC x c e),hd⟩
 refine⟨I.ok,I.os,hg,⟨fun b o e n hb hx=>?_,fun b o e n hb hx=>?_,fun b o e n hx=>?_,fun b o e hx=>?_,fun b xs e=>tups b xs (I.base.tups b xs e),fun b o xs e=>frzs b o xs (I.base.frzs b o xs e),fun b ps e=>?_⟩,?_,fun x c e=>?_,?_,fun x c e=>?_,fun p hp=>?_,hok,I.len⟩
 ·exact keep b o (neL b o e) hb (neC b o e hx) (I.base.keep b o e n hb hx) (I.base.free b o e n hx)
 ·obtain⟨sl,e1⟩:=I.base.slot b o e n hb hx;obtain⟨sl',e2⟩:=slot b _ (neL b o e) hb (neC b o e hx) e1 (I.base.free b o e n hx);exact⟨sl',e2⟩
 ·obtain⟨o',e1⟩:=I.base.there b o e hx;exact free b o' (neC b o e hx) e1 (I.base.free b o e n hx)
 ·obtain⟨o',e1⟩:=I.base.there b o e hx;exact there b o' (neC b o e hx) e1
 ·obtain⟨m1,e1⟩:=I.base.tbls b ps e;obtain⟨m2,e2⟩:=tbls b _ e1;exact⟨m1++m2,by rw[e2,Array.append_assoc]⟩
 ·obtain⟨m,hn,hl⟩:=I.loc;refine⟨m,ns m hn,fun i x v e1 e2 e3=>?_⟩;obtain⟨u,r,l⟩:=hl i x v e1 e2 e3;refine⟨u,r,?_⟩;rcases l with l|⟨k,c,e,z⟩
  ·exact .inl l
  ·exact .inr ⟨k,c,e,cellK x c e _ z⟩
 ·obtain⟨v,z⟩:=I.cell x c e;exact⟨v,cellK x c e v z⟩
 ·obtain⟨m,⟨o,_,_,ho,_⟩,_⟩:=I.loc;exact free _ o (fun z=>(hch _ z).2.1 rfl) ho I.free
 ·obtain⟨v,o,ho,hd⟩:=I.cell x c e;exact free c o (fun z=>(hch c z).2.2.1 x c e rfl) ho (I.freeC x c e)
 ·obtain⟨e,n,ne,nf,d⟩:=I.pin p hp;have nch:p.1∉ch:=fun z=>(hch p.1 z).2.2.2 p hp rfl;exact⟨keep p.1 p.2 ne nf nch e n,free p.1 p.2 nch e n,ne,nf,d⟩
theorem Inv.un{t':Nat}(I:Inv X pins σ H s)(u:Un X.fs [] H H' s.heap h')(hok:HOk X.prog X.w H' h'):Inv X pins σ H' { s with heap:=h',toks:=t' }:=by
 obtain⟨m,⟨o,es,ep,ho,r⟩,_⟩:=id I.loc;obtain⟨sl,hL⟩:=u.any ho I.free (by simp);exact I.step (g':=s.gens) (d':=s.drawn) (ch:=[]) (fun _ z=>nomatch z) (fun b o _ hb _ e n=>u.keep b o e n hb (by simp)) (fun b o _ hb _ e n=>u.slot b o e n hb (by simp)) (fun b o _ e n=>u.free b o e n (by simp)) (fun b o _ e=>u.there b o e (by simp)) u.tups u.frzs u.tbls (fun m' hm=>by
  obtain⟨o',es',ep',ho',r'⟩:=hm;rw[ho] at ho';cases ho';exact⟨_,es',ep',hL,r'⟩) hok I.bare
theorem Inv.call{g':Array GenState}{t':Nat}{d':Drawn}{ch:List Addr}(I:Inv X pins σ H s)(u:Un (frs X.stack) ch H H' s.heap h')(hok:HOk X.prog X.w H' h')(hg:AllBare g')
  (hch:∀ b∈ch,(b∈X.ex\/X.s₀.heap.objs.size<=b)/\b≠X.env.locals/\(∀ x c,X.env.cells.lookup x=some c->c≠b)/\∀ p∈X.pn++pins,p.1≠b) :
  Inv X pins σ H' { s with heap:=h',gens:=g',drawn:=d',toks:=t' }:=by
 obtain⟨m,⟨o,es,ep,ho,r⟩,_⟩:=id I.loc;obtain⟨sl,hL⟩:=u.any ho I.free fun z=>(hch _ z).2.1 rfl;exact I.step (ch:=ch) hch (fun b o hL hb hc e n=>u.keep b o e n (fun z=>(zq0.mp (I.stkSub b z)).elim hL hb) hc) (fun b o _ _ hc e n=>u.any e n hc) (fun b o hc e n=>u.free b o e n hc) (fun b o hc e=>u.there b o e hc) u.tups u.frzs u.tbls (fun m' hm=>by
  obtain⟨o',es',ep',ho',r'⟩:=hm;rw[ho] at ho';cases ho';exact⟨_,es',ep',hL,r'⟩) hok hg
theorem Inv.turned{t':Nat}{it:Addr}(I:Inv X pins σ H s)(k:∀ b o,b≠it->s.heap.get? b=some o->h'.get? b=some o)(hn:H it=none)(hL:it≠X.env.locals)
  (h1:it∈X.ex\/X.s₀.heap.objs.size<=it) (h2:∀ x c,X.env.cells.lookup x=some c->c≠it) (h3:∀ p∈X.pn++pins,p.1≠it):Inv X pins σ H { s with heap:=h',toks:=t' }:=by
 have nit:∀ b u,H b=some u->b≠it:=fun b u e z=>by rw[z,hn] at e;cases e
 refine I.step (g':=s.gens) (d':=s.drawn) (ch:=[it]) (fun b hb=>?_) (fun b o _ _ hc e _=>k b o (fun z=>hc (by simp[z])) e) (fun b o _ _ hc e _=>⟨o.slots,k b o (fun z=>hc (by simp[z])) e⟩) (fun _ _ _ _ n=>n)
  (fun b o hc e=>⟨o,k b o (fun z=>hc (by simp[z])) e⟩) (fun _ _ e=>e) (fun _ _ _ e=>e) (fun b ps e=>⟨#[],by rw[e];simp⟩) (fun m hm=>?_) (fun b u e=>?_) I.bare
 ·have e:b=it:=by simpa using hb
  subst e;exact⟨h1,hL,h2,h3⟩
 ·obtain⟨o,es,ep,ho,r⟩:=hm;exact⟨o,es,ep,k _ o (Ne.symm hL) ho,r⟩
 ·refine(I.hok b u e).stay (fun c v hc q=>k c v ?_ q) (fun _ q=>q) fun _ _ q=>q;rcases hc with z|z
  ·rw[z];exact nit b u e
  ·exact nit c _ z
theorem Inv.tok(I:Inv X pins σ H s)(t:Nat):Inv X pins σ H { s with toks:=t }:=I.un (h':=s.heap) (t':=t) Un.refl I.hok
theorem Inv.kept{t':Nat}(I:Inv X pins σ H s)(k:∀ b u,s.heap.get? b=some u->h'.get? b=some u):Inv X pins σ H { s with heap:=h',toks:=t' }:=I.un (Un.kept k) (I.hok.kept k)
theorem Inv.laid{a:Addr}{o:HO}{t':Nat}(I:Inv X pins σ H s)(k:∀ b u,s.heap.get? b=some u->h'.get? b=some u)(hp:s.heap.objs.size<=a)(new:Yh X.prog X.w (upd H a o) h' a o) :
  Inv X pins σ (upd H a o) { s with heap:=h',toks:=t' }:=I.un (Un.laid k hp (I.hok.fresh hp)) (I.hok.laid k hp new)
theorem Inv.write{x e:Addr}{o:HO}{t':Nat}(I:Inv X pins σ H s)(mu:Mut (H x))(he:e=x\/H e=some (.own x))(k:∀ b u,b≠e->s.heap.get? b=some u->h'.get? b=some u)(heo:∃ u,h'.get? e=some u)
  (new:Yh X.prog X.w (upd H x o) h' x o):Inv X pins σ (upd H x o) { s with heap:=h',toks:=t' }:=I.un (Un.write mu he k heo) (I.hok.write mu he k heo new)
theorem Inv.weak{σ':List (Option V)}(I:Inv X pins σ H s)(hl:σ'.length=σ.length)(w:∀ (i:Nat) v,σ'[i]?=some (some v)->σ[i]?=some (some v)):Inv X pins σ' H s :=
 ⟨I.ok,I.os,I.bare,I.base,let ⟨m,hn,hl'⟩:=I.loc;⟨m,hn,fun i x v e1 e2 e3=>hl' i x v e1 (e2.imp_left (w i v)) e3⟩,I.cell,I.free,I.freeC,I.pin,I.hok,hl.trans I.len⟩
theorem Inv.pins_of{pins':List (Addr×Obj)}(I:Inv X pins σ H s)(h:∀ p∈pins',s.heap.get? p.1=some p.2/\H p.1=none/\p.1≠X.env.locals/\p.1∉X.fs/\∀ v,p.2.data≠.cell v):Inv X pins' σ H s :=
 ⟨I.ok,I.os,I.bare,I.base,I.loc,I.cell,I.free,I.freeC,fun p hp=>(zrd.mp hp).elim (fun z=>I.pin p (zrn _ z)) (h p),I.hok,I.len⟩
theorem Ot{N:List Str}(hN:N.Nodup){i j:Nat}{x:Str}(a:N[i]?=some x)(b:N[j]?=some x):i=j:=by
 obtain⟨h1,e1⟩:=zqz.mp a;obtain⟨h2,e2⟩:=zqz.mp b;exact(List.getElem_inj hN).mp (e1.trans e2.symm)
noncomputable def J1(X:Cx)(i:Nat)(x:Str):Prop:=(X.fn x=true\/X.env.scope.names.lookup x=some .local)/\∀ v,X.lk[i]?≠some (some v)
theorem Xf{i:Nat}:∀ v:V,([]:List (Option V))[i]?≠some (some v):=fun _ h=>by simp at h
theorem Mr{M:Model}{A:Around}{E:Value->Shared->Prop}{i:Nat}{x:Str}{v:V}{u:Value}{Q:Unit->Shared->Prop}(I:Inv X pins σ H s)(hN:X.N.Nodup)(hi:X.N[i]?=some x)(hx:Loc X.env.scope x)(r:RelV v u)
  (h:∀ s',Inv X pins (σ.set i (some v)) H s'->(∃ a,Heap.SameBut a s.heap s'.heap/\(a=X.env.locals\/X.env.cells.lookup x=some a))->Q () s') (hf:J1 X i x:=by first|exact⟨.inl rfl,Xf⟩|exact⟨.inr rfl,Xf⟩|assumption|exact⟨.inl rfl,by assumption⟩|exact⟨.inr rfl,by assumption⟩):wpAny M A (storeName X.env x u) Q E s:=by
 obtain⟨m,hn,hl⟩:=id I.loc;have hcls:(X.env.scope.kind == .class||(X.env.scope.kind == .module&&X.env.locals != X.env.globals))=false:=by rw[I.ok.kind];rfl
 have hiσ:i<σ.length:=by rw[I.len];exact(zqz.mp hi).1
 have cne:=I.cne;have tracked:∀ {a:Addr} {h':Heap},(∃ o,s.heap.get? a=some o/\H a=none)->Heap.SameBut a s.heap h'->HOk X.prog X.w H h':=fun {a h'} ha hs b ob e=>by
  obtain⟨_,_,hfree⟩:=ha;refine(I.hok b ob e).stay (fun c w' hc q=>(hs.2 c ?_).trans q) (fun _ q=>q) fun _ _ q=>q;rintro rfl;rcases hc with rfl|hc
  ·rw[hfree] at e;cases e
  ·rw[hfree] at hc;cases hc
 rcases hx with hk|hk
 ·refine wpAny_storeName_local hk hn (fun h' hn' hs=>?_) hcls;obtain⟨oL,_,_,hoL,_⟩:=id hn;refine h _ ⟨I.ok,I.os,I.bare,⟨fun b o e n hb hx=>?_,fun b o e n hb hx=>?_,I.base.free,fun b o e hx=>?_,I.base.tups,I.base.frzs,I.base.tbls⟩,⟨_,hn',fun j y v' e1 e2 e3=>?_⟩,fun y c e=>?_,I.free,I.freeC,fun p hp=>?_,tracked ⟨oL,hoL,I.free⟩ hs,by simpa using I.len⟩ ⟨_,hs,.inl rfl⟩
  ·exact(hs.2 b (zrk (zra (Heap.lt_size e) I.ok.above))).trans (I.base.keep b o e n hb hx)
  ·obtain⟨sl,e1⟩:=I.base.slot b o e n hb hx;exact⟨sl,(hs.2 b (zrk (zra (Heap.lt_size e) I.ok.above))).trans e1⟩
  ·obtain⟨o',e1⟩:=I.base.there b o e hx;exact⟨o',(hs.2 b (zrk (zra (Heap.lt_size e) I.ok.above))).trans e1⟩
  ·by_cases hj:j=i
   ·subst hj;rw[hi] at e1;cases e1;rcases e2 with e2|e2
    case' inr=>exact absurd e2 (hf.2 _)
    rw[zrw hiσ] at e2;cases e2;exact⟨u,r,.inl ⟨hk,by simp⟩⟩
   ·have e2:σ[j]?=some (some v')\/X.lk[j]?=some (some v'):=e2.imp_left fun z=>by rw[zrx (Ne.symm hj)] at z;exact z
    obtain⟨u',r',q⟩:=hl j y v' e1 e2 e3;refine⟨u',r',?_⟩;rcases q with ⟨k,e⟩|⟨k,c,e,z⟩
    ·refine .inl ⟨k,?_⟩;have:y≠x:=fun e=>hj (Ot hN e1 (e▸hi));simp[this,e]
    ·exact .inr ⟨k,c,e,z.sameBut hs (cne y c e)⟩
  ·obtain⟨w',z⟩:=I.cell y c e;exact⟨w',z.sameBut hs (cne y c e)⟩
  ·obtain⟨e,n,ne,nf,d⟩:=I.pin p hp;exact⟨(hs.2 p.1 ne).trans e,n,ne,nf,d⟩
 ·have hfn:X.fn x=true:=by
   rcases hf.1 with z|z
   ·exact z
   ·rw[z] at hk;cases hk
  obtain⟨c,hc⟩:=I.ok.has x (.inl hk);obtain⟨w',z⟩:=I.cell x c hc;refine wpAny_storeName_cell I.ok.kind hk hc z (fun h' hc' hs=>?_);obtain⟨oc,hoc,hocd⟩:=id z;refine h { s with heap:=h' } ⟨I.ok,I.os,I.bare,⟨fun b o e n hb hx=>?_,fun b o e n hb hx=>?_,I.base.free,fun b o e hx=>?_,I.base.tups,I.base.frzs,I.base.tbls⟩,⟨m,hn.sameBut hs (Ne.symm (cne x c hc)),fun j y v' e1 e2 e3=>?_⟩,fun y c' e=>?_,I.free,I.freeC,fun p hp=>?_,tracked ⟨oc,hoc,I.freeC x c hc⟩ hs,by simpa using I.len⟩ ⟨c,hs,.inr hc⟩
  ·exact(hs.2 b (zrk (zra (Heap.lt_size e) (I.ok.cab x c hfn hc)))).trans (I.base.keep b o e n hb hx)
  ·obtain⟨sl,e1⟩:=I.base.slot b o e n hb hx;exact⟨sl,(hs.2 b (zrk (zra (Heap.lt_size e) (I.ok.cab x c hfn hc)))).trans e1⟩
  ·obtain⟨o',e1⟩:=I.base.there b o e hx;exact⟨o',(hs.2 b (zrk (zra (Heap.lt_size e) (I.ok.cab x c hfn hc)))).trans e1⟩
  ·by_cases hj:j=i
   ·subst hj;rw[hi] at e1;cases e1;rcases e2 with e2|e2
    case' inr=>exact absurd e2 (hf.2 _)
    rw[zrw hiσ] at e2;cases e2;exact⟨u,r,.inr ⟨.inl hk,c,hc,hc'⟩⟩
   ·have e2:σ[j]?=some (some v')\/X.lk[j]?=some (some v'):=e2.imp_left fun z=>by rw[zrx (Ne.symm hj)] at z;exact z
    obtain⟨u',r',q⟩:=hl j y v' e1 e2 e3;refine⟨u',r',?_⟩;rcases q with q|⟨k,c',e,z'⟩
    ·exact .inl q
    ·refine .inr ⟨k,c',e,z'.sameBut hs ?_⟩;rintro rfl;exact hj (Ot hN e1 (I.ok.inj _ _ _ e hc▸hi))
  ·by_cases hcc:c'=c
   ·subst hcc;exact⟨_,hc'⟩
   ·obtain⟨w2,z2⟩:=I.cell y c' e;exact⟨w2,z2.sameBut hs hcc⟩
  ·obtain⟨e,n,ne,nf,d⟩:=I.pin p hp;refine⟨(hs.2 p.1 ?_).trans e,n,ne,nf,d⟩;intro q;rw[q,hoc] at e;have q':oc=p.2:=Option.some.inj e;exact d w' (by rw[<- q'];exact hocd)
theorem Ou{M:Model}{A:Around}{E:Value->Shared->Prop}{i:Nat}{x:Str}{v:V}{u:Value}{Q:Unit->Shared->Prop}(I:Inv X pins σ H s)(hN:X.N.Nodup)(hi:X.N[i]?=some x)(hx:Loc X.env.scope x)(r:RelV v u)
  (h:∀ s',Inv X pins (σ.set i (some v)) H s'->Q () s') (hf:J1 X i x:=by first|exact⟨.inl rfl,Xf⟩|exact⟨.inr rfl,Xf⟩|assumption|exact⟨.inl rfl,by assumption⟩|exact⟨.inr rfl,by assumption⟩):wpAny M A (storeName X.env x u) Q E s :=
 Mr I hN hi hx r (fun s' I' _=>h s' I') hf
theorem Inv.call'{s':Shared}{ch:List Addr}(I:Inv X pins σ H s)(ho:s'.os=s.os)(u:Un (frs X.stack) ch H H' s.heap s'.heap)(hok:HOk X.prog X.w H' s'.heap)(hg:AllBare s'.gens)
  (hch:∀ b∈ch,(b∈X.ex\/X.s₀.heap.objs.size<=b)/\b≠X.env.locals/\(∀ x c,X.env.cells.lookup x=some c->c≠b)/\∀ p∈X.pn++pins,p.1≠b):Inv X pins σ H' s':=by
 obtain⟨h',g',d',t',o'⟩:=s';have e:o'=s.os:=ho;subst e;exact I.call (g':=g') (t':=t') (d':=d') u hok hg hch
end
noncomputable abbrev XK:=Value->Option Addr->Hp->Prop
noncomputable abbrev St:=List (Option V)
noncomputable abbrev VK:=V->Hp->Prop
noncomputable abbrev TE:=St->Hp->VK->Prop
noncomputable abbrev TT:=St->Hp->(Bool->Hp->Prop)->Prop
noncomputable abbrev TA:=St->Hp->(List V->Hp->Prop)->Prop
structure Um where
 nx:St->Hp->Prop
 rt:VK
 bk:St->Hp->Prop:=fun _ _=>False
 ct:St->Hp->Prop:=fun _ _=>False
noncomputable abbrev TS:=Um->St->Hp->Prop
noncomputable def EP(X:Cx)(pins:List (Addr×Obj))(σ:St)(Q:VK)(u:Value)(s':Shared):Prop:=∃ v H',Inv X pins σ H' s'/\RelV v u/\Q v H'
noncomputable def TP(X:Cx)(pins:List (Addr×Obj))(σ:St)(Q:Bool->Hp->Prop)(b:Bool)(s':Shared):Prop:=∃ H',Inv X pins σ H' s'/\Q b H'
noncomputable def AP(X:Cx)(pins:List (Addr×Obj))(σ:St)(Q:List V->Hp->Prop)(us:List Value)(s':Shared):Prop:=∃ vs H',Inv X pins σ H' s'/\Vals vs us/\Q vs H'
noncomputable def SP(X:Cx)(pins:List (Addr×Obj))(D:Um)(f:Flow)(s':Shared):Prop :=
 match f with
 | .next=>∃ σ' H',Inv X pins σ' H' s'/\D.nx σ' H'
 | .brk=>∃ σ' H',Inv X pins σ' H' s'/\D.bk σ' H'
 | .cont=>∃ σ' H',Inv X pins σ' H' s'/\D.ct σ' H'
 | .ret u=>∃ v σ' H',Inv X pins σ' H' s'/\RelV v u/\D.rt v H'
noncomputable def PE(X:Cx)(e:Expr)(t:TE):Prop :=
 ∀ (pins:List (Addr×Obj)) (s:Shared) (σ:St) (H:Hp) (Q:VK),Inv X pins σ H s->t σ H Q->wpAny (model X.prog X.w) X.A (eval e X.env) (EP X pins σ Q) X.xe s
noncomputable def PT(X:Cx)(e:Expr)(t:TT):Prop :=
 ∀ (pins:List (Addr×Obj)) (s:Shared) (σ:St) (H:Hp) (Q:Bool->Hp->Prop),Inv X pins σ H s->t σ H Q->wpAny (model X.prog X.w) X.A (isTrue e X.env (eval e X.env)) (TP X pins σ Q) X.xe s
noncomputable def PW(X:Cx)(e:Expr)(t:TT):Prop :=
 ∀ (whole:Sem Value) (pins:List (Addr×Obj)) (s:Shared) (σ:St) (H:Hp) (Q:Bool->Hp->Prop),Inv X pins σ H s->t σ H Q->wpAny (model X.prog X.w) X.A (isTrue e X.env whole) (TP X pins σ Q) X.xe s
theorem PW.pt{X:Cx}{e:Expr}{t:TT}(h:PW X e t):PT X e t:=h _
noncomputable def PA(X:Cx)(es:List Expr)(t:TA):Prop :=
 ∀ (pos:Pos) (pins:List (Addr×Obj)) (s:Shared) (σ:St) (H:Hp) (Q:List V->Hp->Prop),Inv X pins σ H s->t σ H Q->wpAny (model X.prog X.w) X.A (spliced (backTo pos (starEach es X.env))) (AP X pins σ Q) X.xe s
noncomputable def PS(X:Cx)(st:Stmt)(t:TS):Prop :=
 ∀ (pins:List (Addr×Obj)) (s:Shared) (σ:St) (H:Hp) (D:Um),Inv X pins σ H s->t D σ H->wpAny (model X.prog X.w) X.A (exec st X.env) (SP X pins D) X.xe s
noncomputable def PSs(X:Cx)(st:List Stmt)(t:TS):Prop :=
 ∀ (pins:List (Addr×Obj)) (s:Shared) (σ:St) (H:Hp) (D:Um),Inv X pins σ H s->t D σ H->wpAny (model X.prog X.w) X.A (execs st X.env) (SP X pins D) X.xe s
theorem thn{α:Type}{t:Sem α}{Q Q':α->Shared->Prop}{M:Model}{A:Around}{E:Value->Shared->Prop}{s:Shared}(h:wpAny M A t Q E s)(hQ:∀ a s,Q a s->Q' a s):wpAny M A t Q' E s:=wpAny_mono h hQ fun _ _ x=>x
section
variable{X:Cx}
inductive tVar(i:Nat)(σ:L2.St)(H:Hp)(Q:VK):Prop where
 | mk(v)(_:σ[i]?=some (some v))(_:Q v H)
noncomputable def tC(v:V):TE:=fun _ H Q=>Q v H
theorem Ax{i:Nat}{x:Str}{pos:Pos}(hN:X.N[i]?=some x)(hv:Vis X.env.scope x)(hd:(x == ("__debug__":Str))=false:=by decide)(hcd:(x == ("__classdict__":Str))=false:=by decide):PE X (.Name x pos) (tVar i):=by
 intro pins s σ H Q I h;obtain⟨v,e,h⟩:=h;obtain⟨m,hn,hl⟩:=I.loc;obtain⟨u,r,l⟩:=hl i x v hN (.inl e) hv;have fin:EP X pins σ Q u s:=⟨v,H,I,r,h⟩;rcases l with ⟨hk,hm⟩|⟨hk,c,hc,hcell⟩
 ·exact wpAny_Name (wpAny_loadName_local I.ok.kind hk hn hm fin) hd
 ·rcases hk with hk|hk
  ·exact wpAny_Name (wpAny_loadName_cell I.ok.kind hk hc hcell fin) hd
  ·exact wpAny_Name (wpAny_loadName_free I.ok.kind hk hc hcell fin hcd) hd
theorem Zi{i j pos}:PE X (.Constant (.int i) j pos) (tC (.int i)):=fun _ _ _ H _ I h=>wpAny_Constant_int ⟨.int i,H,I.tok _,⟨_,rfl⟩,h⟩
theorem V4{b j pos}:PE X (.Constant (.bool b) j pos) (tC (.bl b)):=fun _ _ _ H _ I h=>Constant_bool ⟨.bl b,H,I,rfl,h⟩
theorem Xm{j pos}:PE X (.Constant .none j pos) (tC .non):=fun _ _ _ H _ I h=>Constant_none ⟨.non,H,I,rfl,h⟩
theorem Zx{x j pos}:PE X (.Constant (.str x) j pos) (tC (.str x)):=fun _ _ _ H _ I h=>Calls.Constant_str ⟨.str x,H,I.tok _,⟨_,rfl⟩,h⟩
noncomputable def Gl(X:Cx)(x:Str):Prop:=X.env.kindOf x=some .globalImplicit
theorem Sh{E:Value->Shared->Prop}{pins:List (Addr×Obj)}{s:Shared}{σ:St}{H:Hp}{x:Str}{u:Value}{pos:Pos}{Q:Value->Shared->Prop}(I:Inv X pins σ H s)(hg:Gl X x)(hm:X.mg x=some u)(h:Q u s)
  (hd:(x == ("__debug__":Str))=false:=by decide):wpAny (model X.prog X.w) X.A (eval (.Name x pos) X.env) Q E s :=
 Calls.Name_function_global I.ok.kind hg (Calls.loadGlobal_global (by rw[I.ok.glob];exact I.mod.glob.keeps I.bk) hm h) hd
theorem S9{E:Value->Shared->Prop}{pins:List (Addr×Obj)}{s:Shared}{σ:St}{H:Hp}{x:Str}{u:Value}{pos:Pos}{Q:Value->Shared->Prop}(I:Inv X pins σ H s)(hg:Gl X x)(hm:X.mg x=none)(hv:bootBuiltins x=some u)(h:Q u s)
  (hn:x≠"__name__":=by decide) (hd:(x == ("__debug__":Str))=false:=by decide):wpAny (model X.prog X.w) X.A (eval (.Name x pos) X.env) Q E s:=by
 obtain⟨mb,h1,h2⟩:=I.mod.blt;exact Calls.Name_function_global I.ok.kind hg (Calls.loadGlobal_builtin (by rw[I.ok.glob];exact I.mod.glob.keeps I.bk) hm (by rw[I.ok.blt];exact h1.keeps I.bk) ((h2 x hn).trans hv) h) hd
theorem Hr{x:Str}{v:V}{u:Value}{pos:Pos}(hg:Gl X x)(hm:X.mg x=some u)(r:RelV v u)(hd:(x == ("__debug__":Str))=false:=by decide):PE X (.Name x pos) (tC v) :=
 fun _ _ _ H _ I h=>Sh I hg hm ⟨v,H,I,r,h⟩ hd
theorem R1{x:Str}{v:V}{u:Value}{pos:Pos}(hg:Gl X x)(hm:X.mg x=none)(hv:bootBuiltins x=some u)(r:RelV v u)(hn:x≠"__name__":=by decide)(hd:(x == ("__debug__":Str))=false:=by decide):PE X (.Name x pos) (tC v) :=
 fun _ _ _ H _ I h=>S9 I hg hm hv ⟨v,H,I,r,h⟩ hn hd
variable{a b:Expr}{ta tb:TE}{pos:Pos}
noncomputable def PC(X:Cx)(op:CmpOp)(a b:Expr)(t:TE):Prop :=
 ∀ (pins:List (Addr×Obj)) (s:Shared) (σ:St) (H:Hp) (Q:VK),Inv X pins σ H s->t σ H Q ->
   wpAny (model X.prog X.w) X.A (eval a X.env) (fun v s₁=>wpAny (model X.prog X.w) X.A (eval b X.env) (fun u s₂=>wpAny (model X.prog X.w) X.A (compareOp op v u) (EP X pins σ Q) X.xe s₂) X.xe s₁) X.xe s
inductive tBI(Q:Bool->Hp->Prop)(x:V)(H1:Hp):Prop where
 | mk(c)(_:x=.bl c)(_:Q c H1)
noncomputable def tB(t:TE):TT:=fun σ H Q=>t σ H fun x H1=>tBI Q x H1
theorem Ra{op:CmpOp}{t:TE}(h:PC X op a b t)(h1:behindInMarks op b=false:=by first|exact nobehind _ ⋯ ⋯|rfl):PT X (.Compare a [op] [b] pos) (tB t):=by
 intro pins s σ H Q I hw;refine wpAny_isTrue_Compare1 (thn (h pins s σ H _ I hw) fun v s1 h1=>thn h1 fun u s2 h2=>thn h2 fun c s3 ⟨x,H1,I1,r1,q1⟩=>?_) h1;obtain⟨d,rfl,q⟩:=q1;cases r1;exact wpAny_truthy_bool ⟨H1,I1,q⟩
theorem Uo{e:Expr}{t:TE}(h:PE X e t)(he:∀ whole,isTrue e X.env whole=(do let v <- whole;standAt e.pos;holding [v] (truthy v)):=by intro _;rfl):PT X e (tB t):=by
 intro pins s σ H Q I hw;refine isTrue_plain (thn (h pins s σ H _ I hw) fun v s1 ⟨x,H1,I1,r1,q1⟩=>?_) (he _);obtain⟨d,rfl,q⟩:=q1;cases r1;exact wpAny_truthy_bool ⟨H1,I1,q⟩
variable{tA tB':TT}{rest:List Expr}
noncomputable def zcv(t u:TT):TT:=fun σ H Q=>t σ H fun c H1=>if c=true then u σ H1 Q else Q false H1
noncomputable def tOr(t u:TT):TT:=fun σ H Q=>t σ H fun c H1=>if c=true then Q true H1 else u σ H1 Q
noncomputable def zcw(t:TT):TT:=fun σ H Q=>t σ H fun c H1=>Q (!c) H1
theorem Ud(ha:PT X a tA):PW X (.BoolOp .And [a] pos) tA:=by
 intro wh pins s σ H Q I h;refine isTrue_and (thn (ha pins s σ H Q I h) fun c s1 e=>?_);cases c with
 | true=>exact isTrue_and_nil e
 | false=>exact e
theorem V5(ha:PT X a tA):PW X (.BoolOp .Or [a] pos) tA:=by
 intro wh pins s σ H Q I h;refine isTrue_or (thn (ha pins s σ H Q I h) fun c s1 e=>?_);cases c with
 | false=>exact isTrue_or_nil e
 | true=>exact e
theorem Tt(ha:PT X a tA)(hb:PW X (.BoolOp .And (b :: rest) pos) tB'):PW X (.BoolOp .And (a :: b :: rest) pos) (zcv tA tB'):=by
 intro wh pins s σ H Q I h;refine isTrue_and (thn (ha pins s σ H _ I h) fun c s1 ⟨H1,I1,q1⟩=>?_);cases c with
 | true=>exact hb wh pins s1 σ H1 Q I1 q1
 | false=>exact⟨H1,I1,q1⟩
theorem Ur(ha:PT X a tA)(hb:PW X (.BoolOp .Or (b :: rest) pos) tB'):PW X (.BoolOp .Or (a :: b :: rest) pos) (tOr tA tB'):=by
 intro wh pins s σ H Q I h;refine isTrue_or (thn (ha pins s σ H _ I h) fun c s1 ⟨H1,I1,q1⟩=>?_);cases c with
 | true=>exact⟨H1,I1,q1⟩
 | false=>exact hb wh pins s1 σ H1 Q I1 q1
theorem Tu(ha:PT X a tA):PT X (.UnaryOp .Not a pos) (zcw tA):=by
 intro pins s σ H Q I h;exact isTrue_not (ha pins s σ H (fun c H1=>Q (!c) H1) I h)
inductive Ay(tb:TE)(σ:L2.St)(Q:VK)(x:V)(H1:Hp):Prop where
 | mk(c)(_:x=.bl c)(_:if c=true then tb σ H1 Q else Q (.bl false) H1)
noncomputable def zbh(ta tb:TE):TE:=fun σ H Q=>ta σ H fun x H1=>Ay tb σ Q x H1
inductive Az(Q:VK)(x:V)(H1:Hp):Prop where
 | mk(c)(_:x=.bl c)(_:Q (.bl (!c)) H1)
noncomputable def zbi(ta:TE):TE:=fun σ H Q=>ta σ H fun x H1=>Az Q x H1
theorem J2{op}{t:TE}(h:PE X a t):PE X (.BoolOp op [a] pos) t:=fun pins s σ H Q I hw=>BoolOp_one (h pins s σ H Q I hw)
theorem J9(ha:PE X a ta)(hb:PE X (.BoolOp .And (b :: rest) pos) tb):PE X (.BoolOp .And (a :: b :: rest) pos) (zbh ta tb):=by
 intro pins s σ H Q I h;refine BoolOp_and (thn (ha pins s σ H _ I h) fun v s1 ⟨x,H1,I1,r1,q1⟩=>?_);obtain⟨c,rfl,q1⟩:=q1;cases r1;refine wpAny_truthy_bool ?_;cases c with
 | true=>exact hb pins s1 σ H1 Q I1 q1
 | false=>exact⟨.bl false,H1,I1,rfl,q1⟩
theorem A0(ha:PE X a ta):PE X (.UnaryOp .Not a pos) (zbi ta):=by
 intro pins s σ H Q I h;refine UnaryOp_ (thn (ha pins s σ H _ I h) fun v s1 ⟨x,H1,I1,r1,q1⟩=>?_);obtain⟨c,rfl,q1⟩:=q1;cases r1;exact not_of (wpAny_truthy_bool ⟨.bl (!c),H1,I1,rfl,q1⟩)
noncomputable def tIf(t:TT)(ta tb:TE):TE:=fun σ H Q=>t σ H fun c H1=>if c=true then ta σ H1 Q else tb σ H1 Q
theorem Kq{c:Expr}(hc:PT X c tA)(ha:PE X a ta)(hb:PE X b tb):PE X (.IfExp c a b pos) (tIf tA ta tb):=by
 intro pins s σ H Q I h;refine wpAny_IfExp (thn (hc pins s σ H _ I h) fun d s1 ⟨H1,I1,q1⟩=>?_);cases d with
 | true=>exact ha pins s1 σ H1 Q I1 q1
 | false=>exact hb pins s1 σ H1 Q I1 q1
end
noncomputable def SqL(K:Frag)(H:Hp)(a:Addr)(xs:List V):Prop :=
 Rd H a (.lst xs) \/
  ∃ (o:Obj) (its:Array Value) (n:Nat),K.lookup a=some o/\o.cls=.type "list"/\o.dict=none/\o.data=.seq its n/\its.size<=sizeLine/\Vals xs its.toList
noncomputable def SqT(K:Frag)(H:Hp)(a:Addr)(xs:List V):Prop :=
 Rd H a (.tup xs) \/
  ∃ (o:Obj) (its:Array Value) (n:Nat),K.lookup a=some o/\o.cls=.type "tuple"/\o.data=.seq its n/\its.size<=sizeLine/\Vals xs its.toList
noncomputable def zcx:Value->Option V
 | .none=>some .non
 | .bool b=>some (.bl b)
 | .int i _=>some (.int i)
 | .str x _=>some (.str x)
 | .bytes b _=>some (.byt b)
 | .float b _=>some (.flt b)
 | .ref a=>some (.ref a)
 | .type n=>some (.ty n)
 | _=>none
theorem RelV.abs{x:V}{u:Value}(r:RelV x u):zcx u=some x:=by
 cases x with
 | non=>cases r;rfl
 | bl _=>cases r;rfl
 | int _=>obtain⟨t,rfl⟩:=r;rfl
 | str _=>obtain⟨t,rfl⟩:=r;rfl
 | byt _=>obtain⟨t,rfl⟩:=r;rfl
 | flt _=>obtain⟨t,rfl⟩:=r;rfl
 | ref _=>cases r;rfl
 | ty _=>cases r;rfl
theorem RelV.inj{x y:V}{u:Value}(r:RelV x u)(q:RelV y u):x=y:=Option.some.inj (r.abs.symm.trans q.abs)
theorem Vals.inj:∀ {xs ys:List V} {us:List Value},Vals xs us->Vals ys us->xs=ys
 | _,_,_,.nil,.nil=>rfl
 | _,_,_,.cons r t,.cons r' t'=>by rw[r.inj r',Vals.inj t t']
section
variable{X:Cx}{pins:List (Addr×Obj)}{σ:St}{H:Hp}{s:Shared}{a:Addr}{xs ys:List V}
theorem SqL.of{K:Frag}(h:H a=some (.lst xs)):SqL K H a xs:=.inl (.inl h)
theorem SqT.of{K:Frag}(h:H a=some (.tup xs)):SqT K H a xs:=.inl (.inl h)
theorem Inv.list(I:Inv X pins σ H s)(h:SqL X.K H a xs):∃ its:List Value,Vals xs its/\PlainL s.heap a its.toArray/\xs.length<=sizeLine:=by
 rcases h with h|⟨o,its,n,hk,hc,hd,hs,hz,r⟩
 ·obtain⟨z,its,n,r,e⟩:=h.ok I.hok;exact⟨its,r,⟨_,n,e,rfl,rfl,rfl⟩,z⟩
 ·refine⟨its.toList,r,⟨o,n,I.kIn a o hk,hc,hd,by simpa using hs⟩,?_⟩;have e:=r.length;simp only[Array.length_toList] at e;omega
theorem Inv.tuple(I:Inv X pins σ H s)(h:SqT X.K H a xs):∃ its:List Value,Vals xs its/\IsTup s.heap a its.toArray/\xs.length<=sizeLine:=by
 rcases h with h|⟨o,its,n,hk,hc,hs,hz,r⟩
 ·obtain⟨z,its,r,p⟩:=h.ok I.hok;exact⟨its,r,p,z⟩
 ·refine⟨its.toList,r,⟨o,I.kIn a o hk,hc,n,by simpa using hs⟩,?_⟩;have e:=r.length;simp only[Array.length_toList] at e;omega
theorem Inv.list_inj(I:Inv X pins σ H s)(h:SqL X.K H a xs)(h':SqL X.K H a ys):xs=ys:=by
 obtain⟨its,r,⟨o,n,e,_,_,d⟩,_⟩:=I.list h;obtain⟨its',r',⟨o',n',e',_,_,d'⟩,_⟩:=I.list h';rw[e] at e';cases e';rw[d] at d';injection d' with d1 _;have:its=its':=by simpa using congrArg Array.toList d1
 subst this;exact r.inj r'
theorem Inv.tuple_inj(I:Inv X pins σ H s)(h:SqT X.K H a xs)(h':SqT X.K H a ys):xs=ys:=by
 obtain⟨its,r,⟨o,e,_,n,d⟩,_⟩:=I.tuple h;obtain⟨its',r',⟨o',e',_,n',d'⟩,_⟩:=I.tuple h';rw[e] at e';cases e';rw[d] at d';injection d' with d1 _;have:its=its':=by simpa using congrArg Array.toList d1
 subst this;exact r.inj r'
end
section
variable{X:Cx}{st:Stmt}{rest:List Stmt}{t u:TS}{e:Expr}{te:TE}{pos:Pos}
noncomputable def Ey:TS:=fun D σ H=>D.nx σ H
noncomputable def Z7(t u:TS):TS:=fun D σ H=>t { D with nx:=u D } σ H
theorem Zr:PSs X [] Ey:=fun _ _ σ H _ I h=>wpAny_execs_nil ⟨σ,H,I,h⟩
theorem Zc(h1:PS X st t)(h2:PSs X rest u):PSs X (st :: rest) (Z7 t u):=by
 intro pins s σ H D I h;refine wpAny_execs_cons (thn (h1 pins s σ H { D with nx:=u D } I h) fun f s1 q=>?_);cases f with
 | next =>
   obtain⟨σ',H',I',q⟩:=q;exact h2 pins s1 σ' H' D I' q
 | ret v=>exact q
 | brk=>exact q
 | cont=>exact q
theorem Zf(h1:PS X st t):PSs X [st] t:=by
 intro pins s σ H D I h;refine wpAny_execs_cons (thn (h1 pins s σ H D I h) fun f s1 q=>?_);cases f with
 | next=>exact wpAny_execs_nil q
 | ret v=>exact q
 | brk=>exact q
 | cont=>exact q
theorem Inv.quiet{pins:List (Addr×Obj)}{σ:St}{H:Hp}{s:Shared}(I:Inv X pins σ H s):interactive X.env=false:=by simp[interactive,I.ok.kind]
noncomputable def zbj(te:TE):TS:=fun D σ H=>te σ H fun _ H1=>D.nx σ H1
theorem Z4(he:PE X e te)(hs:swapsWith e none pos.line X.env=pure false:=by rfl):PS X (.Expr e pos) (zbj te):=by
 intro pins s σ H D I h;exact wpAny_Expr_any (thn (he pins s σ H _ I h) fun v s1 ⟨x,H1,I1,r1,q1⟩=>⟨σ,H1,I1,q1⟩) I.quiet hs
noncomputable def zcy(te:TE):TS:=fun D σ H=>te σ H D.rt
theorem Zp(he:PE X e te):PS X (.Return (some e) pos) (zcy te):=by
 intro pins s σ H D I h;exact wpAny_Return_some (thn (he pins s σ H _ I h) fun v s1 ⟨x,H1,I1,r1,q1⟩=>⟨x,σ,H1,I1,r1,q1⟩)
noncomputable def Ez(c:TT)(t u:TS):TS:=fun D σ H=>c σ H fun b H1=>if b=true then t D σ H1 else u D σ H1
theorem Z6{c:Expr}{a b:List Stmt}{tc:TT}(hc:PT X c tc)(ha:PSs X a t)(hb:PSs X b u):PS X (.If c a b pos) (Ez tc t u):=by
 intro pins s σ H D I h;refine wpAny_If (thn (hc pins s σ H _ I h) fun d s1 ⟨H1,I1,q1⟩=>?_);cases d with
 | true=>exact ha pins s1 σ H1 D I1 q1
 | false=>exact hb pins s1 σ H1 D I1 q1
end
noncomputable abbrev TG:=V->St->Hp->(St->Hp->Prop)->Prop
noncomputable abbrev TGs:=List V->St->Hp->(St->Hp->Prop)->Prop
noncomputable def PG(X:Cx)(target:Expr)(t:TG):Prop :=
 ∀ (pins:List (Addr×Obj)) (s:Shared) (σ:St) (H:Hp) (v:V) (u:Value) (Q:St->Hp->Prop),Inv X pins σ H s->RelV v u->t v σ H Q ->
   wpAny (model X.prog X.w) X.A (assign target X.env u) (fun _ s'=>∃ σ' H',Inv X pins σ' H' s'/\Q σ' H') X.xe s
noncomputable def PGs(X:Cx)(ts:List Expr)(t:TGs):Prop :=
 ∀ (pins:List (Addr×Obj)) (s:Shared) (σ:St) (H:Hp) (vs:List V) (us:List Value) (Q:St->Hp->Prop),Inv X pins σ H s->Vals vs us->t vs σ H Q ->
   wpAny (model X.prog X.w) X.A (assignInOrder ((assignEach ts X.env).map (·.2)) us) (fun _ s'=>∃ σ' H',Inv X pins σ' H' s'/\Q σ' H') X.xe s
noncomputable abbrev A3:=V->V->V->Hp->(Hp->Prop)->Prop
noncomputable def zbk(X:Cx)(t:A3):Prop :=
 ∀ (pins:List (Addr×Obj)) (s:Shared) (σ:St) (H:Hp) (o i v:V) (ov iv u:Value) (Q:Hp->Prop),Inv X pins σ H s->RelV o ov->RelV i iv->RelV v u->t o i v H Q ->
   wpAny (model X.prog X.w) X.A (setItem ov iv u) (fun _ s'=>∃ H',Inv X pins σ H' s'/\Q H') X.xe s
section
variable{X:Cx}{pos:Pos}
noncomputable def W4(i:Nat):TG:=fun v σ H Q=>Q (σ.set i (some v)) H
theorem Vq{i:Nat}{x:Str}(hN:X.N.Nodup)(hi:X.N[i]?=some x)(hx:Loc X.env.scope x)(hf:J1 X i x:=by first|exact⟨.inl rfl,Xf⟩|exact⟨.inr rfl,Xf⟩|assumption|exact⟨.inl rfl,by assumption⟩|exact⟨.inr rfl,by assumption⟩):PG X (.Name x pos) (W4 i):=by
 intro pins s σ H v u Q I r h;exact wpAny_assign_Name (Ou I hN hi hx r (fun s' I'=>⟨_,H,I',h⟩) hf)
noncomputable def zcz:TGs:=fun vs σ H Q=>vs=[]/\Q σ H
noncomputable def zbl(t:TG)(u:TGs):TGs:=fun vs σ H Q=>∃ v r,vs=v :: r/\t v σ H fun σ' H'=>u r σ' H' Q
theorem Ue:PGs X [] zcz:=by
 intro pins s σ H vs us Q I r h;obtain⟨e,h⟩:=h;subst e;cases r;exact assignInOrder_nil ⟨σ,H,I,h⟩
theorem Yd{e:Expr}{es:List Expr}{t:TG}{u:TGs}(h1:PG X e t)(h2:PGs X es u)
  (hs:(assignEach (e :: es) X.env).map (·.2)=assign e X.env :: (assignEach es X.env).map (·.2):=by rfl):PGs X (e :: es) (zbl t u):=by
 intro pins s σ H vs us Q I r h;obtain⟨v,vr,e1,h⟩:=h;subst e1;cases r with
 | cons r rr =>
   rw[hs];refine assignInOrder_cons (thn (h1 pins s σ H _ _ _ I r h) fun _ s1 ⟨σ1,H1,I1,q1⟩=>?_);exact h2 pins s1 σ1 H1 _ _ Q I1 rr q1
noncomputable def zbm(K:Frag)(n:Nat)(t:TGs):TG:=fun v σ H Q=>∃ a xs,v=.ref a/\SqT K H a xs/\xs.length=n/\t xs σ H Q
theorem A4{es:List Expr}{k:Nat}{t:TGs}{n:Nat}(hc:X.calm=true)(h:PGs X es t)
  (hn:(assignEach es X.env).length=n:=by rfl) (hst:(assignEach es X.env).findIdx? (·.1)=none:=by rfl):PG X (.Tuple es k pos) (zbm X.K n t):=by
 intro pins s σ H v u Q I r hw;obtain⟨a,xs,e1,hq,hl,hw⟩:=hw;subst e1;cases r;obtain⟨its,rv,ht,hz⟩:=I.tuple hq;refine assign_Tuple_tuple (I.ok.hd hc) ht (by simp[hn,<- hl,rv.length]) hst fun h' hx=>?_;have I1:Inv X pins σ H { s with heap:=h' }:=I.kept (t':=s.toks) fun b o e=>hx b o (zrk (Heap.lt_size e)) e;exact h pins _ σ H xs _ Q I1 (by simpa using rv) hw
noncomputable def zc0(to ti:TE)(t:A3):TG:=fun v σ H Q=>to σ H fun o H1=>ti σ H1 fun i H2=>t o i v H2 fun H3=>Q σ H3
theorem A5{o i:Expr}{to ti:TE}{t:A3}(ho:PE X o to)(hi:PE X i ti)(hs:zbk X t)
  (ha:∀ v,assign (.Subscript o i pos) X.env v=(do
   let ov <- holding [v] (eval o X.env)
   let iv <- holding [v,ov] (eval i X.env)
   standAt pos
   holding [v,ov,iv] (setItem ov iv v)
   release [v,ov,iv] []):=by intro _;rfl):PG X (.Subscript o i pos) (zc0 to ti t):=by
 intro pins s σ H v u Q I r h;rw[ha];refine wpAny_bind (wpAny_holding (thn (ho pins s σ H _ I h) fun ov s1 ⟨x,H1,I1,r1,q1⟩=>?_));refine wpAny_bind (wpAny_holding (thn (hi pins s1 σ H1 _ I1 q1) fun iv s2 ⟨y,H2,I2,r2,q2⟩=>?_));refine wpAny_bind (wpAny_standAt (wpAny_bind (wpAny_holding (thn (hs pins s2 σ H2 x y v ov iv u _ I2 r1 r2 r q2) fun _ s3 ⟨H3,I3,q3⟩=>?_))));exact wpAny_release ⟨σ,H3,I3,q3⟩
noncomputable def Fd(te:TE)(g:TG):TS:=fun D σ H=>te σ H fun x H1=>g x σ H1 D.nx
theorem A6{tg e:Expr}{te:TE}{g:TG}(he:PE X e te)(hg:PG X tg g)(hs:swapsWithSole [tg] e pos.line X.env=pure false:=by rfl)(hw:swappedStores [tg] e X.env=pure none:=by rfl)
  (h1:(assignEach [tg] X.env).map (·.2)=[assign tg X.env]:=by rfl):PS X (.Assign [tg] e pos) (Fd te g):=by
 intro pins s σ H D I h;refine wpAny_Assign_stores (thn (he pins s σ H _ I h) fun v s1 ⟨x,H1,I1,r1,q1⟩=>?_) hs hw;rw[h1];exact thn (hg pins s1 σ H1 x v _ I1 r1 q1) fun _ s2 q=>q
theorem A7{i:Nat}{x:Str}{e:Expr}{te:TE}{pos':Pos}(hN:X.N.Nodup)(hi:X.N[i]?=some x)(hx:Loc X.env.scope x)(he:PE X e te)(hs:swapsWith e (some (.Name x pos')) pos.line X.env=pure false:=by rfl)(hf:J1 X i x:=by first|exact⟨.inl rfl,Xf⟩|exact⟨.inr rfl,Xf⟩|assumption|exact⟨.inl rfl,by assumption⟩|exact⟨.inr rfl,by assumption⟩) :
  PS X (.Assign [.Name x pos'] e pos) (Fd te (W4 i)):=by
 intro pins s σ H D I h;refine wpAny_Assign_Name (thn (he pins s σ H _ I h) fun v s1 ⟨y,H1,I1,r1,q1⟩=>?_) hs;exact Ou I1 hN hi hx r1 (fun s2 I2=>⟨_,H1,I2,q1⟩) hf
end
section
variable{X:Cx}{pos:Pos}
noncomputable def E2(c:TT)(tb:TS):TS:=fun D σ H=>∃ W:Nat->St->Hp->Prop,(∃ m,W m σ H)/\∀ m σ H,W m σ H ->
 c σ H fun b H1=>if b=true then ∃ N:St->Hp->Prop,(∀ σ' H',N σ' H'->∃ m',m' < m/\W m' σ' H')/\tb { D with nx:=N,ct:=N,bk:=D.nx } σ H1 else D.nx σ H1
theorem Kr{c:Expr}{body:List Stmt}{tc:TT}{tb:TS}(hp:PassesOwn (model X.prog X.w) X.A X.env X.xe)(hc:PT X c tc)(hb:PSs X body tb):PS X (.While c body [] pos) (E2 tc tb):=by
 intro pins s σ H D I h;obtain⟨W,⟨m0,w0⟩,turn⟩:=h;refine wpAny_While (codeAny_whileLoop (fun n s'=>∃ σ' H',Inv X pins σ' H' s'/\W n σ' H') ?_ m0 ⟨σ,H,I,w0⟩);rintro n s1 ⟨σ1,H1,I1,w1⟩;refine wpAny_passesOwn hp (thn (hc pins s1 σ1 H1 _ I1 (turn n σ1 H1 w1)) fun b s2 ⟨H2,I2,q2⟩=>?_);cases b with
 | true =>
   obtain⟨N,hN,q2⟩:=q2;rw[if_pos rfl];refine wpAny_passesOwn hp (thn (hb pins s2 σ1 H2 _ I2 q2) fun f s3 q3=>?_);cases f with
   | next =>
     obtain⟨σ3,H3,I3,n3⟩:=q3;obtain⟨m',hm,w3⟩:=hN σ3 H3 n3;exact⟨m',hm,σ3,H3,I3,w3⟩
   | cont =>
     obtain⟨σ3,H3,I3,n3⟩:=q3;obtain⟨m',hm,w3⟩:=hN σ3 H3 n3;exact⟨m',hm,σ3,H3,I3,w3⟩
   | brk=>exact q3
   | ret v=>exact q3
 | false =>
   rw[if_neg zrb];exact wpAny_execs_nil ⟨σ1,H2,I2,q2⟩
end
structure It where
 go:Nat->Hp->Prop
 yld:Nat->Hp->V->Hp->Prop
 stop:Nat->Hp->Prop
noncomputable def FpOk(X:Cx)(pins:List (Addr×Obj))(H:Hp)(b:Addr):Prop :=
 H b=none/\b≠X.env.locals/\b∉X.fs/\(b∈X.ex\/X.s₀.heap.objs.size<=b)/\(∀ x c,X.env.cells.lookup x=some c->c≠b)/\∀ p∈X.pn++pins,p.1≠b
theorem Inv.fpOk{X:Cx}{pins:List (Addr×Obj)}{σ:St}{H H':Hp}{s:Shared}{b:Addr}(I:Inv X pins σ H s)(hb:s.heap.objs.size<=b)(hn:H' b=none):FpOk X pins H' b:=by
 refine⟨hn,Nat.ne_of_gt (zra I.lt hb),I.nofs hb,.inr (zro I.sz hb),fun x c e z=>?_,fun p hp z=>?_⟩
 ·obtain⟨v,q⟩:=I.cell x c e;exact absurd (zra q.lt (by rw[z];exact hb)) (zr7 _)
 ·exact absurd (zra (Heap.lt_size (I.pin p hp).1) (by rw[z];exact hb)) (zr7 _)
structure Ks(P:Program)(w:World)(K:Frag)(tg:Expr)(J:It)(fp:List Addr)(it:Addr)(tn:Nat->Heap->Prop):Prop where
 mem:it∈fp
 obj:∀ i h,tn i h->∀ b∈fp,∃ o,h.get? b=some o/\∀ v,o.data≠.cell v
 keep:∀ i h h',tn i h->(∀ b∈fp,∀ o,h.get? b=some o->h'.get? b=some o)->tn i h'
 item:∀ (X:Cx),X.prog=P->X.w=w->X.K=K->X.calm=true->∀ (i:Nat) (pins:List (Addr×Obj)) (s:Shared) (σ:St) (H:Hp) (E:Value->Shared->Prop),Inv X pins σ H s->(∀ b∈fp,FpOk X pins H b)->tn i s.heap->J.go i H ->
  wpAny (model P w) X.A (pyNext (.ref it)) (fun r s1=>∃ u,r=some u /\
   wpAny (model P w) X.A (letOwnedTupleGo tg (.ref it) u) (fun _ s2=>∃ x H',Inv X pins σ H' s2/\RelV x u/\J.yld i H x H'/\tn (i+1) s2.heap/\∀ b∈fp,H' b=none) E s1) E s
 done:∀ (X:Cx),X.prog=P->X.w=w->X.K=K->X.calm=true->∀ (i:Nat) (pins:List (Addr×Obj)) (s:Shared) (σ:St) (H:Hp) (E:Value->Shared->Prop),Inv X pins σ H s->(∀ b∈fp,FpOk X pins H b)->tn i s.heap->J.stop i H ->
  wpAny (model P w) X.A (pyNext (.ref it)) (fun r s1=>r=none/\Inv X pins σ H s1) E s
 self:∀ (A:Around) (i:Nat) (s:Shared) (Q:Value->Shared->Prop) (E:Value->Shared->Prop),tn i s.heap->Q (.ref it) s->wpAny (model P w) A (pyIter (.ref it)) Q E s
noncomputable abbrev TI:=St->Hp->(It->Hp->Prop)->Prop
noncomputable def PIE(X:Cx)(pins:List (Addr×Obj))(σ:St)(tg:Expr)(R:It->Hp->Prop)(itv:Value)(s2:Shared):Prop :=
 ∃ (it:Addr) (fp:List Addr) (tn:Nat->Heap->Prop) (J:It) (H':Hp),itv=.ref it/\Inv X pins σ H' s2/\Ks X.prog X.w X.K tg J fp it tn/\tn 0 s2.heap/\(∀ b∈fp,FpOk X pins H' b)/\R J H'
noncomputable def PI(X:Cx)(tg iter:Expr)(wi:TI):Prop :=
 ∀ (pins:List (Addr×Obj)) (s:Shared) (σ:St) (H:Hp) (R:It->Hp->Prop),Inv X pins σ H s->wi σ H R ->
   wpAny (model X.prog X.w) X.A (eval iter X.env) (fun v s1=>wpAny (model X.prog X.w) X.A (pyIter v) (PIE X pins σ tg R) X.xe s1) X.xe s
theorem E3{M:Model}{A:Around}{E:Value->Shared->Prop}{s:Shared}{tg:Expr}{it:Addr}{u:Value}{o:Obj}{n:String}{vs:Array Value}{Q:Unit->Shared->Prop}(ho:s.heap.get? it=some o)(hc:o.cls=.type n)(hd:o.data=.fields vs)
  (hn:["enumerate","zip","dict_itemiterator","dict_reverseitemiterator","odict_iterator","itertools.zip_longest","itertools.pairwise"].contains n=false) (hQ:Q () s):wpAny M A (letOwnedTupleGo tg (.ref it) u) Q E s:=by
 unfold letOwnedTupleGo;cases tg<;>first
  | exact wpAny_pure hQ
  | (cases u<;>first
    | exact wpAny_pure hQ
    | (refine wpAny_bind (wpAny_load ho ?_)
       rw[hc,hd];show wpAny M A (if (["enumerate","zip","dict_itemiterator","dict_reverseitemiterator","odict_iterator","itertools.zip_longest","itertools.pairwise"].contains n&&vs[0]? == some (rawInt _))=true then _ else _) Q E s;rw[if_neg (by intro h;rw[hn,Bool.false_and] at h;cases h)];exact wpAny_pure hQ))
noncomputable def Itl(K:Frag)(a:Addr):It :=
 ⟨fun i H=>∃ xs x,SqL K H a xs/\xs[i]?=some x,fun i H x H'=>H'=H/\∀ xs,SqL K H a xs->xs[i]?=some x,fun i H=>∃ xs,SqL K H a xs/\xs.length<=i⟩
noncomputable def Itr(lo:Int)(n:Nat):It:=⟨fun i _=>i<n,fun i H x H'=>H'=H/\x=.int (lo+i),fun i _=>n<=i⟩
theorem Fe{P:Program}{w:World}{K:Frag}{tg:Expr}(a it:Addr):Ks P w K tg (Itl K a) [it] it (fun i h=>h.IsListIter it a i) where
 mem:=by simp
 obj:=fun i h st b hb=>by
  have e:b=it:=by simpa using hb
  subst e;obtain⟨o,e,c,d⟩:=st;exact⟨o,e,fun v z=>by rw[d] at z;cases z⟩
 keep:=fun i h h' st k=>st.at fun o e=>k it (by simp) o e
 item:=by
  intro X hP hw hK hc i pins s σ H E I hf st hg;subst hP hw hK;obtain⟨xs,x,hq,hx⟩:=hg;obtain⟨its,rv,p,hz⟩:=I.list hq;obtain⟨u,hu,ru⟩:=rv.get hx;obtain⟨f0,f1,f2,f3,f4,f5⟩:=hf it (by simp);refine wpAny_pyNext_list_item st p.isList (x:=u) (by simpa using hu) fun h' st' sb=>?_;have I1:Inv X pins σ H { s with heap:=h' }:=I.turned (t':=s.toks) (fun b o hb e=>(sb.2 b hb).trans e) f0 f1 f3 f4 f5;obtain⟨o,e,c,d⟩:=id st';exact⟨u,rfl,E3 (s:={ s with heap:=h' }) e c d ⋯ ⟨x,H,I1,ru,⟨rfl,fun ys hy=>by rw[I.list_inj hy hq];exact hx⟩,st',fun b hb=>(hf b hb).1⟩⟩
 done:=by
  intro X hP hw hK hc i pins s σ H E I hf st hg;subst hP hw hK;obtain⟨xs,hq,hx⟩:=hg;obtain⟨its,rv,p,hz⟩:=I.list hq;obtain⟨f0,f1,f2,f3,f4,f5⟩:=hf it (by simp);have hl:=rv.length;exact wpAny_pyNext_list_end (I.ok.hd hc) st p.isList (by simp;omega) fun h' eb=>⟨rfl,I.turned (t':=s.toks) (fun b o hb e=>eb b o hb e) f0 f1 f3 f4 f5⟩
 self:=fun _ _ _ _ _ st h=>wpAny_pyIter_listiter st h
theorem Ia{P:Program}{w:World}{K:Frag}{tg:Expr}(it:Addr)(lo:Int)(n:Nat):Ks P w K tg (Itr lo n) [it] it (fun i h=>IsRangeIter h it (lo+(i:Nat)*1) ((n:Int)-(i:Nat)) 1) where
 mem:=by simp
 obj:=fun i h st b hb=>by
  have e:b=it:=by simpa using hb
  subst e;exact⟨_,st,fun v z=>by
   have z':Data.fields _=Data.cell v:=z;cases z'⟩
 keep:=fun i h h' st k=>k it (by simp) _ st
 item:=by
  intro X hP hw hK hc i pins s σ H E I hf st hg;subst hP hw hK;obtain⟨f0,f1,f2,f3,f4,f5⟩:=hf it (by simp);have W:=Walks.range (prog:=X.prog) (w:=X.w) (I.ok.hd hc) it lo 1 n;refine W.item i s _ _ hg st fun v h' tk hv st' kk=>?_;obtain⟨t,rfl⟩:=hv;have I1:Inv X pins σ H { s with heap:=h',toks:=tk }:=I.turned (fun b o hb e=>kk b o (by simpa using hb) e) f0 f1 f3 f4 f5;refine⟨_,rfl,E3 (s:={ s with heap:=h',toks:=tk }) (n:="range_iterator") st' rfl rfl ⋯ ⟨.int (lo+i),H,I1,⟨t,?_⟩,⟨rfl,rfl⟩,st',fun b hb=>(hf b hb).1⟩⟩;rw[Int.mul_one]
 done:=by
  intro X hP hw hK hc i pins s σ H E I hf st hg;subst hP hw hK;obtain⟨f0,f1,f2,f3,f4,f5⟩:=hf it (by simp);exact wpAny_pyNext_range_end (I.ok.hd hc) st (by have:n<=i:=hg;omega) fun h' eb=>⟨rfl,I.turned (t':=s.toks) (fun b o hb e=>eb b o hb e) f0 f1 f3 f4 f5⟩
 self:=fun _ _ _ _ _ st h=>wpAny_pyIter_rangeiter st h
section
variable{X:Cx}{tg:Expr}
inductive A8(K:Frag)(R:It->Hp->Prop)(x:V)(H1:Hp):Prop where
 | mk(a)(_:x=.ref a)(_:(∃ xs,SqL K H1 a xs))(_:R (Itl K a) H1)
noncomputable def Ab(K:Frag)(tl:TE):TI:=fun σ H R=>tl σ H fun x H1=>A8 K R x H1
theorem C9{l:Expr}{tl:TE}(hl:PE X l tl):PI X tg l (Ab X.K tl):=by
 intro pins s σ H R I h;refine thn (hl pins s σ H _ I h) fun v s1 ⟨x,H1,I1,r1,q1⟩=>?_;obtain⟨a,e,⟨xs,hq⟩,q⟩:=q1;subst e;cases r1;obtain⟨its,rv,p,hz⟩:=I1.list hq;refine wpAny_pyIter_list p.isList ?_;refine⟨s1.heap.objs.size,[s1.heap.objs.size],_,_,H1,rfl,I1.kept (t':=s1.toks) fun b o e=>Heap.get?_push_of_some _ e,Fe a _,⟨_,Heap.get?_push_size _ rfl,rfl,rfl⟩,fun b hb=>?_,q⟩;have e:b=s1.heap.objs.size:=by simpa using hb
 subst e;exact I1.fpOk (zq1 _) (I1.hok.fresh (zq1 _))
theorem Kt{pins:List (Addr×Obj)}{σ:St}{H:Hp}{s:Shared}{R:It->Hp->Prop}{E:Value->Shared->Prop}{lo hi:Int}{t u v:Tok}{tk:Nat}(I:Inv X pins σ H s)(h1:-(2 ^ 62)<=lo)(h2:lo<2 ^ 62)(h3:-(2 ^ 62)<=hi)(h4:hi<2 ^ 62)
  (q:R (Itr lo (hi-lo).toNat) H):wpAny (model X.prog X.w) X.A (pyIter (.ref s.heap.objs.size)) (PIE X pins σ tg R) E { s with heap:=s.heap.push { cls:=.type "range",data:=.fields #[.int lo t,.int hi u,.int 1 v] },toks:=tk }:=by
 refine wpAny_pyIter_range (IsRange.new ..) (small_one h1 h2 h3 h4) ?_;have I1:Inv X pins σ H { s with heap:=s.heap.push { cls:=.type "range",data:=.fields #[.int lo t,.int hi u,.int 1 v] },toks:=tk }:=I.kept fun b o e=>Heap.get?_push_of_some _ e;refine⟨(s.heap.push { cls:=.type "range",data:=.fields #[.int lo t,.int hi u,.int 1 v] }).objs.size,[(s.heap.push { cls:=.type "range",data:=.fields #[.int lo t,.int hi u,.int 1 v] }).objs.size],_,_,H,rfl,
  I1.kept (t':=tk) fun b o e=>Heap.get?_push_of_some _ e,Ia _ lo (hi-lo).toNat,?_,fun b hb=>?_,q⟩
 ·have e1:lo+((0:Nat):Int)*1=lo:=by simp
  have e2:(((hi-lo).toNat:Nat):Int)-((0:Nat):Int)=Builtin.Range.rangeSize lo hi 1:=by rw[rangeSize_one];split<;>omega
  show IsRangeIter _ _ (lo+((0:Nat):Int)*1) ((((hi-lo).toNat:Nat):Int)-((0:Nat):Int)) 1;rw[e1,e2];exact Heap.get?_push_size _ rfl
 ·have e:b=(s.heap.push { cls:=.type "range",data:=.fields #[.int lo t,.int hi u,.int 1 v] }).objs.size:=by simpa using hb
  subst e;exact I1.fpOk (zq1 _) (I1.hok.fresh (zq1 _))
noncomputable def zbn(ta:TA):TI:=fun σ H R=>ta σ H fun vs H1=>∃ j:Int,vs=[.int j]/\-(2 ^ 62)<=j/\j<2 ^ 62/\R (Itr 0 j.toNat) H1
noncomputable def zbo(ta:TA):TI:=fun σ H R=>ta σ H fun vs H1=>∃ i j:Int,vs=[.int i,.int j]/\(-(2 ^ 62)<=i/\i<2 ^ 62/\-(2 ^ 62)<=j/\j<2 ^ 62)/\R (Itr i (j-i).toNat) H1
theorem Qq{a:Expr}{ta:TA}{p pos:Pos}(hg:Gl X "range")(hm:X.mg "range"=none)(ha:PA X [a] ta)(hs:starEach [a] X.env=[(false,eval a X.env)]:=by rfl):PI X tg (.Call (.Name "range" p) [a] [] pos) (zbn ta):=by
 intro pins s σ H R I h;refine Call_ (S9 I hg hm boot_range (PyProof.Rows.callWith_type1 (thn (ha pos pins s σ H _ I h) fun us s1 ⟨vs,H1,I1,r1,q1⟩=>?_) hs rfl));obtain⟨j,e,q1,q2,q⟩:=q1;subst e;cases r1 with
 | cons r rr =>
   cases rr;obtain⟨t,rfl⟩:=r;exact call_range_1 (Kt I1 ⋯ ⋯ q1 q2 (by simpa using q))
theorem Ff{a b:Expr}{ta:TA}{p pos:Pos}(hg:Gl X "range")(hm:X.mg "range"=none)(ha:PA X [a,b] ta)(hs:starEach [a,b] X.env=[(false,eval a X.env),(false,eval b X.env)]:=by rfl)(hs2:starEach [b] X.env=[(false,eval b X.env)]:=by rfl) :
  PI X tg (.Call (.Name "range" p) [a,b] [] pos) (zbo ta):=by
 intro pins s σ H R I h;refine Call_ (S9 I hg hm boot_range (PyProof.Rows.callWith_type1 (thn (ha pos pins s σ H _ I h) fun us s1 ⟨vs,H1,I1,r1,q1⟩=>?_) (by rw[hs,hs2]) (by rw[hs2];rfl)));obtain⟨i,j,e,⟨q1,q2,q3,q4⟩,q⟩:=q1;subst e;cases r1 with
 | cons r rr =>
   cases rr with
   | cons r' rr =>
     cases rr;obtain⟨t,rfl⟩:=r;obtain⟨t',rfl⟩:=r';exact call_range_2 (Kt I1 q1 q2 q3 q4 q)
noncomputable def zbp(wi:TI)(g:TG)(tb:TS):TS:=fun D σ H=>wi σ H fun J H1=>∃ W:Nat->Nat->St->Hp->Prop,(∃ m,W 0 m σ H1)/\∀ i m σ H,W i m σ H ->
 (J.stop i H/\D.nx σ H)\/(J.go i H/\∃ N:St->Hp->Prop,(∀ σ' H',N σ' H'->∃ m',m' < m/\W (i+1) m' σ' H')/\∀ x H',J.yld i H x H'->g x σ H' fun σ2 H2=>tb { D with nx:=N,ct:=N,bk:=D.nx } σ2 H2)
noncomputable def Qr(fp:List Addr)(h:Heap):List (Addr×Obj):=fp.filterMap fun b=>(h.get? b).map fun o=>(b,o)
theorem U7{fp:List Addr}{h:Heap}{b:Addr}{o:Obj}(hb:b∈fp)(e:h.get? b=some o):(b,o)∈Qr fp h:=zsj.mpr ⟨b,hb,by rw[e];rfl⟩
theorem Fg{fp:List Addr}{h:Heap}{p:Addr×Obj}(hp:p∈Qr fp h):p.1∈fp/\h.get? p.1=some p.2:=by
 obtain⟨b,hb,e⟩:=zsj.mp hp;cases q:h.get? b with
 | none=>rw[q] at e;cases e
 | some o =>
   rw[q] at e;have e':(b,o)=p:=Option.some.inj e;subst e';exact⟨hb,q⟩
theorem Inv.pinned{pins:List (Addr×Obj)}{σ:St}{H:Hp}{s:Shared}{fp:List Addr}(I:Inv X pins σ H s)(hf:∀ b∈fp,FpOk X pins H b)(ho:∀ b∈fp,∃ o,s.heap.get? b=some o/\∀ v,o.data≠.cell v):Inv X (pins++Qr fp s.heap) σ H s :=
 I.pins_of fun p hp=>(zrd.mp hp).elim (fun z=>I.pin p (zri _ z)) fun z=>by
  obtain⟨hb,e⟩:=Fg z;obtain⟨f0,f1,f2,_⟩:=hf p.1 hb;obtain⟨o,e',d⟩:=ho p.1 hb;rw[e] at e';cases e';exact⟨e,f0,f1,f2,d⟩
theorem Inv.unpinned{pins pl:List (Addr×Obj)}{σ:St}{H:Hp}{s:Shared}(I:Inv X (pins++pl) σ H s):Inv X pins σ H s:=I.pins_of fun p hp=>I.pin p (zri _ (zrn _ hp))
theorem V6{iter:Expr}{body:List Stmt}{wi:TI}{g:TG}{tb:TS}{pos:Pos}(hp:PassesOwn (model X.prog X.w) X.A X.env X.xe)(hc:X.calm=true)(hi:PI X tg iter wi)(hg:PG X tg g)(hb:PSs X body tb)
  (hs:∀ x,foldedSetIterable iter X.env x=pure x:=by intro _;rfl):PS X (.For tg iter body [] pos) (zbp wi g tb):=by
 intro pins s σ H D I h;refine wpAny_For (thn (hi pins s σ H _ I h) fun v s1 h1=>thn h1 fun itv s2 h2=>?_) hs;obtain⟨it,fp,tn,J,H2,e,I2,T,st2,f2,W,⟨m0,w0⟩,turn⟩:=h2;subst e;have stat:∀ {H':Hp},(∀ b∈fp,H' b=none)->∀ b∈fp,FpOk X pins H' b:=fun hn b hb=>⟨hn b hb,(f2 b hb).2⟩
 refine codeAny_forLoop_any (fun n s'=>∃ i σ' H',Inv X pins σ' H' s'/\tn i s'.heap/\(∀ b∈fp,H' b=none)/\W i n σ' H') ?_ m0 ⟨0,σ,H2,I2,st2,fun b hb=>(f2 b hb).1,w0⟩;rintro n s3 ⟨i,σ3,H3,I3,st3,fr3,w3⟩;rcases turn i n σ3 H3 w3 with ⟨stop,qn⟩|⟨go,N,hN,step⟩
 ·refine wpAny_passesOwn hp (thn (T.done X rfl rfl rfl hc i pins s3 σ3 H3 X.xe I3 (stat fr3) st3 stop) fun r s4 ⟨hr,I4⟩=>?_);subst hr;exact wpAny_execs_nil ⟨σ3,H3,I4,qn⟩
 ·refine wpAny_passesOwn hp (thn (T.item X rfl rfl rfl hc i pins s3 σ3 H3 X.xe I3 (stat fr3) st3 go) fun r s4 ⟨u,hr,h4⟩=>?_);subst hr;refine wpAny_passesOwn hp (thn h4 fun _ s5 ⟨x,H5,I5,r5,y5,st5,fr5⟩=>?_);have I5':=I5.pinned (stat fr5) (T.obj _ _ st5);refine wpAny_passesOwn hp (thn (hg _ s5 σ3 H5 x u _ I5' r5 (step x H5 y5)) fun _ s6 ⟨σ6,H6,I6,q6⟩=>?_);refine wpAny_passesOwn hp (thn (hb _ s6 σ6 H6 _ I6 q6) fun f s7 q7=>?_);have again:∀ {σ7:St} {H7:Hp},Inv X (pins++Qr fp s5.heap) σ7 H7 s7->N σ7 H7->∃ m,m<n/\∃ i σ' H',Inv X pins σ' H' s7/\tn i s7.heap/\(∀ b∈fp,H' b=none)/\W i m σ' H':=fun {σ7 H7} I7 n7=>by
   obtain⟨m',hm,w7⟩:=hN σ7 H7 n7;refine⟨m',hm,i+1,σ7,H7,I7.unpinned,T.keep _ _ _ st5 fun b hb o e=>(I7.pin (b,o) (zri _ (zri _ (U7 hb e)))).1,fun b hb=>?_,w7⟩;obtain⟨o,e,d⟩:=T.obj _ _ st5 b hb;exact(I7.pin (b,o) (zri _ (zri _ (U7 hb e)))).2.1
  cases f with
  | next=>obtain⟨σ7,H7,I7,n7⟩:=q7;exact again I7 n7
  | cont=>obtain⟨σ7,H7,I7,n7⟩:=q7;exact again I7 n7
  | brk=>obtain⟨σ7,H7,I7,q7⟩:=q7;exact⟨σ7,H7,I7.unpinned,q7⟩
  | ret v=>obtain⟨x7,σ7,H7,I7,r7,q7⟩:=q7;exact⟨x7,σ7,H7,I7.unpinned,r7,q7⟩
end
theorem V7{K:Frag}{a:Addr}{xs:List V}{g:TG}{tb:TS}{D:Um}{σ:St}{H:Hp}(Pv:Nat->St->Hp->Prop)(h0:Pv 0 σ H)(hl:∀ i σ H,i<=xs.length->Pv i σ H->SqL K H a xs)
  (hs:∀ i x σ H,xs[i]?=some x->Pv i σ H->g x σ H fun σ2 H2=>tb { D with nx:=Pv (i+1),ct:=Pv (i+1),bk:=D.nx } σ2 H2) (hd:∀ σ H,Pv xs.length σ H->D.nx σ H) :
  ∃ W:Nat->Nat->St->Hp->Prop,(∃ m,W 0 m σ H)/\∀ i m σ H,W i m σ H ->
    ((Itl K a).stop i H/\D.nx σ H)\/((Itl K a).go i H/\∃ N:St->Hp->Prop,(∀ σ' H',N σ' H'->∃ m',m' < m/\W (i+1) m' σ' H')/\∀ x H',(Itl K a).yld i H x H'->g x σ H' fun σ2 H2=>tb { D with nx:=N,ct:=N,bk:=D.nx } σ2 H2):=by
 refine⟨fun i m σ H=>m=xs.length-i/\i<=xs.length/\Pv i σ H,⟨xs.length,by simp,zrj _,h0⟩,?_⟩;rintro i m σ H ⟨rfl,hi,p⟩;have q:=hl i σ H hi p;by_cases hlt:i<xs.length
 ·refine .inr ⟨⟨xs,xs[i],q,by simp[hlt]⟩,Pv (i+1),fun σ' H' p'=>⟨xs.length-(i+1),by omega,rfl,hlt,p'⟩,fun x H' y=>?_⟩;obtain⟨e,y⟩:=y;subst e;exact hs i x σ _ (y xs q) p
 ·have e:i=xs.length:=by omega
  subst e;exact .inl ⟨⟨xs,q,zq1 _⟩,hd σ H p⟩
theorem Mt{lo:Int}{n:Nat}{g:TG}{tb:TS}{D:Um}{σ:St}{H:Hp}(Pv:Nat->St->Hp->Prop)(h0:Pv 0 σ H)
  (hs:∀ i σ H,i<n->Pv i σ H->g (.int (lo+i)) σ H fun σ2 H2=>tb { D with nx:=Pv (i+1),ct:=Pv (i+1),bk:=D.nx } σ2 H2) (hd:∀ σ H,Pv n σ H->D.nx σ H) :
  ∃ W:Nat->Nat->St->Hp->Prop,(∃ m,W 0 m σ H)/\∀ i m σ H,W i m σ H ->
    ((Itr lo n).stop i H/\D.nx σ H)\/((Itr lo n).go i H/\∃ N:St->Hp->Prop,(∀ σ' H',N σ' H'->∃ m',m' < m/\W (i+1) m' σ' H')/\∀ x H',(Itr lo n).yld i H x H'->g x σ H' fun σ2 H2=>tb { D with nx:=N,ct:=N,bk:=D.nx } σ2 H2):=by
 refine⟨fun i m σ H=>m=n-i/\i<=n/\Pv i σ H,⟨n,by simp,zrj _,h0⟩,?_⟩;rintro i m σ H ⟨rfl,hi,p⟩;by_cases hlt:i<n
 ·refine .inr ⟨hlt,Pv (i+1),fun σ' H' p'=>⟨n-(i+1),by omega,rfl,hlt,p'⟩,fun x H' y=>?_⟩;obtain⟨e,y⟩:=y;subst e y;exact hs i σ _ hlt p
 ·have e:i=n:=by omega
  subst e;exact .inl ⟨zq1 _,hd σ H p⟩
noncomputable abbrev R2:=V->V->Hp->VK->Prop
noncomputable def OpR(X:Cx)(f:Value->Value->Sem Value)(r:R2):Prop :=
 ∀ (pins:List (Addr×Obj)) (s:Shared) (σ:St) (H:Hp) (x y:V) (v u:Value) (Q:VK),Inv X pins σ H s->RelV x v->RelV y u->r x y H Q ->
   wpAny (model X.prog X.w) X.A (f v u) (EP X pins σ Q) X.xe s
noncomputable def UnR(X:Cx)(f:Value->Sem Value)(r:V->Hp->VK->Prop):Prop :=
 ∀ (pins:List (Addr×Obj)) (s:Shared) (σ:St) (H:Hp) (x:V) (v:Value) (Q:VK),Inv X pins σ H s->RelV x v->r x H Q ->
   wpAny (model X.prog X.w) X.A (f v) (EP X pins σ Q) X.xe s
noncomputable def Vo(X:Cx)(f:Value)(r:List V->Hp->VK->Prop):Prop :=
 ∀ (pins:List (Addr×Obj)) (s:Shared) (σ:St) (H:Hp) (xs:List V) (us:List Value) (Q:VK),Inv X pins σ H s->Vals xs us->r xs H Q ->
   wpAny (model X.prog X.w) X.A (call f us) (EP X pins σ Q) X.xe s
noncomputable def zc1(X:Cx)(r:V->Hp->(Bool->Hp->Prop)->Prop):Prop :=
 ∀ (pins:List (Addr×Obj)) (s:Shared) (σ:St) (H:Hp) (x:V) (v:Value) (Q:Bool->Hp->Prop),Inv X pins σ H s->RelV x v->r x H Q ->
   wpAny (model X.prog X.w) X.A (truthy v) (TP X pins σ Q) X.xe s
noncomputable def tOp(r:R2)(ta tb:TE):TE:=fun σ H Q=>ta σ H fun x H1=>tb σ H1 fun y H2=>r x y H2 Q
noncomputable def tUn(r:V->Hp->VK->Prop)(ta:TE):TE:=fun σ H Q=>ta σ H fun x H1=>r x H1 Q
inductive rI(C:Int->Int->Prop)(g:Int->Int->V)(x:V)(y:V)(H:Hp)(Q:VK):Prop where
 | mk(i)(j)(_:x=.int i)(_:y=.int j)(_:C i j/\Q (g i j) H)
inductive rI0(g:Int->Int->V)(x:V)(y:V)(H:Hp)(Q:VK):Prop where
 | mk(i)(j)(_:x=.int i)(_:y=.int j)(_:Q (g i j) H)
inductive rU(g:Int->V)(x:V)(H:Hp)(Q:VK):Prop where
 | mk(i)(_:x=.int i)(_:Q (g i) H)
section
variable{X:Cx}{a b c:Expr}{ta tb tc:TE}{pos:Pos}
theorem binT(ha:PE X a ta)(hb:PE X b tb){pins:List (Addr×Obj)}{s:Shared}{σ:St}{H:Hp}{R:V->V->Hp->Prop}(I:Inv X pins σ H s)
  (h:ta σ H fun x H1=>tb σ H1 fun y H2=>R x y H2) {Q:Value->Shared->Prop} {f:Value->Value->Sem Value}
  (hf:∀ v u s2 x y H2,Inv X pins σ H2 s2->RelV x v->RelV y u->R x y H2->wpAny (model X.prog X.w) X.A (f v u) Q X.xe s2) :
  wpAny (model X.prog X.w) X.A (eval a X.env) (fun v s₁=>wpAny (model X.prog X.w) X.A (eval b X.env) (fun u s₂=>wpAny (model X.prog X.w) X.A (f v u) Q X.xe s₂) X.xe s₁) X.xe s:=by
 refine thn (ha pins s σ H _ I h) fun v s1 ⟨x,H1,I1,r1,q1⟩=>?_;refine thn (hb pins s1 σ H1 _ I1 q1) fun u s2 ⟨y,H2,I2,r2,q2⟩=>?_;exact hf v u s2 x y H2 I2 r1 r2 q2
theorem Ym{op:Operator}{r:R2}(ho:OpR X (binaryOp op) r)(ha:PE X a ta)(hb:PE X b tb):PE X (.BinOp a op b pos) (tOp r ta tb):=by
 intro pins s σ H Q I h;exact wpAny_BinOp (binT ha hb I h fun v u s2 x y H2 I2 rx ry q=>ho pins s2 σ H2 x y v u Q I2 rx ry q)
theorem Hs{op:UnaryOp}{r:V->Hp->VK->Prop}(ho:UnR X (unaryOp op) r)(ha:PE X a ta):PE X (.UnaryOp op a pos) (tUn r ta):=by
 intro pins s σ H Q I h;exact UnaryOp_ (thn (ha pins s σ H _ I h) fun v s1 ⟨x,H1,I1,r1,q1⟩=>ho pins s1 σ H1 x v Q I1 r1 q1)
theorem opI{f:Value->Value->Sem Value}{C:Int->Int->Prop}{g:Int->Int->Int}
  (rule:∀ (i j:Int) (t u:Tok) (s:Shared) (Q:Value->Shared->Prop) (E:Value->Shared->Prop),C i j->Q (.int (g i j) s.toks) { s with toks:=s.toks+1 }->wpAny (model X.prog X.w) X.A (f (.int i t) (.int j u)) Q E s) :
  OpR X f (rI C fun i j=>.int (g i j)):=by
 intro pins s σ H x y v u Q I rx ry h;obtain⟨i,j,rfl,rfl,hc,q⟩:=h;obtain⟨t,rfl⟩:=rx;obtain⟨t',rfl⟩:=ry;exact rule i j t t' s _ _ hc ⟨.int (g i j),H,I.tok _,⟨_,rfl⟩,q⟩
theorem zbq{f:Value->Value->Sem Value}{g:Int->Int->Int}
  (rule:∀ (i j:Int) (t u:Tok) (s:Shared) (Q:Value->Shared->Prop) (E:Value->Shared->Prop),Q (.int (g i j) s.toks) { s with toks:=s.toks+1 }->wpAny (model X.prog X.w) X.A (f (.int i t) (.int j u)) Q E s) :
  OpR X f (rI0 fun i j=>.int (g i j)):=by
 intro pins s σ H x y v u Q I rx ry h;obtain⟨i,j,rfl,rfl,q⟩:=h;obtain⟨t,rfl⟩:=rx;obtain⟨t',rfl⟩:=ry;exact rule i j t t' s _ _ ⟨.int (g i j),H,I.tok _,⟨_,rfl⟩,q⟩
theorem Ba{f:Value->Value->Sem Value}{g:Int->Int->Bool}
  (rule:∀ (i j:Int) (t u:Tok) (s:Shared) (Q:Value->Shared->Prop) (E:Value->Shared->Prop),Q (.bool (g i j)) s->wpAny (model X.prog X.w) X.A (f (.int i t) (.int j u)) Q E s) :
  OpR X f (rI0 fun i j=>.bl (g i j)):=by
 intro pins s σ H x y v u Q I rx ry h;obtain⟨i,j,rfl,rfl,q⟩:=h;obtain⟨t,rfl⟩:=rx;obtain⟨t',rfl⟩:=ry;exact rule i j t t' s _ _ ⟨.bl (g i j),H,I,rfl,q⟩
noncomputable def CDiv(i j:Int):Prop:=0<j/\j<1073741824
noncomputable def CPow(i j:Int):Prop:=0<=j/\j<=1000000/\i.natAbs<2 ^ 64
theorem Ib:OpR X (binaryOp .Add) (rI0 fun i j=>.int (i+j)):=zbq fun _ _ _ _ _ _ _ q=>add_int q
theorem E4:OpR X (binaryOp .Sub) (rI0 fun i j=>.int (i-j)):=zbq fun _ _ _ _ _ _ _ q=>sub_int q
theorem Bb:OpR X (binaryOp .FloorDiv) (rI CDiv fun i j=>.int (i/j)):=opI fun i j _ _ _ _ _ hc q=>by
 have h1:(0:Int)<j:=hc.1;have h2:j<1073741824:=hc.2;exact floordiv_int ⋯ (by rw[Int.fdiv_eq_ediv_of_nonneg i ⋯];exact q) (.inl (PyProof.noPylong_small ⋯))
theorem Rb:OpR X (binaryOp .Mod) (rI (fun _ j=>0<j) fun i j=>.int (i%j)):=opI fun i j _ _ _ _ _ hc q=>by
 have h1:(0:Int)<j:=hc;exact mod_int' ⋯ (by rw[Int.fmod_eq_emod_of_nonneg i ⋯];exact q)
theorem Ln:OpR X (binaryOp .Pow) (rI CPow fun i j=>.int (i ^ j.toNat)):=opI fun _ _ _ _ _ _ _ hc q=>pow_int_small hc.1 hc.2.1 hc.2.2 q
theorem unI{f:Value->Sem Value}{g:Int->Int}
  (rule:∀ (i:Int) (t:Tok) (s:Shared) (Q:Value->Shared->Prop) (E:Value->Shared->Prop),Q (.int (g i) s.toks) { s with toks:=s.toks+1 }->wpAny (model X.prog X.w) X.A (f (.int i t)) Q E s) :
  UnR X f (rU fun i=>.int (g i)):=by
 intro pins s σ H x v Q I rx h;obtain⟨i,rfl,q⟩:=h;obtain⟨t,rfl⟩:=rx;exact rule i t s _ _ ⟨.int (g i),H,I.tok _,⟨_,rfl⟩,q⟩
theorem Lo:UnR X (unaryOp .USub) (rU fun i=>.int (-i)):=unI fun _ _ _ _ _ q=>neg_int q
end
noncomputable def zbr:V->V->Bool
 | .non,.non=>true|.non,.int _=>true|.int _,.non=>true|.non,.bl _=>true|.bl _,.non=>true|.non,.str _=>true|.str _,.non=>true
 | .int _,.int _=>true|.bl _,.bl _=>true|.str _,.str _=>true|.byt _,.byt _=>true
 | .int _,.str _=>true|.str _,.int _=>true|.bl _,.str _=>true|.str _,.bl _=>true
 | _,_=>false
inductive rEq(x:V)(y:V)(H:Hp)(Q:VK):Prop where
 | mk(_:zbr x y=true)(_:Q (.bl (decide (x=y))) H)
inductive rNe(x:V)(y:V)(H:Hp)(Q:VK):Prop where
 | mk(_:zbr x y=true)(_:Q (.bl (!decide (x=y))) H)
theorem Hu{i j:Int}:decide (V.int i=V.int j)=(i == j):=by
 rw[Bool.eq_iff_iff];simp
theorem E5{i j:Bool}:decide (V.bl i=V.bl j)=(i == j):=by
 rw[Bool.eq_iff_iff];simp
theorem Hv{i j:Str}:decide (V.str i=V.str j)=(i == j):=by
 rw[Bool.eq_iff_iff];simp
theorem Hw{i j:Array UInt8}:decide (V.byt i=V.byt j)=(i.toList == j.toList):=by
 rw[Bool.eq_iff_iff];cases i;cases j;simp
section
variable{X:Cx}{a b c:Expr}{ta tb tc:TE}{pos:Pos}
theorem Z9{pins:List (Addr×Obj)}{σ:St}{H:Hp}{s:Shared}{Q:VK}{k k':Bool}(I:Inv X pins σ H s)(q:Q (.bl k) H)(e:k=k'):EP X pins σ Q (.bool k') s:=by
 subst e;exact⟨.bl k,H,I,rfl,q⟩
theorem Xr:OpR X (compareOp .Eq) rEq:=by
 intro pins s σ H x y v u Q I rx ry h;obtain⟨hs,q⟩:=h;cases x with
 | non =>
   cases rx;cases y with
   | non=>cases ry;exact PySem.EqNone.eq_none_none (Z9 I q (by simp))
   | bl j=>cases ry;exact PySem.EqNone.eq_none_bool (Z9 I q (by simp))
   | int j=>obtain⟨t',rfl⟩:=ry;exact PySem.EqNone.eq_none_int (Z9 I q (by simp))
   | str j=>obtain⟨t',rfl⟩:=ry;exact PySem.EqNone.eq_none_str (Z9 I q (by simp))
   | _=>exact absurd (show false=true from hs) zrb
 | bl i =>
   cases rx;cases y with
   | non=>cases ry;exact PySem.EqNone.eq_bool_none (Z9 I q (by simp))
   | bl j=>cases ry;exact eq_bool (Z9 I q E5)
   | str j=>obtain⟨t',rfl⟩:=ry;exact PySem.EqMixed.eq_bool_str (Z9 I q (by simp))
   | _=>exact absurd (show false=true from hs) zrb
 | int i =>
   obtain⟨t,rfl⟩:=rx;cases y with
   | non=>cases ry;exact PySem.EqNone.eq_int_none (Z9 I q (by simp))
   | int j=>obtain⟨t',rfl⟩:=ry;exact eq_int (Z9 I q Hu)
   | str j=>obtain⟨t',rfl⟩:=ry;exact PySem.EqMixed.eq_int_str (Z9 I q (by simp))
   | _=>exact absurd (show false=true from hs) zrb
 | str i =>
   obtain⟨t,rfl⟩:=rx;cases y with
   | non=>cases ry;exact PySem.EqNone.eq_str_none (Z9 I q (by simp))
   | bl j=>cases ry;exact PySem.EqMixed.eq_str_bool (Z9 I q (by simp))
   | int j=>obtain⟨t',rfl⟩:=ry;exact PySem.EqMixed.eq_str_int (Z9 I q (by simp))
   | str j=>obtain⟨t',rfl⟩:=ry;exact eq_str (Z9 I q Hv)
   | _=>exact absurd (show false=true from hs) zrb
 | byt i =>
   obtain⟨t,rfl⟩:=rx;cases y with
   | byt j=>obtain⟨t',rfl⟩:=ry;exact PySem.W.eq_bytes (Z9 I q Hw)
   | _=>exact absurd (show false=true from hs) zrb
 | _=>cases y<;>exact absurd (show false=true from hs) zrb
theorem Hy:OpR X (compareOp .NotEq) rNe:=by
 intro pins s σ H x y v u Q I rx ry h;obtain⟨hs,q⟩:=h;cases x with
 | non =>
   cases rx;cases y with
   | non=>cases ry;exact PySem.EqNone.ne_none_none (Z9 I q (by simp))
   | bl j=>cases ry;exact PySem.EqNone.ne_none_bool (Z9 I q (by simp))
   | int j=>obtain⟨t',rfl⟩:=ry;exact PySem.EqNone.ne_none_int (Z9 I q (by simp))
   | str j=>obtain⟨t',rfl⟩:=ry;exact PySem.EqNone.ne_none_str (Z9 I q (by simp))
   | _=>exact absurd (show false=true from hs) zrb
 | bl i =>
   cases rx;cases y with
   | non=>cases ry;exact PySem.EqNone.ne_bool_none (Z9 I q (by simp))
   | bl j=>cases ry;exact ne_bool (Z9 I q (congrArg not E5))
   | str j=>obtain⟨t',rfl⟩:=ry;exact PySem.EqMixed.ne_bool_str (Z9 I q (by simp))
   | _=>exact absurd (show false=true from hs) zrb
 | int i =>
   obtain⟨t,rfl⟩:=rx;cases y with
   | non=>cases ry;exact PySem.EqNone.ne_int_none (Z9 I q (by simp))
   | int j=>obtain⟨t',rfl⟩:=ry;exact ne_int (Z9 I q (congrArg not Hu))
   | str j=>obtain⟨t',rfl⟩:=ry;exact PySem.EqMixed.ne_int_str (Z9 I q (by simp))
   | _=>exact absurd (show false=true from hs) zrb
 | str i =>
   obtain⟨t,rfl⟩:=rx;cases y with
   | non=>cases ry;exact PySem.EqNone.ne_str_none (Z9 I q (by simp))
   | bl j=>cases ry;exact PySem.EqMixed.ne_str_bool (Z9 I q (by simp))
   | int j=>obtain⟨t',rfl⟩:=ry;exact PySem.EqMixed.ne_str_int (Z9 I q (by simp))
   | str j=>obtain⟨t',rfl⟩:=ry;exact ne_str (Z9 I q (congrArg not Hv))
   | _=>exact absurd (show false=true from hs) zrb
 | byt i =>
   obtain⟨t,rfl⟩:=rx;cases y with
   | byt j=>obtain⟨t',rfl⟩:=ry;exact PySem.W.ne_bytes (Z9 I q (congrArg not Hw))
   | _=>exact absurd (show false=true from hs) zrb
 | _=>cases y<;>exact absurd (show false=true from hs) zrb
theorem Pe:OpR X (compareOp .Lt) (rI0 fun i j=>.bl (decide (i<j))):=Ba fun _ _ _ _ _ _ _ q=>lt_int q
theorem zbs:OpR X (compareOp .LtE) (rI0 fun i j=>.bl (decide (i<=j))):=Ba fun _ _ _ _ _ _ _ q=>le_int q
theorem Tv:OpR X (compareOp .Gt) (rI0 fun i j=>.bl (decide (j<i))):=Ba fun _ _ _ _ _ _ _ q=>gt_int q
theorem Ac:OpR X (compareOp .GtE) (rI0 fun i j=>.bl (decide (j<=i))):=Ba fun _ _ _ _ _ _ _ q=>ge_int q
theorem Ov:OpR X (compareOp .Is) (fun x y H Q=>y=.non/\Q (.bl (decide (x=.non))) H):=by
 intro pins s σ H x y v u Q I rx ry h;obtain⟨rfl,q⟩:=h;cases ry;refine is_none_gen (Z9 I q ?_);cases x<;>first
  | (cases rx;rfl)
  | (obtain⟨t,rfl⟩:=rx;rfl)
theorem R4:OpR X (compareOp .IsNot) (fun x y H Q=>y=.non/\Q (.bl (!decide (x=.non))) H):=by
 intro pins s σ H x y v u Q I rx ry h;obtain⟨rfl,q⟩:=h;cases ry;refine isnot_none_gen (Z9 I q ?_);cases x<;>first
  | (cases rx;rfl)
  | (obtain⟨t,rfl⟩:=rx;rfl)
theorem Zs(b:Expr){op:CmpOp}(h:op≠.In:=by decide)(h2:op≠.NotIn:=by decide):behindInMarks op b=false:=by
 have e1:(op == CmpOp.In)=false:=by cases op<;>first|rfl|exact absurd rfl h
 have e2:(op == CmpOp.NotIn)=false:=by cases op<;>first|rfl|exact absurd rfl h2
 cases b<;>simp[behindInMarks,e1,e2]
theorem U8{op:CmpOp}{r:R2}(ho:OpR X (compareOp op) r)(ha:PE X a ta)(hb:PE X b tb)(hm:behindInMarks op b=false):PE X (.Compare a [op] [b] pos) (tOp r ta tb):=by
 intro pins s σ H Q I h;exact wpAny_Compare1 (binT ha hb I h fun v u s2 x y H2 I2 rx ry q=>ho pins s2 σ H2 x y v u Q I2 rx ry q) hm
noncomputable def zbt(t:TE):TT:=fun σ H Q=>t σ H fun x H'=>∃ k,x=.bl k/\Q k H'
theorem Zn{op:CmpOp}{r:R2}(ho:OpR X (compareOp op) r)(ha:PE X a ta)(hb:PE X b tb)(hm:behindInMarks op b=false):PT X (.Compare a [op] [b] pos) (zbt (tOp r ta tb)):=by
 intro pins s σ H Q I h;refine wpAny_isTrue_Compare1 (thn (ha pins s σ H _ I h) fun v s1 ⟨x,H1,I1,r1,q1⟩=>thn (hb pins s1 σ H1 _ I1 q1) fun u s2 ⟨y,H2,I2,r2,q2⟩ =>
  thn (ho pins s2 σ H2 x y v u _ I2 r1 r2 q2) fun c s3 ⟨z,H3,I3,r3,k,e,q3⟩=>?_) hm
 subst e;cases r3;exact wpAny_truthy_bool ⟨H3,I3,q3⟩
noncomputable def TruV(K:Frag)(x:V)(H:Hp)(k:Bool):Prop :=
 match x with
 | .non=>k=false
 | .bl b=>k=b
 | .int i=>k=(i != 0)
 | .str y=>y.length<=sizeLine/\k=((y.length:Int) != 0)
 | .byt y=>y.size<=sizeLine/\k=((y.size:Int) != 0)
 | .ref p=>(∃ xs,SqL K H p xs/\k=!xs.isEmpty)\/(∃ xs,SqT K H p xs/\k=!xs.isEmpty)\/∃ kvs,H p=some (.dK kvs)/\k=!kvs.isEmpty
 | _=>False
theorem Ie{κ:Type}{kvs:List (κ×V)}{vs:List (κ×Value)}(r:KV kvs vs):(!vs.isEmpty)=!kvs.isEmpty:=by
 cases r<;>rfl
theorem Ow{xs:List V}{its:List Value}(r:Vals xs its):(!its.toArray.isEmpty)=!xs.isEmpty:=by
 cases r<;>simp
theorem Rc:(sizeLine:Nat)<2 ^ 63:=by rw[sizeLine_eq];decide
theorem A9:zc1 X (fun x H Q=>∃ k,TruV X.K x H k/\Q k H):=by
 intro pins s σ H x v Q I rx h;obtain⟨k,e,q⟩:=h;have hl:=Rc;have hs:sizeLine=16777216:=sizeLine_eq;cases x with
 | non =>
   cases rx;have e':k=false:=e;subst e';exact truthy_none ⟨H,I,q⟩
 | bl b =>
   cases rx;have e':k=b:=e;subst e';exact wpAny_truthy_bool ⟨H,I,q⟩
 | int i =>
   obtain⟨t,rfl⟩:=rx;have e':k=(i != 0):=e;subst e';exact PySem.P.truthy_int ⟨H,I,q⟩
 | str y =>
   obtain⟨t,rfl⟩:=rx;obtain⟨hy,e'⟩:y.length<=sizeLine/\k=((y.length:Int) != 0):=e;subst e';exact PySem.P.truthy_str ⋯ ⟨H,I.tok _,q⟩
 | byt y =>
   obtain⟨t,rfl⟩:=rx;obtain⟨hy,e'⟩:y.size<=sizeLine/\k=((y.size:Int) != 0):=e;subst e';exact PySem.W.truthy_bytes ⋯ ⟨H,I.tok _,q⟩
 | ref p =>
   cases rx;have e':(∃ xs,SqL X.K H p xs/\k=!xs.isEmpty)\/(∃ xs,SqT X.K H p xs/\k=!xs.isEmpty)\/∃ kvs,H p=some (.dK kvs)/\k=!kvs.isEmpty:=e;rcases e' with ⟨xs,hx,e'⟩|⟨xs,hx,e'⟩|⟨kvs,hx,e'⟩
   ·subst e';obtain⟨its,r,pl,hz⟩:=I.list hx;have hlen:=r.length;exact wpAny_truthy_list pl.isList (by simp only[zq6];omega) ⟨H,I.tok _,by rw[Ow r];exact q⟩
   ·subst e';obtain⟨its,r,pl,hz⟩:=I.tuple hx;have hlen:=r.length;exact truthy_tuple pl (by simp only[zq6];omega) ⟨H,I.tok _,by rw[Ow r];exact q⟩
   ·subst e';obtain⟨hz,hS,vs,r,m⟩:kvs.length<=sizeLine/\(p == sysModules)=false/\∃ vs,KV kvs vs/\s.heap.DictOf (Yb X.prog X.w) p vs:=I.hok p _ hx;have hlen:kvs.length=vs.length:=Paired.length r;exact wpAny_truthy_dict hS m ⋯ ⟨H,I.tok _,by rw[Ie r];exact q⟩
 | _=>exact(show False from e).elim
theorem E6(ha:PE X a ta)(he:∀ whole,isTrue a X.env whole=(do let v <- whole;standAt a.pos;holding [v] (truthy v))) :
  PT X a (fun σ H Q=>ta σ H fun x H'=>∃ k,TruV X.K x H' k/\Q k H'):=by
 intro pins s σ H Q I h;exact isTrue_plain (thn (ha pins s σ H _ I h) fun v s1 ⟨x,H1,I1,r1,q1⟩=>A9 pins s1 σ H1 x v Q I1 r1 q1) (he _)
theorem S4{x:V}{us:List Value}(r:Vals [x] us):∃ u,us=[u]/\RelV x u:=by
 cases r with
 | cons r1 r2=>cases r2;exact⟨_,rfl,r1⟩
theorem Ae{x y:V}{us:List Value}(r:Vals [x,y] us):∃ u w',us=[u,w']/\RelV x u/\RelV y w':=by
 cases r with
 | cons r1 r2 =>
   cases r2 with
   | cons r3 r4=>cases r4;exact⟨_,_,rfl,r1,r3⟩
theorem Fh(hc:X.calm=true):Vo X (.builtin "max") (fun xs H Q=>∃ i j,xs=[.int i,.int j]/\Q (.int (if j>i then j else i)) H):=by
 intro pins s σ H xs us Q I r h;obtain⟨i,j,rfl,q⟩:=h;obtain⟨u,w',rfl,⟨t,rfl⟩,⟨t',rfl⟩⟩:=Ae r;refine max_two_ints (I.ok.hd hc) fun h' tk k=>⟨_,H,I.kept k,?_,q⟩
 by_cases hj:j>i
 ·rw[if_pos hj,if_pos hj];exact⟨_,rfl⟩
 ·rw[if_neg hj,if_neg hj];exact⟨_,rfl⟩
theorem Mu:Vo X (.type "int") (fun xs H Q=>(∃ i,xs=[.int i]/\Q (.int i) H)\/∃ k,xs=[.bl k]/\Q (.int (if k then 1 else 0)) H):=by
 intro pins s σ H xs us Q I r h;rcases h with ⟨i,rfl,q⟩|⟨k,rfl,q⟩
 ·obtain⟨u,rfl,t,rfl⟩:=S4 r;exact call_int_int ⟨.int i,H,I,⟨_,rfl⟩,q⟩
 ·obtain⟨u,rfl,r1⟩:=S4 r;cases r1;exact call_int_bool ⟨.int (if k then 1 else 0),H,I.tok _,⟨_,rfl⟩,q⟩
end
structure ObjM(h:Heap)(x dx C:Addr)(mA:Str->Option Value):Prop where
 obj:h.get? x=some (PySem.W.instObj C dx)
 ns:h.Ns1 dx mA
 ne:dx≠x
theorem Fi{h:Heap}{dx:Addr}{mA:Str->Option Value}(n:h.Ns1 dx mA):∃ od,h.get? dx=some od/\∀ name,PySem.W.lookIn name od=some (mA name):=by
 obtain⟨o,es,ep,ho,hd,hk,_,hm⟩:=n;refine⟨o,ho,fun name=>?_⟩;have e:=hm name;unfold nsFind findBy at e;rw[<- Array.find?_toList] at e;unfold PySem.W.lookIn;rw[hd];dsimp only;split
 ·rename_i y q;rw[q] at e;exact congrArg some e
 ·rename_i q;rw[q] at e;have a:es.toList.any (·.refKey)=false:=by
   rw[List.any_eq_false];intro y hy;obtain⟨z,t,hkey⟩:=hk y (Array.mem_toList_iff.mp hy);simp[DictEntry.refKey,hkey]
  have a':¬ es.toList.any (·.refKey)=true:=by rw[a];exact zrb
  rw[if_neg a'];exact congrArg some e
theorem ObjM.look{h:Heap}{x dx C:Addr}{mA:Str->Option Value}(I:ObjM h x dx C mA):∃ od,PySem.W.InstAt h x (PySem.W.instObj C dx) C (some od)/\∀ name,PySem.W.lookIn name od=some (mA name) :=
 let ⟨od,ho,hl⟩:=Fi I.ns
 ⟨od,⟨I.obj,rfl,rfl,ho⟩,hl⟩
section
variable{prog:Program}{w:World}{A:Around}{E:Value->Shared->Prop}{s:Shared}{K:Frag}{x dx C f:Addr}{mA:Str->Option Value}{name:Str}{v:Value}
theorem Bc{expr:Bool}{Q:Value->Shared->Prop}(X:K.In s.heap)(I:ObjM s.heap x dx C mA)(hg:PySem.W.plainGet K C name=true)(hh:PySem.W.hasDictIn K C=true)
  (ha:PySem.W.findIn K (.ref C) name=some none) (hv:mA name=some v) (hv':PySem.W.handedIn v=true) (h:Q v { s with toks:=s.toks+1 }) :
  wpAny (model prog w) A (getAttr (.ref x) name expr) Q E s:=by
 obtain⟨od,J,hl⟩:=I.look;exact PySem.W.get_value X J (PySem.W.plainGet_of hg).1 (PySem.W.findObj_own hh ha rfl (by rw[hl,hv])) hv' h
theorem E7{pl:Sem Bool}{Q:Value×List Value->Shared->Prop}(X:K.In s.heap)(I:ObjM s.heap x dx C mA)(hg:PySem.W.plainGet K C name=true)
  (hf:PySem.W.findIn K (.ref C) name=some (some (.ref f))) (ht:PySem.W.isFn K (.ref f)=true) (hv:mA name=none) (h:Q (.ref f,[.ref x]) s) :
  wpAny (model prog w) A (getMethod (.ref x) name pl) Q E s:=by
 obtain⟨od,J,hl⟩:=I.look;exact PySem.W.method_fn X J (PySem.W.plainGet_of hg).1 (PySem.W.plainGet_of hg).2 hf (beq_iff_eq.mp ht) (by show (PySem.W.lookIn name od).map (·.isSome)=some false;rw[hl,hv];rfl) h
theorem Bd{ns:List Str}{Q:Unit->Shared->Prop}(X:K.In s.heap)(I:ObjM s.heap x dx C mA)
  (hs:PySem.W.findIn K (.ref C) "__setattr__"=some (some (.builtin "object.__setattr__"))) (hp:PySem.W.plainOver K C=true) (ht:PySem.W.takerIn K C name=some none) (hh:PySem.W.hasDictIn K C=true)
  (hw:PySem.Within mA ns) (hsz:ns.length<=sizeLine)
  (h:∀ h',ObjM h' x dx C (fun y=>if y=name then some v else mA y)->Heap.SameBut dx s.heap h'->Q () { s with heap:=h',toks:=s.toks+2 }) :
  wpAny (model prog w) A (setAttr (.ref x) name v) Q E s:=by
 obtain⟨od,J,hl⟩:=I.look;refine PySem.W.set_plain X J hs (PySem.W.osa_open (s:={ s with toks:=s.toks+1 }) (r:=none) X J hp ht fun b=>?_);obtain⟨cd,hc,hd'⟩:=PySem.W.any_some hh;have hx:s.heap.get? x=some ⟨.ref C,some dx,.plain,#[]⟩:=I.obj;refine wpAny_bind (wpAny_pure (wpAny_bind (wpAny_bind (wpAny_loadPart hx (wpAny_bind (PySem.W.Looks.here (s:={ s with toks:=s.toks+1 }) (PySem.W.looks_clsIn X hc) ?_))))));rw[hd'];refine wpAny_pure (a:=some dx) (wpAny_bind (wpAny_pure (wpAny_bind ?_)));refine wpAny_nsSet1 (s:={ s with toks:=s.toks+1 }) I.ns fun h' hn2 hs2=>?_;obtain⟨oD,esD,epD,hoD,hdD,hcD⟩:=hn2.count (PySem.Within.cons name v hw);refine wpAny_bind (wpAny_lookBehind hoD (by rw[hdD];exact pastItsLine_dict (zro hcD (by rw[zrc];omega))) ?_);exact wpAny_pure (h _ ⟨(hs2.2 _ (Ne.symm I.ne)).trans I.obj,hn2,I.ne⟩ hs2)
theorem E8{R:Result->Shared->Prop}{vs:List Value}{kw:List (Str×Value)}(X:K.In s.heap)(hm:PySem.W.makesIn K C=true)
  (hi:PySem.W.findIn K (.ref C) "__init__"=some (some (.ref f))) (hf:PySem.W.typeIn K (.ref f)=some (.type "function"))
  (h:codeAny (model prog w) (A.under (.builtin "type.__call__" ⟨.ref C :: vs,kw⟩)) (.call (.ref f) ⟨.ref (s.heap.objs.size+1) :: vs,kw⟩) (PySem.W.InitBack (s.heap.objs.size+1) R)
   { s with heap:=(s.heap.push PySem.W.emptyDict).push (PySem.W.instObj C s.heap.objs.size) }) :
  codeAny (model prog w) A (.call (.ref C) ⟨vs,kw⟩) R s:=by
 obtain⟨hh,g,d,t,os⟩:=s;exact PySem.W.make_core (PySem.W.makes_of X hm) (PySem.W.looks_findIn X hi) (fun self=>PySem.W.bind_fn X self hf) (.inl rfl) h
end
noncomputable def putF(f:Str)(v:V):List (Str×V)->List (Str×V)
 | []=>[(f,v)]
 | (g,x) :: r=>if g=f then (g,v) :: r else (g,x) :: putF f v r
theorem Pf(f g:Str)(v:V):∀ fs:List (Str×V),(putF f v fs).lookup g=if g=f then some v else fs.lookup g
 | []=>by
   show List.lookup g [(f,v)]=_;by_cases h:g=f
   ·have hb:(g == f)=true:=beq_iff_eq.mpr h;simp only[List.lookup,hb,if_pos h]
   ·have hb:(g == f)=false:=zrf.mpr h;simp only[List.lookup,hb,if_neg h]
 | (k,x) :: r=>by
   have ih:=Pf f g v r;rw[show putF f v ((k,x) :: r)=(if k=f then (k,v) :: r else (k,x) :: putF f v r) from rfl];by_cases hk:k=f
   ·rw[if_pos hk];by_cases h:g=k
    ·have hb:(g == k)=true:=beq_iff_eq.mpr h;simp only[List.lookup,hb,if_pos (h.trans hk)]
    ·have hb:(g == k)=false:=zrf.mpr h;simp only[List.lookup,hb,if_neg (fun e:g=f=>h (e.trans hk.symm))]
   ·rw[if_neg hk];by_cases h:g=k
    ·have hb:(g == k)=true:=beq_iff_eq.mpr h;simp only[List.lookup,hb,if_neg (fun e:g=f=>hk (h.symm.trans e))]
    ·have hb:(g == k)=false:=zrf.mpr h;simp only[List.lookup,hb];exact ih
theorem Qs(f:Str)(v:V):∀ fs:List (Str×V),f∈(putF f v fs).map (·.1)/\∀ g,g∈fs.map (·.1)->g∈(putF f v fs).map (·.1)
 | []=>⟨by simp[putF],fun g h=>by simp at h⟩
 | (k,x) :: r=>by
   obtain⟨i1,i2⟩:=Qs f v r;rw[show putF f v ((k,x) :: r)=(if k=f then (k,v) :: r else (k,x) :: putF f v r) from rfl];by_cases hk:k=f
   ·rw[if_pos hk];subst hk;exact⟨by simp,fun g h=>by simpa using h⟩
   ·rw[if_neg hk];refine⟨?_,fun g h=>?_⟩
    ·rw[zq8];exact zrh _ i1
    ·rw[zq8] at h ⊢;rcases zq0.mp h with e|e
     ·exact zq0.mpr (.inl e)
     ·exact zrh _ (i2 g e)
theorem Ph(f:Str)(v:V):∀ fs:List (Str×V),(putF f v fs).length<=fs.length+1
 | []=>by simp[putF]
 | (k,x) :: r=>by
   have ih:=Ph f v r;rw[show putF f v ((k,x) :: r)=(if k=f then (k,v) :: r else (k,x) :: putF f v r) from rfl];by_cases hk:k=f
   ·rw[if_pos hk,zrc,zrc];omega
   ·rw[if_neg hk,zrc,zrc];omega
theorem RelO.some_of{v:V}{o:Option Value}(r:RelO (some v) o):∃ u,o=some u/\RelV v u:=by
 cases o with
 | none=>exact(show False from r).elim
 | some u=>exact⟨u,rfl,r⟩
theorem RelO.none_of{o:Option Value}(r:RelO none o):o=none:=by
 cases o with
 | none=>rfl
 | some u=>exact(show False from r).elim
theorem Fj{v:V}{u:Value}(r:RelV v u):PySem.W.handedIn u=true:=by
 cases v with
 | non=>cases (show u=Value.none from r);rfl
 | bl b=>cases (show u=Value.bool b from r);rfl
 | int i=>obtain⟨t,e⟩:=(show ∃ t,u=Value.int i t from r);cases e;rfl
 | str x=>obtain⟨t,e⟩:=(show ∃ t,u=Value.str x t from r);cases e;rfl
 | byt b=>obtain⟨t,e⟩:=(show ∃ t,u=Value.bytes b t from r);cases e;rfl
 | flt b=>obtain⟨t,e⟩:=(show ∃ t,u=Value.float b t from r);cases e;rfl
 | ref a=>cases (show u=Value.ref a from r);rfl
 | ty n=>cases (show u=Value.type n from r);rfl
section
variable{P:Program}{w:World}{H H':Hp}{h h':Heap}{a C dx:Addr}{fs fs':List (Str×V)}
theorem Og(hok:HOk P w H h)(e:H a=some (.ins C dx fs)):∃ mA,ObjM h a dx C mA/\(∀ f,RelO (fs.lookup f) (mA f))/\PySem.Within mA (fs.map (·.1))/\fs.length<=1000/\H dx=some (.own a):=by
 obtain⟨d,z,ne,ob,mA,n,r,q⟩:=(show Yh P w H h a (.ins C dx fs) from hok a _ e);exact⟨mA,⟨ob,n,ne⟩,r,q,z,d⟩
end
structure Cls(K:Frag)(C:Addr):Prop where
 pg:PySem.W.plainGet K C Str.empty=true
 hd:PySem.W.hasDictIn K C=true
 po:PySem.W.plainOver K C=true
 sa:PySem.W.findIn K (.ref C) "__setattr__"=some (some (.builtin "object.__setattr__"))
theorem Cls.get{K:Frag}{C:Addr}(c:Cls K C)(f:Str):PySem.W.plainGet K C f=true:=c.pg
noncomputable def Y2(K:Frag)(C:Addr)(f:Str):Prop:=PySem.W.findIn K (.ref C) f=some none
theorem Y2.taker{K:Frag}{C:Addr}{f:Str}(n:Y2 K C f):PySem.W.takerIn K C f=some none:=by
 unfold PySem.W.takerIn;rw[show PySem.W.findIn K (.ref C) f=some none from n];rfl
structure Con(K:Frag)(C:Addr)(f:Str)(v:V)(u:Value):Prop where
 at_:PySem.W.findIn K (.ref C) f=some (some u)
 rel:RelV v u
 get:PySem.W.specialIn K u "__get__"=some none
 cp:PySem.W.copiedNames.contains f=false
structure E9(K:Frag)(C:Addr)(m:Str)(f:Addr):Prop where
 at_:PySem.W.findIn K (.ref C) m=some (some (.ref f))
 fn:PySem.W.isFn K (.ref f)=true
 kp:PySem.W.keepIn K (.ref f)=true
section
variable{X:Cx}{pins:List (Addr×Obj)}{σ:St}{H:Hp}{s:Shared}{a C dx:Addr}{fs:List (Str×V)}{f:Str}{v:V}{A:Around}{E:Value->Shared->Prop}
theorem Ig{b:Bool}{Q:Value->Shared->Prop}(I:Inv X pins σ H s)(e:H a=some (.ins C dx fs))(c:Cls X.K C)(n:Y2 X.K C f)(l:fs.lookup f=some v)
  (h:∀ u s',Inv X pins σ H s'->RelV v u->Q u s'):wpAny (model X.prog X.w) A (getAttr (.ref a) f b) Q E s:=by
 obtain⟨mA,O,r,_,_,_⟩:=Og I.hok e;obtain⟨u,hu,ru⟩:=RelO.some_of (v:=v) (o:=mA f) (by rw[<- l];exact r f);exact Bc I.kIn O (c.get f) c.hd n hu (Fj ru) (h u _ (I.tok _) ru)
theorem Ox{m:Str}{g:Addr}{pl:Sem Bool}{Q:Value×List Value->Shared->Prop}(I:Inv X pins σ H s)(e:H a=some (.ins C dx fs))(c:Cls X.K C)(k:E9 X.K C m g)(l:fs.lookup m=none)
  (h:Q (.ref g,[.ref a]) s):wpAny (model X.prog X.w) A (getMethod (.ref a) m pl) Q E s:=by
 obtain⟨mA,O,r,_,_,_⟩:=Og I.hok e;have hn:mA m=none:=RelO.none_of (by rw[<- l];exact r m);exact E7 I.kIn O (c.get m) k.at_ k.fn hn h
theorem Ih{y:V}{u:Value}{Q:Unit->Shared->Prop}(I:Inv X pins σ H s)(e:H a=some (.ins C dx fs))(c:Cls X.K C)(n:Y2 X.K C f)(hl:fs.length<1000)(ry:RelV y u)
  (h:∀ s',Inv X pins σ (upd H a (.ins C dx (putF f y fs))) s'->Q () s'):wpAny (model X.prog X.w) A (setAttr (.ref a) f u) Q E s:=by
 obtain⟨mA,O,r,wi,_,ho⟩:=Og I.hok e;have hz:(fs.map (·.1)).length<=sizeLine:=by rw[zqx,sizeLine_eq];omega
 refine Bd I.kIn O c.sa c.po n.taker c.hd wi hz fun h' O' sb=>h _ ?_;have hd:∃ o,h'.get? dx=some o:=let ⟨o,_,_,e',_⟩:=O'.ns;⟨o,e'⟩;refine I.write (x:=a) (e:=dx) (by rw[e];exact True.intro) (.inr ho) (fun b q hb z=>(sb.2 b hb).trans z) hd ?_;refine⟨by rw[Zg O.ne];exact ho,?_,O.ne,O'.obj,_,O'.ns,fun g=>?_,fun g hg=>?_⟩
 ·have:=Ph f y fs;omega
 ·show RelO ((putF f y fs).lookup g) (if g=f then some u else mA g);rw[Pf];by_cases q:g=f
  ·rw[if_pos q,if_pos q];exact ry
  ·rw[if_neg q,if_neg q];exact r g
 ·by_cases q:g=f
  ·rw[q];exact(Qs f y fs).1
  ·refine(Qs f y fs).2 g (wi g fun z=>hg ?_);show (if g=f then some u else mA g)=none;rw[if_neg q];exact z
theorem Inv.made(I:Inv X pins σ H s):Inv X pins σ (upd (upd H s.heap.objs.size (.own (s.heap.objs.size+1))) (s.heap.objs.size+1) (.ins C s.heap.objs.size []))
  { s with heap:=(s.heap.push PySem.W.emptyDict).push (PySem.W.instObj C s.heap.objs.size) }:=by
 have e1:(s.heap.push PySem.W.emptyDict).get? s.heap.objs.size=some PySem.W.emptyDict:=Heap.get?_push_size s.heap rfl;have e2:((s.heap.push PySem.W.emptyDict).push (PySem.W.instObj C s.heap.objs.size)).get? (s.heap.objs.size+1)=some (PySem.W.instObj C s.heap.objs.size):=by
  have:=Heap.get?_push_size (s.heap.push PySem.W.emptyDict) (o:=PySem.W.instObj C s.heap.objs.size) rfl
  rwa [Heap.size_push] at this
 have e3:(s.heap.push PySem.W.emptyDict).Ns s.heap.objs.size (fun _=>none):=⟨PySem.W.emptyDict,#[],_,e1,rfl,(fun e he=>absurd he (by simp)),fun _=>rfl⟩;have I1:=I.laid (a:=s.heap.objs.size) (o:=.own (s.heap.objs.size+1)) (h':=s.heap.push PySem.W.emptyDict) (t':=s.toks) (fun b u q=>Heap.get?_push_of_some _ q) (zq1 _) ⟨_,e1⟩;refine I1.laid (a:=s.heap.objs.size+1) (o:=.ins C s.heap.objs.size []) (t':=s.toks) (fun b u q=>Heap.get?_push_of_some _ q) (Nat.le_of_eq (Heap.size_push _ _)) ?_;have ne:s.heap.objs.size≠s.heap.objs.size+1:=zrk (Nat.lt_succ_self _);refine⟨by rw[Zg ne,Zb],zrj _,ne,e2,fun _=>none,(Heap.Ns1.of_empty e3).at fun o q=>Heap.get?_push_of_some _ q,fun _=>True.intro,fun y hy=>absurd rfl hy⟩
theorem Be{prog:Program}{w:World}{env:Env}{e:Expr}{f:Str}{pos:Pos}{s:Shared}{Q:Value->Shared->Prop}(hb:attributeBase e f env (eval e env)=eval e env)
  (h:wpAny (model prog w) A (eval e env) (fun o s₁=>wpAny (model prog w) A (getAttr o f true) Q E s₁) E s):wpAny (model prog w) A (eval (.Attribute e f pos) env) Q E s :=
 Attribute_any_ h (by rw[arm_eval_Attribute,hb])
end
inductive zbu(K:Frag)(f:Str)(Q:VK)(x:V)(H1:Hp):Prop where
 | mk(a)(C)(dx)(fs)(v)(_:x=.ref a)(_:H1 a=some (.ins C dx fs))(_:Cls K C)(_:Y2 K C f)(_:fs.lookup f=some v)(_:Q v H1)
noncomputable def zbv(K:Frag)(ta:TE)(f:Str):TE:=fun σ H Q=>ta σ H fun x H1=>zbu K f Q x H1
inductive zbw(K:Frag)(f:Str)(D:Um)(σ:L2.St)(y:V)(x:V)(H2:Hp):Prop where
 | mk(a)(C)(dx)(fs)(_:x=.ref a)(_:H2 a=some (.ins C dx fs))(_:Cls K C)(_:Y2 K C f)(_:fs.length<1000)(_:D.nx σ (upd H2 a (.ins C dx (putF f y fs))))
noncomputable def zbx(K:Frag)(ta tv:TE)(f:Str):TS:=fun D σ H=>tv σ H fun y H1=>ta σ H1 fun x H2=>zbw K f D σ y x H2
section
variable{X:Cx}{o e value:Expr}{f:Str}{pos pos' tpos:Pos}{ta tv:TE}
theorem zaa(he:PE X e ta)(hb:attributeBase e f X.env (eval e X.env)=eval e X.env):PE X (.Attribute e f pos) (zbv X.K ta f):=by
 intro pins s σ H Q I h;refine Be hb (thn (he pins s σ H _ I h) fun u s1 ⟨x,H1,I1,rx,a,C,dx,fs,v,ex,ea,c,n,l,q⟩=>?_);subst ex;obtain rfl:u=Value.ref a:=rx;exact Ig I1 ea c n l fun u' s2 I2 ru=>⟨v,H1,I2,ru,q⟩
theorem zab(ha:PE X o ta)(hv:PE X value tv)(hs:swapsWith value (some (.Attribute o f pos')) pos.line X.env=pure false):PS X (.Assign [.Attribute o f pos'] value pos) (zbx X.K ta tv f):=by
 intro pins s σ H D I h;refine plainObj_wpAny_Assign_Attribute (thn (hv pins s σ H _ I h) fun u s1 ⟨y,H1,I1,ry,q⟩=>thn (ha pins s1 σ H1 _ I1 q) fun ov s2 ⟨x,H2,I2,rx,a,C,dx,fs,ex,ea,c,n,l,q2⟩=>?_) hs;subst ex;obtain rfl:ov=Value.ref a:=rx;exact Ih I2 ea c n l ry fun s3 I3=>⟨σ,_,I3,q2⟩
end
section
variable{X:Cx}{pins:List (Addr×Obj)}{σ:St}{H:Hp}{s:Shared}{A:Around}{E:Value->Shared->Prop}{Q:Value->Shared->Prop}{c:Value}{b:Bool}
inductive Qt(K:Frag)(H:Hp):V->Value->Prop where
 | non:Qt K H .non (.type "NoneType")
 | bl (x:Bool):Qt K H (.bl x) (.type "bool")
 | int (i:Int):Qt K H (.int i) (.type "int")
 | str (x:Str):Qt K H (.str x) (.type "str")
 | flt (x:UInt64):Qt K H (.flt x) (.type "float")
 | lst {a:Addr} {xs:List V} (e:H a=some (.lst xs)):Qt K H (.ref a) (.type "list")
 | frz {a:Addr} {o:Obj} {xs:List V} (e:H a=some (.frz o (.lst xs))):Qt K H (.ref a) (.type "list")
 | tup {a:Addr} {xs:List V} (e:H a=some (.tup xs)):Qt K H (.ref a) (.type "tuple")
 | dK {a:Addr} {kvs:List (Key×V)} (e:H a=some (.dK kvs)):Qt K H (.ref a) (.type "dict")
 | dT {a:Addr} {kvs:List (List Key×V)} (e:H a=some (.dT kvs)):Qt K H (.ref a) (.type "dict")
 | ins {a C dx:Addr} {fs:List (Str×V)} (e:H a=some (.ins C dx fs)) (cl:Cls K C) (ha:PySem.W.findIn K (.ref C) "__class__"=some (some (.builtin "object.__class__")))
   (hn:PySem.W.specialIn K (.builtin "object.__class__") "__get__"=some (some (.builtin "getset_descriptor.__get__"))) (htk:PySem.W.takesIn K (.builtin "object.__class__")=some true)
   (hm:PySem.W.mroIn K C (.type "object")=some true):Qt K H (.ref a) (.ref C)
theorem Fl{x:V}{u t:Value}(I:Inv X pins σ H s)(rx:RelV x u)(ty:Qt X.K H x t)(e:PySem.W.kitOne X.K t c=some b)(h:∀ tk,Q (.bool b) { s with toks:=tk }) :
  wpAny (model X.prog X.w) A (call (.builtin "isinstance") [u,c]) Q E s:=by
 cases ty with
 | non=>cases (show u=Value.none from rx);exact PySem.W.kia_one PySem.W.kitx_none I.kIn True.intro e (fun z=>nomatch z) h
 | bl y=>cases (show u=Value.bool y from rx);exact PySem.W.kia_one PySem.W.kitx_bool I.kIn True.intro e (fun z=>nomatch z) h
 | int i=>obtain⟨t,q⟩:=(show ∃ t,u=Value.int i t from rx);cases q;exact PySem.W.kia_one PySem.W.kitx_int I.kIn True.intro e (fun z=>nomatch z) h
 | str y=>obtain⟨t,q⟩:=(show ∃ t,u=Value.str y t from rx);cases q;exact PySem.W.kia_one PySem.W.kitx_str I.kIn True.intro e (fun z=>nomatch z) h
 | flt y=>obtain⟨t,q⟩:=(show ∃ t,u=Value.float y t from rx);cases q;exact PySem.W.kia_one PySem.W.kitx_float I.kIn True.intro e (fun z=>nomatch z) h
 | @lst a xs ea =>
   cases (show u=Value.ref a from rx);obtain⟨_,_,n,_,h1⟩:=(show Yh X.prog X.w H s.heap a (.lst xs) from I.hok a _ ea);exact PySem.W.kia_one PySem.W.kitx_list I.kIn ⟨_,h1,rfl⟩ e (fun z=>nomatch z) h
 | @frz a ob xs ea =>
   cases (show u=Value.ref a from rx);obtain⟨_,_,_,n,_,h1⟩:=(show Yh X.prog X.w H s.heap a (.frz ob (.lst xs)) from I.hok a _ ea);exact PySem.W.kia_one PySem.W.kitx_list I.kIn ⟨_,h1,rfl⟩ e (fun z=>nomatch z) h
 | @tup a xs ea =>
   cases (show u=Value.ref a from rx);obtain⟨_,_,_,p⟩:=(show Yh X.prog X.w H s.heap a (.tup xs) from I.hok a _ ea);obtain⟨o,h1,h2,_⟩:=p;exact PySem.W.kia_one PySem.W.kitx_tuple I.kIn ⟨o,h1,h2⟩ e (fun z=>nomatch z) h
 | @dK a kvs ea =>
   cases (show u=Value.ref a from rx);obtain⟨_,_,vs,_,p⟩:=(show Yh X.prog X.w H s.heap a (.dK kvs) from I.hok a _ ea);obtain⟨o,es,ep,h1,h2,_⟩:=p;exact PySem.W.kia_one PySem.W.kitx_dict I.kIn ⟨o,h1,h2.1⟩ e (fun z=>nomatch z) h
 | @dT a kvs ea =>
   cases (show u=Value.ref a from rx);obtain⟨_,_,xs,_,o,es,ep,h1,h2,_⟩:=(show Yh X.prog X.w H s.heap a (.dT kvs) from I.hok a _ ea);exact PySem.W.kia_one PySem.W.kitx_dict I.kIn ⟨o,h1,h2.1⟩ e (fun z=>nomatch z) h
 | @ins a C dx fs ea cl ha hn htk hm =>
   cases (show u=Value.ref a from rx);obtain⟨mA,O,_⟩:=Og I.hok ea;obtain⟨od,J,_⟩:=O.look;exact PySem.W.kia_one (PySem.W.kitx_own (cl.get _) cl.hd ha hn htk hm) I.kIn J e (fun z=>nomatch z) h
end
structure X4(k:Nat)(A:Around):Prop where
 hd:A.handled=none
 dp:A.depth+3*k+5<recursionLimit
 un:A.units+16*k+200<cLine
theorem X4.mono{j k:Nat}{A:Around}(r:X4 k A)(h:j<=k):X4 j A:=⟨r.hd,by have:=r.dp;omega,by have:=r.un;omega⟩
theorem X4.deeper{k:Nat}{A:Around}(r:X4 (k+1) A)(env:Env):X4 k (A.deeper env) :=
 ⟨r.hd,by have:=r.dp;show A.depth+1+3*k+5<_;omega,by have:=r.un;show A.units+3+16*k+200<_;omega⟩
theorem Ii{A:Around}{C:Addr}{us:List Value}{kw:List (Str×Value)}:(A.under (.builtin "type.__call__" ⟨.ref C :: us,kw⟩)).depth=A.depth+1:=by
 first|rfl|simp[Around.under,Code.weight,Code.isCreation,Code.isGuard,Code.isCaller,Code.frames,Code.isFrame,guardIds]
theorem Ij{A:Around}{C:Addr}{us:List Value}{kw:List (Str×Value)}:(A.under (.builtin "type.__call__" ⟨.ref C :: us,kw⟩)).units=A.units+1:=by
 first|rfl|simp[Around.under,Code.cUnits,Code.frames,Code.isFrame]
theorem X4.make{k:Nat}{A:Around}(r:X4 (k+1) A)(C:Addr)(us:List Value)(kw:List (Str×Value)):X4 k (A.under (.builtin "type.__call__" ⟨.ref C :: us,kw⟩)) :=
 ⟨r.hd,by have:=r.dp;rw[Ii];omega,by have:=r.un;rw[Ij];omega⟩
theorem X4.depth{k:Nat}{A:Around}(r:X4 k A):A.depth<recursionLimit:=by have:=r.dp;omega
theorem X4.units{k:Nat}{A:Around}(r:X4 k A):A.units+64<cLine:=by have:=r.un;omega
noncomputable def tNil:TA:=fun _ H Q=>Q [] H
noncomputable def Us(ta:TE)(tr:TA):TA:=fun σ H Q=>ta σ H fun x H1=>tr σ H1 fun xs H2=>Q (x :: xs) H2
section
variable{X:Cx}{e:Expr}{es:List Expr}{te:TE}{t:TA}{pos:Pos}
theorem Zd:PA X [] tNil:=fun _ _ _ _ H Q I h=>Calls.spliced_nil ⟨[],H,I,.nil,h⟩
theorem Za(ha:PE X e te)(hr:PA X es t)(hs:starEach (e :: es) X.env=(false,eval e X.env) :: starEach es X.env:=by rfl):PA X (e :: es) (Us te t):=by
 intro pos pins s σ H Q I h;rw[hs];show wpAny _ _ (spliced ((false,eval e X.env) :: backTo pos (starEach es X.env))) _ _ s;refine Calls.spliced_cons (thn (ha pins s σ H _ I h) fun u s1 ⟨x,H1,I1,r1,q1⟩=>?_);exact thn (hr pos pins s1 σ H1 _ I1 q1) fun us s2 ⟨xs,H2,I2,r2,q2⟩=>⟨x :: xs,H2,I2,.cons r1 r2,q2⟩
inductive zby(Q:VK)(xs:List V)(H1:Hp):Prop where
 | mk(_:xs.length<=sizeLine)(_:∀ p,H1 p=none->Q (.ref p) (upd H1 p (.tup xs)))
noncomputable def zc2(t:TA):TE:=fun σ H Q=>t σ H fun xs H1=>zby Q xs H1
inductive zbz(Q:VK)(xs:List V)(H1:Hp):Prop where
 | mk(_:xs.length<=sizeLine)(_:∀ p,H1 p=none->Q (.ref p) (upd H1 p (.lst xs)))
noncomputable def tLst(t:TA):TE:=fun σ H Q=>t σ H fun xs H1=>zbz Q xs H1
theorem Yp{x1}(h:PA X es t):PE X (.Tuple es x1 pos) (zc2 t):=by
 intro pins s σ H Q I hq;refine wpAny_Tuple_spliced (thn (h pos pins s σ H _ I hq) fun us s1 ⟨xs,H1,I1,r,z,q⟩=>⟨by rw[<- r.length];exact z,?_⟩);have hf:H1 s1.heap.objs.size=none:=I1.hok.fresh (zq1 _);refine⟨.ref s1.heap.objs.size,upd H1 s1.heap.objs.size (.tup xs),I1.laid (t':=s1.toks) (fun b u e=>Heap.get?_push_of_some _ e) (zq1 _) ?_,rfl,q _ hf⟩;exact⟨z,us,r,⟨_,Heap.get?_push_size _ rfl,rfl,_,rfl⟩⟩
theorem Z3(h:PA X es t):PE X (.List es pos) (tLst t):=by
 intro pins s σ H Q I hq;refine wpAny_List_spliced (thn (h pos pins s σ H _ I hq) fun us s1 ⟨xs,H1,I1,r,z,q⟩=>⟨by rw[<- r.length];exact z,?_⟩);have hf:H1 s1.heap.objs.size=none:=I1.hok.fresh (zq1 _);refine⟨.ref s1.heap.objs.size,upd H1 s1.heap.objs.size (.lst xs),I1.laid (t':=s1.toks) (fun b u e=>Heap.get?_push_of_some _ e) (zq1 _) ?_,rfl,q _ hf⟩;exact⟨z,us,0,r,Heap.get?_push_size _ rfl⟩
end
noncomputable abbrev Sp:=List V->Hp->VK->XK->Prop
noncomputable abbrev CXT:=List Env->Hp->Shared->XK->Value->Shared->Prop
structure Ik(P:Program)(w:World)(K:Frag)(mg:Str->Option Value)(base:Heap)(A:Around)(outer:List Env)(s:Shared)(H:Hp):Prop where
 frames:A.frames=some outer
 mod:Mod K mg base
 bs:∀ b o,base.get? b=some o->s.heap.get? b=some o/\H b=none
 bsz:base.objs.size<=s.heap.objs.size
 funs:s.heap.FunFrames base outer
 frf:∀ b∈frs outer,H b=none
 hok:HOk P w H s.heap
 bare:AllBare s.gens
noncomputable def CE(outer:List Env)(P:Program)(w:World)(H:Hp)(s:Shared)(Q:VK)(u:Value)(s':Shared):Prop :=
 ∃ v H',s'.os=s.os/\AllBare s'.gens/\Un (frs outer) [] H H' s.heap s'.heap/\HOk P w H' s'.heap/\RelV v u/\Q v H'
noncomputable def CR(CX:CXT)(outer:List Env)(P:Program)(w:World)(H:Hp)(s:Shared)(Q:VK)(E:XK)(r:Result)(s':Shared):Prop :=
 match r with
 | .ok (.ret u)=>CE outer P w H s Q u s'
 | .ok _=>False
 | .error e=>CX outer H s E e s'
structure FnOk(P:Program)(w:World)(K:Frag)(mg:Str->Option Value)(base:Heap)(CX:CXT)(k:Nat)(f:Addr)(fd:FuncData)(ps:List Str)(sp:Sp):Prop where
 len:∀ vs H Q E,sp vs H Q E->vs.length=ps.length
 run:∀ (A:Around) (outer:List Env) (s:Shared) (H:Hp) (args:Args) (us:List Value) (vs:List V) (Q:VK) (E:XK),X4 k A->Ik P w K mg base A outer s H->BindsTo s fd args (ps.zip us)->Vals vs us->sp vs H Q E ->
  codeAny (model P w) A (.call (.ref f) args) (CR CX outer P w H s Q E) s
theorem Ik.make{P:Program}{w:World}{K:Frag}{mg:Str->Option Value}{base:Heap}{A:Around}{outer:List Env}{s:Shared}{H:Hp}(e:Ik P w K mg base A outer s H)(C:Addr)(us:List Value)(kw:List (Str×Value)) :
  Ik P w K mg base (A.under (.builtin "type.__call__" ⟨.ref C :: us,kw⟩)) outer s H:=⟨by first|exact e.frames|(simpa [Around.under,Code.envs,Code.isFrame,pushEnvs] using e.frames),e.mod,e.bs,e.bsz,e.funs,e.frf,e.hok,e.bare⟩
section
variable{X:Cx}{pins:List (Addr×Obj)}{σ:St}{H:Hp}{s s':Shared}
theorem Inv.env0(I:Inv X pins σ H s):Ik X.prog X.w X.K X.mg X.base X.A X.stack s H :=
 ⟨I.ok.frames,I.ok.mod,I.bs,zro I.ok.bsz I.sz,I.stack,I.stkFree,I.hok,I.bare⟩
theorem Inv.after{Q:VK}{u:Value}(I:Inv X pins σ H s)(h:CE X.stack X.prog X.w H s Q u s'):EP X pins σ Q u s':=by
 obtain⟨v,H',os,bare,un,hok,r,q⟩:=h;obtain⟨hh,g,d,t,os'⟩:=s';obtain rfl:os'=s.os:=os;exact⟨v,H',I.call (h':=hh) (g':=g) (d':=d) (t':=t) (ch:=[]) un hok bare (fun b z=>absurd z (by simp)),r,q⟩
end
noncomputable def Dc(sp:Sp)(dvs:List V)(E:XK)(t:TA):TE:=fun σ H Q=>t σ H fun vs H1=>sp (vs++dvs) H1 Q E
inductive zac(C:Addr)(m:Str)(sp:Sp)(dvs:List V)(E:XK)(t:TA)(σ:L2.St)(Q:VK)(x:V)(H1:Hp):Prop where
 | mk(a)(dx)(fs)(_:x=.ref a)(_:H1 a=some (.ins C dx fs))(_:fs.lookup m=none)(_:t σ H1 fun vs H2=>sp (x :: (vs++dvs)) H2 Q E)
noncomputable def Hz(C:Addr)(m:Str)(sp:Sp)(dvs:List V)(E:XK)(ta:TE)(t:TA):TE:=fun σ H Q=>ta σ H fun x H1=>zac C m sp dvs E t σ Q x H1
noncomputable def Ga(C:Addr)(sp:Sp)(dvs:List V)(E:XK)(t:TA):TE:=fun σ H Q=>t σ H fun vs H1=>∀ x dx,H1 x=none->H1 dx=none->dx≠x ->
 sp (.ref x :: (vs++dvs)) (upd (upd H1 dx (.own x)) x (.ins C dx [])) (fun v H2=>v=.non/\Q (.ref x) H2) E
noncomputable def Ut(K:Frag)(fd:FuncData)(ps:List Str)(ds:List Value):Prop :=
 ∀ (s:Shared) (us:List Value),K.In s.heap->(us++ds).length=ps.length->BindsTo s fd ⟨us,[]⟩ (ps.zip (us++ds))
theorem Ut.all{K:Frag}{fd:FuncData}{ps:List Str}(h:∀ us:List Value,us.length=ps.length->bindArgs fd ⟨us,[]⟩=pure (ps.zip us)):Ut K fd ps []:=fun s us _ hl=>by
 rw[List.append_nil] at hl ⊢;exact .of_eq (h us hl)
noncomputable def X2(CX:CXT)(X:Cx)(E:XK):Prop:=∀ (pins:List (Addr×Obj)) (σ:St) (H:Hp) (s:Shared) (e:Value) (s':Shared),Inv X pins σ H s->CX X.stack H s E e s'->X.xe e s'
section
variable{X:Cx}{CX:CXT}{k:Nat}{f C:Addr}{fd:FuncData}{ps:List Str}{sp:Sp}{dvs:List V}{ds:List Value}{E:XK}{x m:Str}{p pos apos:Pos}{e o:Expr}{es:List Expr}{ta:TE}{t:TA}
theorem Il{pins:List (Addr×Obj)}{σ:St}{H:Hp}{s:Shared}{Q:VK}{us:List Value}{vs:List V}(F:FnOk X.prog X.w X.K X.mg X.base CX k f fd ps sp)(hr:X4 k X.A)(hb:Ut X.K fd ps ds)(hd:Vals dvs ds)(hx:X2 CX X E)
  (I:Inv X pins σ H s) (r:Vals vs us) (h:sp (vs++dvs) H Q E):wpAny (model X.prog X.w) X.A (call (.ref f) us) (EP X pins σ Q) X.xe s:=by
 have r2:Vals (vs++dvs) (us++ds):=r.append hd;have hl:(us++ds).length=ps.length:=by rw[<- r2.length];exact F.len _ _ _ _ h
 refine wpAny_call (codeAny_mono (F.run X.A X.stack s H ⟨us,[]⟩ (us++ds) (vs++dvs) Q E hr I.env0 (hb s us I.kIn hl) r2 h) fun r s' hq=>?_);cases r with
 | error e=>exact hx pins σ H s e s' I hq
 | ok fl =>
   cases fl with
   | ret u=>exact I.after hq
   | next=>exact False.elim hq
   | brk=>exact False.elim hq
   | cont=>exact False.elim hq
theorem Bf(F:FnOk X.prog X.w X.K X.mg X.base CX k f fd ps sp)(hr:X4 k X.A)(hg:Gl X x)(hm:X.mg x=some (.ref f))(hk:PySem.W.keepIn X.K (.ref f)=true)(hb:Ut X.K fd ps ds)(hd:Vals dvs ds)(hx:X2 CX X E)
  (ha:PA X (e :: es) t) (hdb:(x == ("__debug__":Str))=false:=by decide) (he:starEach (e :: es) X.env=(false,eval e X.env) :: starEach es X.env:=by rfl) (hpl:(backTo pos (starEach es X.env)).any (·.1)=false:=by rfl) :
  PE X (.Call (.Name x p) (e :: es) [] pos) (Dc sp dvs E t):=by
 intro pins s σ H Q I h;refine wpAny_Call_Name_kw (Sh I hg hm ?_ hdb);refine PySem.W.callWith_K (h₀:=X.base) I.ok.mod.kin hk (thn (ha pos pins s σ H _ I h) fun us s1 ⟨vs,H1,I1,r,q⟩=>⟨I1.kIn,?_⟩) he hpl;exact Il F hr hb hd hx I1 r q
theorem Bg{pl:Sem Bool}(he:PE X o ta)(c:Cls X.K C)(hm:E9 X.K C m f)(F:FnOk X.prog X.w X.K X.mg X.base CX k f fd ps sp)(hr:X4 k X.A)(hb:Ut X.K fd ps ds)(hd:Vals dvs ds)(hx:X2 CX X E)(ha:PA X (e :: es) t)
  (hst:starEach (e :: es) X.env=(false,eval e X.env) :: starEach es X.env:=by rfl) (hpl:(backTo pos (starEach es X.env)).any (·.1)=false:=by rfl)
  (ht:eval (.Call (.Attribute o m apos) (e :: es) [] pos) X.env=(do
   let ov <- eval o X.env
   standAt apos.atName
   let (f,first) <- holding [ov] (getMethod ov m pl)
   callWith pos f first (backTo pos (starEach (e :: es) X.env)) (backToKw pos (keywordEach [] X.env))):=by rfl) :
  PE X (.Call (.Attribute o m apos) (e :: es) [] pos) (Hz C m sp dvs E ta t):=by
 intro pins s σ H Q I h;refine PySem.W.methodCall_KW (pl:=pl) (thn (he pins s σ H _ I h) fun u s1 ⟨x,H1,I1,rx,a,dx,fs,ex,ea,l,q⟩=>?_) ht;subst ex;obtain rfl:u=Value.ref a:=rx;refine Ox I1 ea c hm l ?_;refine PySem.W.callWith_K (first:=[.ref a]) (h₀:=X.base) I.ok.mod.kin hm.kp (thn (ha pos pins s1 σ H1 _ I1 q) fun us s2 ⟨vs,H2,I2,r,q2⟩=>⟨I2.kIn,?_⟩) hst hpl;exact Il (us:=.ref a :: us) (vs:=.ref a :: vs) F hr hb hd hx I2 (.cons rfl r) q2
theorem Dd{pl:Sem Bool}(he:PE X o ta)(c:Cls X.K C)(hm:E9 X.K C m f)(F:FnOk X.prog X.w X.K X.mg X.base CX k f fd ps sp)(hr:X4 k X.A)(hb:Ut X.K fd ps ds)(hd:Vals dvs ds)(hx:X2 CX X E)
  (ht:eval (.Call (.Attribute o m apos) [] [] pos) X.env=(do
   let ov <- eval o X.env
   standAt apos.atName
   let (f,first) <- holding [ov] (getMethod ov m pl)
   callWith pos f first (backTo pos (starEach [] X.env)) (backToKw pos (keywordEach [] X.env))):=by rfl) :
  PE X (.Call (.Attribute o m apos) [] [] pos) (Hz C m sp dvs E ta tNil):=by
 intro pins s σ H Q I h;refine PySem.W.methodCall_KW (pl:=pl) (thn (he pins s σ H _ I h) fun u s1 ⟨x,H1,I1,rx,a,dx,fs,ex,ea,l,q⟩=>?_) ht;subst ex;obtain rfl:u=Value.ref a:=rx;refine Ox I1 ea c hm l ?_;exact PySem.W.callWith_K0 (first:=[.ref a]) I1.kIn hm.kp (Il (us:=[.ref a]) (vs:=[.ref a]) F hr hb hd hx I1 (.cons rfl .nil) q)
structure Mk(K:Frag)(C f:Addr):Prop where
 makes:PySem.W.makesIn K C=true
 init:PySem.W.findIn K (.ref C) "__init__"=some (some (.ref f))
 fn:PySem.W.isFn K (.ref f)=true
 kp:PySem.W.keepIn K (.ref C)=true
theorem Ku{pins:List (Addr×Obj)}{σ:St}{H:Hp}{s:Shared}{Q:VK}{us:List Value}{vs:List V}(M:Mk X.K C f)(F:FnOk X.prog X.w X.K X.mg X.base CX k f fd ps sp)(hr:X4 (k+1) X.A)(hb:Ut X.K fd ps ds)(hd:Vals dvs ds)
  (hx:X2 CX X E) (I:Inv X pins σ H s) (r:Vals vs us)
  (h:∀ x dx,H x=none->H dx=none->dx≠x->sp (.ref x :: (vs++dvs)) (upd (upd H dx (.own x)) x (.ins C dx [])) (fun v H2=>v=.non/\Q (.ref x) H2) E) :
  wpAny (model X.prog X.w) X.A (call (.ref C) us) (EP X pins σ Q) X.xe s:=by
 have hq:=h (s.heap.objs.size+1) s.heap.objs.size (I.hok.fresh (Nat.le_succ _)) (I.hok.fresh (zq1 _)) (zrk (Nat.lt_succ_self _));have I2:=Inv.made (C:=C) I;have r2:Vals (V.ref (s.heap.objs.size+1) :: (vs++dvs)) (Value.ref (s.heap.objs.size+1) :: (us++ds)):=.cons rfl (r.append hd);have hl:(Value.ref (s.heap.objs.size+1) :: us++ds).length=ps.length:=by
  have e:=r2.length;rw[F.len _ _ _ _ hq] at e;exact e.symm
 refine wpAny_call (E8 (f:=f) I.kIn M.makes M.init (beq_iff_eq.mp M.fn) (codeAny_mono (F.run _ X.stack _ _ ⟨Value.ref (s.heap.objs.size+1) :: us,[]⟩ (Value.ref (s.heap.objs.size+1) :: (us++ds)) _ _ E (hr.make C us [])
  (I2.env0.make C us []) (hb _ (Value.ref (s.heap.objs.size+1) :: us) I2.kIn hl) r2 hq) fun r s' hq'=>?_))
 cases r with
 | error e=>exact hx pins σ _ _ e s' I2 hq'
 | ok fl =>
   cases fl with
   | ret u =>
     obtain⟨v,H',I3,rv,ev,q3⟩:=I2.after hq';subst ev;exact⟨rv,⟨V.ref (s.heap.objs.size+1),H',I3,rfl,q3⟩⟩
   | next=>exact False.elim hq'
   | brk=>exact False.elim hq'
   | cont=>exact False.elim hq'
theorem Bh(M:Mk X.K C f)(F:FnOk X.prog X.w X.K X.mg X.base CX k f fd ps sp)(hr:X4 (k+1) X.A)(hg:Gl X x)(hm:X.mg x=some (.ref C))(hb:Ut X.K fd ps ds)(hd:Vals dvs ds)(hx:X2 CX X E)
  (ha:PA X (e :: es) t) (hdb:(x == ("__debug__":Str))=false:=by decide) (he:starEach (e :: es) X.env=(false,eval e X.env) :: starEach es X.env:=by rfl) (hpl:(backTo pos (starEach es X.env)).any (·.1)=false:=by rfl) :
  PE X (.Call (.Name x p) (e :: es) [] pos) (Ga C sp dvs E t):=by
 intro pins s σ H Q I h;refine wpAny_Call_Name_kw (Sh I hg hm ?_ hdb);refine PySem.W.callWith_K (h₀:=X.base) I.ok.mod.kin M.kp (thn (ha pos pins s σ H _ I h) fun us s1 ⟨vs,H1,I1,r,q⟩=>⟨I1.kIn,?_⟩) he hpl;exact Ku M F hr hb hd hx I1 r q
theorem De(M:Mk X.K C f)(F:FnOk X.prog X.w X.K X.mg X.base CX k f fd ps sp)(hr:X4 (k+1) X.A)(hg:Gl X x)(hm:X.mg x=some (.ref C))(hb:Ut X.K fd ps ds)(hd:Vals dvs ds)(hx:X2 CX X E)
  (hdb:(x == ("__debug__":Str))=false:=by decide):PE X (.Call (.Name x p) [] [] pos) (Ga C sp dvs E tNil):=by
 intro pins s σ H Q I h;refine wpAny_Call_Name_kw (Sh I hg hm ?_ hdb);exact PySem.W.callWith_K0 I.kIn M.kp (Ku (us:=[]) M F hr hb hd hx I .nil h)
end
section
variable{X:Cx}{CX:CXT}{k:Nat}{f C:Addr}{fd:FuncData}{ps ks:List Str}{sp:Sp}{E:XK}{x m:Str}{p pos apos kpos:Pos}{e o:Expr}{es:List Expr}{kws:List Keyword}{te ta:TE}{t tk:TA}{nm:Option Str}
structure zc3(K:Frag)(fd:FuncData)(ps ks:List Str)(g:List Value->List Value->List Value)(gV:List V->List V->List V):Prop where
 to:∀ (s:Shared) (us ws:List Value),K.In s.heap->(g us ws).length=ps.length->BindsTo s fd ⟨us,ks.zip ws⟩ (ps.zip (g us ws))
 rel:∀ {vs:List V} {us:List Value} {zs:List V} {ws:List Value},Vals vs us->Vals zs ws->Vals (gV vs zs) (g us ws)
variable{g:List Value->List Value->List Value}{gV:List V->List V->List V}
end
structure Zl(N P:List Str)(sc:Scope):Prop where
 kind:sc.kind=.function
 co:sc.isCoroutine=false
 gen:sc.isGenerator=false
 nd:N.Nodup
 pre:N.take P.length=P
 par:∀ x∈P,sc.names.lookup x=some .local\/sc.names.lookup x=some .cell
 nofree:∀ y∈sc.names,y.2≠.free
theorem Mv{kindOf:Str->Option NameKind}{x:Str}:∀ {binds:List (Str×Value)} {m:Str->Option Value},(∀ v,(x,v)∉binds)->bindL kindOf binds m x=m x
 | [],_,_=>rfl
 | (n,v) :: r,m,h=>by
   unfold bindL;rw[Mv fun w hw=>h w (zrh _ hw)];split
   ·have:x≠n:=by rintro rfl;exact h v zrq
    simp[this]
   ·rfl
theorem Mw{kindOf:Str->Option NameKind}{x:Str}:∀ {binds:List (Str×Value)} {m:Str->Option Value},(∀ v,(x,v)∉binds)->bindC kindOf binds m x=m x
 | [],_,_=>rfl
 | (n,v) :: r,m,h=>by
   unfold bindC;rw[Mw fun w hw=>h w (zrh _ hw)];split
   ·rfl
   ·have:x≠n:=by rintro rfl;exact h v zrq
    simp[this]
theorem Mx{kindOf:Str->Option NameKind}{x:Str}{v:Value}:∀ {P:List Str} {vs:List Value} {i:Nat} {m:Str->Option Value},P.Nodup->P[i]?=some x->vs[i]?=some v->kindOf x=some .local ->
  bindL kindOf (P.zip vs) m x=some v
 | [],_,_,_,_,h,_,_=>by simp at h
 | _ :: _,[],_,_,_,_,h,_=>by simp at h
 | p :: P,w :: vs,0,m,nd,h1,h2,hk=>by
   simp at h1 h2;subst h1;subst h2;show bindL kindOf ((p,w) :: P.zip vs) m p=_;unfold bindL;rw[Mv fun v hv=>(zrl.mp nd).1 (List.of_mem_zip hv).1,if_pos hk];simp
 | p :: P,w :: vs,i+1,m,nd,h1,h2,hk=>by
   show bindL kindOf ((p,w) :: P.zip vs) m x=_;unfold bindL;exact Mx (i:=i) (zrl.mp nd).2 (by simpa using h1) (by simpa using h2) hk
theorem My{kindOf:Str->Option NameKind}{x:Str}{v:Value}:∀ {P:List Str} {vs:List Value} {i:Nat} {m:Str->Option Value},P.Nodup->P[i]?=some x->vs[i]?=some v->kindOf x≠some .local ->
  bindC kindOf (P.zip vs) m x=some v
 | [],_,_,_,_,h,_,_=>by simp at h
 | _ :: _,[],_,_,_,_,h,_=>by simp at h
 | p :: P,w :: vs,0,m,nd,h1,h2,hk=>by
   simp at h1 h2;subst h1;subst h2;show bindC kindOf ((p,w) :: P.zip vs) m p=_;unfold bindC;rw[Mw fun v hv=>(zrl.mp nd).1 (List.of_mem_zip hv).1,if_neg hk];simp
 | p :: P,w :: vs,i+1,m,nd,h1,h2,hk=>by
   show bindC kindOf ((p,w) :: P.zip vs) m x=_;unfold bindC;exact My (i:=i) (zrl.mp nd).2 (by simpa using h1) (by simpa using h2) hk
noncomputable def Pj(N:List Str)(vs:List V):St:=vs.map some++List.replicate (N.length-vs.length) none
noncomputable def cxOf(CX:CXT)(P:Program)(w:World)(K:Frag)(mg:Str->Option Value)(base:Heap)(N:List Str)(qual:Str)(scope:Scope)(f:Addr)(cd:Value)(A:Around)(outer:List Env)(s:Shared)(H:Hp)(E:XK):Cx where
 prog:=P
 w:=w
 K:=K
 mg:=mg
 base:=base
 A:=A.deeper (envOfC qual scope s.heap.objs.size f cd)
 N:=N
 s₀:=s
 H₀:=H
 env:=envOfC qual scope s.heap.objs.size f cd
 outer:=outer
 stack:=envOfC qual scope s.heap.objs.size f cd :: outer
 ex:=[]
 calm:=true
 fn:=fun _=>true
 pn:=[]
 xe:=fun e s'=>wpAny (model P w) (A.deeper (envOfC qual scope s.heap.objs.size f cd)) (leaving (envOfC qual scope s.heap.objs.size f cd) e) (fun _ s''=>CX outer H s E e s'') (fun e' s''=>CX outer H s E e' s'') s'
theorem Kv{sc:Scope}{n:Nat}{x:Str}(h:sc.names.lookup x=some .cell):∃ c,(cellsFrom n sc.names []).lookup x=some c:=by
 have q:=PySem.W.cellsFrom_some sc.names n [] (.inl h);exact zr1.mp q
theorem Fm{CX:CXT}{P:Program}{w:World}{K:Frag}{mg:Str->Option Value}{base:Heap}{N ps:List Str}{qual:Str}{scope:Scope}{f:Addr}{cd:Value}{A:Around}{outer:List Env}{s s1:Shared}{H:Hp}{E:XK}{us:List Value}{vs:List V}
  (S:Zl N ps scope) (hd:A.handled=none) (e0:Ik P w K mg base A outer s H) (hl:vs.length=ps.length) (r:Vals vs us)
  (x:InCallC s s.heap.objs.size (bindL (envOfC qual scope s.heap.objs.size f cd).kindOf (ps.zip us) fun _=>none) (cellsFrom (s.heap.objs.size+1) scope.names []) (bindC (envOfC qual scope s.heap.objs.size f cd).kindOf (ps.zip us) fun _=>none) s1) :
  Inv (cxOf CX P w K mg base N qual scope f cd A outer s H E) [] (Pj N vs) H s1:=by
 have hpl:ps.length<=N.length:=by have:=congrArg List.length S.pre;rw[List.length_take] at this;omega
 obtain⟨h1,tk,rfl,hk⟩:=x.done;have noA:∀ b:Addr,b∉(cxOf CX P w K mg base N qual scope f cd A outer s H E).ex:=fun b z=>absurd (show b∈([]:List Addr) from z) (by simp);refine⟨⟨e0.mod,S.kind,rfl,rfl,zq1 _,fun y z c h1 h2=>?_,fun y hy=>?_,fun y c _ h=>?_,fun _=>hd,Around.frames_deeper e0.frames,.inr ⟨rfl,rfl⟩,fun b z=>absurd z (noA b),e0.bs,e0.bsz,fun b _ _=>noA b,fun b z=>absurd z (noA b),e0.funs,e0.frf⟩,
  rfl,e0.bare,Un.kept hk,⟨_,x.toInCall.ns,fun i y v h1 h2 h3=>?_⟩,fun y c h=>⟨_,x.cell y c h⟩,e0.hok.fresh (zq1 _),fun y c h=>?_,fun p hp=>absurd (show p∈([]:List (Addr×Obj)) from hp) (by simp),e0.hok.kept hk,?_⟩
 ·exact name_of_addr x.apart (PySem.mem_of_lookup h1) (PySem.mem_of_lookup h2)
 ·have hy:scope.names.lookup y=some .cell\/scope.names.lookup y=some .free:=hy;rcases hy with hy|hy
  ·exact Kv hy
  ·exact absurd rfl (S.nofree _ (PySem.mem_of_lookup hy))
 ·exact Nat.le_of_lt (x.above y c (PySem.mem_of_lookup h))
 ·have h2:=h2.resolve_right (Xf _);have hi:i<vs.length:=by
   unfold Pj at h2;by_cases hi:i<vs.length
   ·exact hi
   ·rw[zrt (by simpa using hi)] at h2;rw[List.getElem?_replicate] at h2;split at h2<;>cases h2
  have ha:vs[i]?=some v:=by
   unfold Pj at h2;rw[zrv (by simpa using hi),zq7] at h2;cases e:vs[i]? with
   | none=>rw[e] at h2;cases h2
   | some a=>rw[e] at h2;cases h2;rfl
  obtain⟨u,hu,rv⟩:=r.get ha;have hp:ps[i]?=some y:=by
   rw[<- S.pre,List.getElem?_take_of_lt ⋯];exact h1
  have ndP:ps.Nodup:=by rw[<- S.pre];exact S.nd.sublist (List.take_sublist _ _)
  refine⟨u,rv,?_⟩;rcases S.par y (zq9 hp) with k|k
  ·exact .inl ⟨k,Mx ndP hp hu k⟩
  ·obtain⟨c,e⟩:=Kv (n:=s.heap.objs.size+1) k;refine .inr ⟨.inl k,c,e,?_⟩;have q:=x.cell y c e;rw[My ndP hp hu (by show scope.names.lookup y≠_;rw[k];decide)] at q;exact q
 ·exact e0.hok.fresh (Nat.le_of_lt (x.above y c (PySem.mem_of_lookup h)))
 ·unfold Pj;show _=N.length;rw[zq4,zqx,List.length_replicate];omega
theorem zb0{CX:CXT}{P:Program}{w:World}{K:Frag}{mg:Str->Option Value}{base:Heap}{k:Nat}{f:Addr}{name qual:Str}{params:Arguments}{body:List Stmt}{scope:Scope}{dV kV doc pm cdv ct oc:Value}{an od:Option Addr}
  {osl:Array (Option Value)} {N ps:List Str} {sp:Sp} (lk:K.lookup f=some ⟨oc,od,.func (PySem.W.fnOf name qual params body scope dV kV doc pm an cdv ct),osl⟩) (hcd:PySem.W.codeIn K cdv qual=true) (S:Zl N ps scope)
  (len:∀ vs H Q E,sp vs H Q E->vs.length=ps.length)
  (hbody:∀ (A:Around) (outer:List Env) (s:Shared) (H:Hp) (vs:List V) (Q:VK) (E:XK),X4 k (A.deeper (envOfC qual scope s.heap.objs.size f cdv))->sp vs H Q E ->
   ∃ t,PSs (cxOf CX P w K mg base N qual scope f cdv A outer s H E) body t/\t { nx:=fun _ H'=>Q .non H',rt:=Q } (Pj N vs) H) :
  FnOk P w K mg base CX (k+1) f (PySem.W.fnOf name qual params body scope dV kV doc pm an cdv ct) ps sp:=by
 refine⟨len,fun A outer s H args us vs Q E hr e0 hb r hsp=>?_⟩;have hl:=len _ _ _ _ hsp;have KX:K.In s.heap:=e0.mod.kin.keeps fun b o e=>(e0.bs b o e).1;have lim:s.heap.NoLimit:=e0.mod.nolimit.keeps fun b o e=>(e0.bs b o e).1;have hkind:∀ y∈ps.zip us,scope.names.lookup y.1=some .local\/(scope.names.lookup y.1=some .cell/\((cellsFrom (s.heap.objs.size+1) scope.names []).lookup y.1).isSome=true):=fun ⟨n,v⟩ hy=>by
  rcases S.par n (List.of_mem_zip hy).1 with q|q
  ·exact .inl q
  ·exact .inr ⟨q,PySem.W.cellsFrom_some _ _ _ (.inl q)⟩
 refine codeAny_call_function hr.depth (KX _ _ lk) rfl S.co S.gen rfl (PySem.W.codeRec_of KX hcd) (hb _ _ _ _ ?_);refine wpAny_newFunctionEnv_cells S.kind hkind fun env he s1 x=>?_;subst he;refine⟨lim.keeps x.toInCall.keep,codeAny_func ?_⟩;obtain⟨t,ht,hq⟩:=hbody A outer s H vs Q E (hr.deeper _) hsp;have I:Inv (cxOf CX P w K mg base N qual scope f cdv A outer s H E) [] (Pj N vs) H s1:=Fm S hr.hd e0 hl r x;refine wpAny_mono (ht [] s1 (Pj N vs) H _ I hq) (fun fl s' hs=>?_) fun e s' hs=>hs;have fin:∀ {σ':St} {H':Hp} {v:V} {u:Value},Inv (cxOf CX P w K mg base N qual scope f cdv A outer s H E) [] σ' H' s'->RelV v u->Q v H'->CE outer P w H s Q u s' :=
  fun {σ' H' v u} J rv q=>⟨v,H',J.os,J.bare,J.base,J.hok,rv,q⟩
 cases fl with
 | ret u =>
   obtain⟨v,σ',H',J,rv,q⟩:=hs;exact fin J rv q
 | next =>
   obtain⟨σ',H',J,q⟩:=hs;exact fin (v:=V.non) (u:=Value.none) J rfl q
 | brk =>
   obtain⟨_,_,_,q⟩:=hs;exact False.elim q
 | cont =>
   obtain⟨_,_,_,q⟩:=hs;exact False.elim q
section
variable{X:Cx}{x:Str}{p pos:Pos}{e:Expr}{es:List Expr}{t:TA}{id T:String}{r:List V->Hp->VK->Prop}
noncomputable def tCB(r:List V->Hp->VK->Prop)(t:TA):TE:=fun σ H Q=>t σ H fun vs H1=>r vs H1 Q
theorem Zu(hc:Vo X (.builtin id) r)(hg:Gl X x)(hm:X.mg x=none)(hv:bootBuiltins x=some (.builtin id))(ha:PA X (e :: es) t)(hn:x≠"__name__":=by decide)(hdb:(x == ("__debug__":Str))=false:=by decide)
  (he:starEach (e :: es) X.env=(false,eval e X.env) :: starEach es X.env:=by rfl) (hpl:(backTo pos (starEach es X.env)).any (·.1)=false:=by rfl):PE X (.Call (.Name x p) (e :: es) [] pos) (tCB r t):=by
 intro pins s σ H Q I h;refine wpAny_Call_Name_kw (S9 I hg hm hv ?_ hn hdb);exact PyProof.Rows.callWith_builtin1 (thn (ha pos pins s σ H _ I h) fun us s1 ⟨vs,H1,I1,r1,q1⟩=>hc pins s1 σ H1 vs us Q I1 r1 q1) he hpl
theorem Xb(hc:Vo X (.type T) r)(hg:Gl X x)(hm:X.mg x=none)(hv:bootBuiltins x=some (.type T))(ha:PA X (e :: es) t)(hn:x≠"__name__":=by decide)(hdb:(x == ("__debug__":Str))=false:=by decide)
  (he:starEach (e :: es) X.env=(false,eval e X.env) :: starEach es X.env:=by rfl) (hpl:(backTo pos (starEach es X.env)).any (·.1)=false:=by rfl):PE X (.Call (.Name x p) (e :: es) [] pos) (tCB r t):=by
 intro pins s σ H Q I h;refine wpAny_Call_Name_kw (S9 I hg hm hv ?_ hn hdb);exact PyProof.Rows.callWith_type1 (thn (ha pos pins s σ H _ I h) fun us s1 ⟨vs,H1,I1,r1,q1⟩=>hc pins s1 σ H1 vs us Q I1 r1 q1) he hpl
end
section
variable{κ:Type}[DecidableEq κ]
noncomputable def valV(kvs:List (κ×V))(k:κ):Option V:=(kvs.find? fun kv=>decide (kv.1=k)).map (·.2)
noncomputable def putK(kvs:List (κ×V))(k:κ)(v:V):List (κ×V) :=
 if (kvs.any fun kv=>decide (kv.1=k))=true then kvs.map (fun kv=>if kv.1=k then (kv.1,v) else kv) else kvs++[(k,v)]
noncomputable def Xc(kvs:List (κ×V))(k:κ):List (κ×V):=kvs.filter fun kv=>decide (kv.1≠k)
theorem zb1{k:κ}:valV ([]:List (κ×V)) k=none:=rfl
theorem Yn{p:κ×V}{r:List (κ×V)}{k:κ}(e:p.1=k):valV (p :: r) k=some p.2:=by simp[valV,zsc,e]
theorem Yj{p:κ×V}{r:List (κ×V)}{k:κ}(e:¬ p.1=k):valV (p :: r) k=valV r k:=by simp[valV,zsc,e]
theorem Uu(k:κ):∀ kvs:List (κ×V),(kvs.any fun kv=>decide (kv.1=k))=(valV kvs k).isSome
 | []=>rfl
 | p :: r=>by
   rw[zsk];by_cases e:p.1=k
   ·simp only[Yn e,zq2 e,Bool.true_or,Option.isSome_some]
   ·rw[Yj e,zq5 e,Bool.false_or];exact Uu k r
theorem Kw(k j:κ)(y:V):∀ kvs:List (κ×V),valV (kvs.map fun kv=>if kv.1=k then (kv.1,y) else kv) j=(valV kvs j).map fun x=>if j=k then y else x
 | []=>rfl
 | p :: r=>by
   have ih:=Kw k j y r;rw[zq8];by_cases h:p.1=k
   ·rw[if_pos h];by_cases e:p.1=j
    ·rw[Yn (p:=(p.1,y)) e,Yn e,zrz,if_pos (e.symm.trans h)]
    ·rw[Yj (p:=(p.1,y)) e,Yj e,ih]
   ·rw[if_neg h];by_cases e:p.1=j
    ·rw[Yn (p:=p) e,Yn e,zrz,if_neg (fun z=>h (e.trans z))]
    ·rw[Yj (p:=p) e,Yj e,ih]
theorem Mz(k j:κ)(y:V):∀ kvs:List (κ×V),valV kvs k=none->valV (kvs++[(k,y)]) j=if j=k then some y else valV kvs j
 | [],_=>by
   by_cases e:k=j
   ·rw[if_pos e.symm];exact Yn (p:=(k,y)) e
   ·rw[if_neg (fun z=>e z.symm)];exact Yj (p:=(k,y)) e
 | p :: r,hn=>by
   rw[List.cons_append];have hk:¬ p.1=k:=fun z=>by rw[Yn z] at hn;cases hn
   rw[Yj hk] at hn;have ih:=Mz k j y r hn;by_cases e:p.1=j
   ·rw[Yn e,Yn e,if_neg (fun z=>hk (e.trans z))]
   ·rw[Yj e,Yj e,ih]
theorem Uv(kvs:List (κ×V))(k j:κ)(y:V):valV (putK kvs k y) j=if j=k then some y else valV kvs j:=by
 unfold putK;by_cases a:(kvs.any fun kv=>decide (kv.1=k))=true
 ·rw[if_pos a,Kw];rw[Uu] at a;by_cases e:j=k
  ·obtain⟨x,hx⟩:=zr1.mp a;rw[if_pos e,e,hx,zrz,if_pos rfl]
  ·rw[if_neg e];cases valV kvs j with
   | none=>rfl
   | some x=>rw[zrz,if_neg e]
 ·rw[if_neg a];refine Mz k j y kvs ?_;rw[Uu] at a;cases q:valV kvs k with
  | none=>rfl
  | some x=>rw[q] at a;exact(a rfl).elim
theorem Xs(kvs:List (κ×V))(k:κ)(v:V):(putK kvs k v).length<=kvs.length+1:=by
 unfold putK;split
 ·rw[zqx];omega
 ·rw[zq4,zrc,zr4];omega
theorem Df{kvs:List (κ×V)}{k:κ}(v:V)(h:valV kvs k=none):putK kvs k v=kvs++[(k,v)]:=by
 unfold putK;rw[Uu,h];exact if_neg ⋯
theorem RelO.isSome_eq{o:Option V}{u:Option Value}(r:RelO o u):o.isSome=u.isSome:=by
 cases o with
 | none=>cases u with
   | none=>rfl
   | some _=>exact(show False from r).elim
 | some _=>cases u with
   | none=>exact(show False from r).elim
   | some _=>rfl
theorem RelO.getD{o:Option V}{u:Option Value}{d:V}{d':Value}(r:RelO o u)(rd:RelV d d'):RelV (o.getD d) (u.getD d'):=by
 cases o with
 | none=>cases u with
   | none=>exact rd
   | some _=>exact(show False from r).elim
 | some _=>cases u with
   | none=>exact(show False from r).elim
   | some _=>exact r
theorem KV.val{kvs:List (κ×V)}{vs:List (κ×Value)}(r:KV kvs vs)(k:κ):RelO (valV kvs k) (valueAt vs k):=by
 unfold KV at r
 induction r with
 | nil=>exact True.intro
 | @cons p q ps qs h t ih =>
   obtain⟨h1,h2⟩:=h;by_cases e:p.1=k
   ·have e':q.1=k:=h1.symm.trans e;have b:valueAt (q :: qs) k=some q.2:=by simp[valueAt,zsc,e']
    rw[Yn e,b];exact h2
   ·have e':¬ q.1=k:=fun z=>e (h1.trans z);have b:valueAt (q :: qs) k=valueAt qs k:=by simp[valueAt,zsc,e']
    rw[Yj e,b];exact ih
theorem KV.any{kvs:List (κ×V)}{vs:List (κ×Value)}(r:KV kvs vs)(k:κ):(kvs.any fun kv=>decide (kv.1=k))=vs.any fun kv=>decide (kv.1=k):=by
 unfold KV at r
 induction r with
 | nil=>rfl
 | cons h t ih=>rw[zsk,zsk,ih,h.1]
theorem KV.repl{kvs:List (κ×V)}{vs:List (κ×Value)}(r:KV kvs vs)(k:κ){y:V}{u:Value}(ry:RelV y u) :
  KV (kvs.map fun kv=>if kv.1=k then (kv.1,y) else kv) (vs.map fun kv=>if kv.1=k then (kv.1,u) else kv):=by
 unfold KV at r ⊢
 induction r with
 | nil=>exact .nil
 | @cons p q ps qs h t ih =>
   rw[zq8,zq8];refine .cons ?_ ih;obtain⟨h1,h2⟩:=h;by_cases e:p.1=k
   ·rw[if_pos e,if_pos (h1.symm.trans e)];exact⟨h1,ry⟩
   ·rw[if_neg e,if_neg (fun z=>e (h1.trans z))];exact⟨h1,h2⟩
theorem KV.put{kvs:List (κ×V)}{vs:List (κ×Value)}(r:KV kvs vs)(k:κ){y:V}{u:Value}(ry:RelV y u):KV (putK kvs k y) (stored vs k u):=by
 unfold putK stored;rw[r.any k];by_cases e:(vs.any fun kv=>decide (kv.1=k))=true
 ·rw[if_pos e,if_pos e];exact r.repl k ry
 ·rw[if_neg e,if_neg e];exact Paired.snoc r ⟨rfl,ry⟩
theorem KV.drop{kvs:List (κ×V)}{vs:List (κ×Value)}(r:KV kvs vs)(k:κ):KV (Xc kvs k) (without vs k):=by
 unfold KV at r ⊢;unfold Xc without
 induction r with
 | nil=>exact .nil
 | @cons p q ps qs h t ih =>
   obtain⟨h1,h2⟩:=h;rw[zr2,zr2];by_cases e:p.1=k
   ·have a:¬ decide (p.1≠k)=true:=by simp[e]
    have b:¬ decide (q.1≠k)=true:=by simp[h1.symm.trans e]
    rw[if_neg a,if_neg b];exact ih
   ·have e':¬ q.1=k:=fun z=>e (h1.trans z);have a:decide (p.1≠k)=true:=by simp[e]
    have b:decide (q.1≠k)=true:=by simp[e']
    rw[if_pos a,if_pos b];exact .cons ⟨h1,h2⟩ ih
theorem KV.keys{kvs:List (κ×V)}{vs:List (κ×Value)}(r:KV kvs vs):kvs.map (·.1)=vs.map (·.1):=by
 unfold KV at r
 induction r with
 | nil=>rfl
 | cons h t ih=>rw[zq8,zq8,ih,h.1]
theorem KV.length{kvs:List (κ×V)}{vs:List (κ×Value)}(r:KV kvs vs):kvs.length=vs.length:=Paired.length r
theorem Kx(kvs:List (κ×V))(k:κ):(Xc kvs k).length<=kvs.length:=zsd _ _
end
theorem Pk{P:Program}{w:World}{k:Key}{u:Value}(r:RelV (kV k) u):(Yb P w).is k u=true:=by
 cases k with
 | inl i=>obtain⟨t,e⟩:=(show ∃ t,u=Value.int i t from r);subst e;exact Ko P w i t
 | inr x=>obtain⟨t,e⟩:=(show ∃ t,u=Value.str x t from r);subst e;exact Kp P w x t
theorem M0{P:Program}{w:World}:∀ {ks:List Key} {us:List Value},Vals (ks.map kV) us->ItemsAre (Yb P w) ks us
 | [],_,r=>by rw[List.map_nil] at r;cases r;exact .nil
 | k :: ks,_,r=>by
   rw[zq8] at r;cases r with
   | cons h t=>exact .cons (Pk h) (M0 t)
noncomputable abbrev KT(H:Hp):List (List Key×V)->List (List Key×Addr×Value)->Prop:=Paired fun p q=>p.1=q.1/\H q.2.1=some (.tup (p.1.map kV))/\RelV p.2 q.2.2
theorem KT.val{H:Hp}{kvs:List (List Key×V)}{xs:List (List Key×Addr×Value)}(r:KT H kvs xs)(k:List Key):RelO (valV kvs k) ((atKey xs k).map (·.2)):=by
 induction r with
 | nil=>exact True.intro
 | @cons p q ps qs h t ih =>
   obtain⟨h1,_,h2⟩:=h;by_cases e:p.1=k
   ·have e':q.1=k:=h1.symm.trans e;have b:atKey (q :: qs) k=some q.2:=by simp[atKey,zsc,e']
    rw[Yn e,b];exact h2
   ·have e':¬ q.1=k:=fun z=>e (h1.trans z);have b:atKey (q :: qs) k=atKey qs k:=by simp[atKey,zsc,e']
    rw[Yj e,b];exact ih
theorem KT.repl{H:Hp}{kvs:List (List Key×V)}{xs:List (List Key×Addr×Value)}(r:KT H kvs xs)(k:List Key){y:V}{u:Value}(ry:RelV y u) :
  KT H (kvs.map fun kv=>if kv.1=k then (kv.1,y) else kv) (xs.map (putAt k u)):=by
 induction r with
 | nil=>exact .nil
 | @cons p q ps qs h t ih =>
   rw[zq8,zq8];refine .cons ?_ ih;obtain⟨h1,h2,h3⟩:=h;unfold putAt;by_cases e:p.1=k
   ·rw[if_pos e,if_pos (h1.symm.trans e)];exact⟨h1,h2,ry⟩
   ·rw[if_neg e,if_neg (fun z=>e (h1.trans z))];exact⟨h1,h2,h3⟩
theorem KT.put{H:Hp}{kvs:List (List Key×V)}{xs:List (List Key×Addr×Value)}(r:KT H kvs xs)(k:List Key){b:Addr}{y:V}{u:Value}(hb:H b=some (.tup (k.map kV)))(ry:RelV y u) :
  KT H (putK kvs k y) (storedH xs k b u):=by
 have e:(kvs.any fun kv=>decide (kv.1=k))=(atKey xs k).isSome:=by
  rw[Uu,(r.val k).isSome_eq,Option.isSome_map]
 unfold putK storedH;rw[e];by_cases q:(atKey xs k).isSome=true
 ·rw[if_pos q,if_pos q];exact r.repl k ry
 ·rw[if_neg q,if_neg q];exact Paired.snoc r ⟨rfl,hb,ry⟩
theorem KT.keeps{H H':Hp}{kvs:List (List Key×V)}{xs:List (List Key×Addr×Value)}(r:KT H kvs xs)(ht:∀ b ys,H b=some (.tup ys)->H' b=some (.tup ys)):KT H' kvs xs :=
 Paired.mapP r fun _ _ z=>⟨z.1,ht _ _ z.2.1,z.2.2⟩
section
variable{P:Program}{w:World}{H:Hp}{h:Heap}{a:Addr}
theorem Af{u:HO}(ok:HOk P w H h)(e:Rd H a u):Yh P w H h a u:=e.ok ok
theorem S5{kvs:List (Key×V)}(ok:HOk P w H h)(e:Rd H a (.dK kvs)):kvs.length<=sizeLine/\(a == sysModules)=false/\∃ vs,KV kvs vs/\h.DictOf (Yb P w) a vs :=
 show Yh P w H h a (.dK kvs) from Af ok e
theorem Dg{kvs:List (Key×V)}(ok:HOk P w H h)(e:H a=some (.dK kvs)):kvs.length<=sizeLine/\(a == sysModules)=false/\∃ vs,KV kvs vs/\h.DictOf (Yb P w) a vs:=S5 ok (.inl e)
theorem Rf{ks:List Key}(ok:HOk P w H h)(e:H a=some (.tup (ks.map kV))):(tupleKind (Yb P w)).is h ks a:=by
 obtain⟨_,its,r,o,h1,h2,n,h3⟩:=(show Yh P w H h a (.tup (ks.map kV)) from ok a _ e);exact⟨o,its.toArray,n,h1,h2,h3,by simpa using M0 r⟩
theorem Oy{kvs:List (List Key×V)}(ok:HOk P w H h)(e:Rd H a (.dT kvs)):kvs.length<=sizeLine/\(a == sysModules)=false /\
  ∃ xs,KT H kvs xs/\h.DictOfH (tupleKind (Yb P w)) a xs:=by
 obtain⟨z,y,xs,r,o,es,ep,h1,h2,h3,h4,h5⟩:=(show Yh P w H h a (.dT kvs) from Af ok e);refine⟨z,y,xs,r,o,es,ep,h1,h2,h3,h4,fun x hx=>?_,h5⟩;have all:∀ {l:List (List Key×V)} {m:List (List Key×Addr×Value)},KT H l m->∀ x∈m,(tupleKind (Yb P w)).is h x.1 x.2.1:=by
  intro l m q
  induction q with
  | nil=>intro x hx;exact nomatch hx
  | @cons p q ps qs hq t ih =>
    intro x hx;rcases zq0.mp hx with e|hx
    ·subst e;exact Rf ok (by rw[<- hq.1];exact hq.2.1)
    ·exact ih x hx
 exact all r x hx
theorem Ag{kvs:List (List Key×V)}(ok:HOk P w H h)(e:H a=some (.dT kvs)):kvs.length<=sizeLine/\(a == sysModules)=false /\
  ∃ xs,KT H kvs xs/\h.DictOfH (tupleKind (Yb P w)) a xs:=Oy ok (.inl e)
end
noncomputable def DGet(H:Hp)(a:Addr)(y:V)(r:Option V):Prop :=
 (∃ kvs k,Rd H a (.dK kvs)/\y=kV k/\r=valV kvs k)\/∃ kvs k b,Rd H a (.dT kvs)/\y=.ref b/\H b=some (.tup (k.map kV))/\r=valV kvs k
noncomputable def DPut(H:Hp)(a:Addr)(y v:V)(H':Hp):Prop :=
 (∃ kvs k,H a=some (.dK kvs)/\y=kV k/\kvs.length<sizeLine/\H'=upd H a (.dK (putK kvs k v))) \/
 ∃ kvs k b,H a=some (.dT kvs)/\y=.ref b/\H b=some (.tup (k.map kV))/\kvs.length<sizeLine/\H'=upd H a (.dT (putK kvs k v))
theorem DGet.k{H:Hp}{a:Addr}{kvs:List (Key×V)}{k:Key}(e:H a=some (.dK kvs)):DGet H a (kV k) (valV kvs k):=.inl ⟨kvs,k,.inl e,rfl,rfl⟩
theorem DGet.t{H:Hp}{a b:Addr}{kvs:List (List Key×V)}{k:List Key}(e:H a=some (.dT kvs))(eb:H b=some (.tup (k.map kV))):DGet H a (.ref b) (valV kvs k):=.inr ⟨kvs,k,b,.inl e,rfl,eb,rfl⟩
theorem DPut.k{H:Hp}{a:Addr}{kvs:List (Key×V)}{k:Key}{v:V}(e:H a=some (.dK kvs))(hl:kvs.length<sizeLine):DPut H a (kV k) v (upd H a (.dK (putK kvs k v))):=.inl ⟨kvs,k,e,rfl,hl,rfl⟩
theorem DPut.t{H:Hp}{a b:Addr}{kvs:List (List Key×V)}{k:List Key}{v:V}(e:H a=some (.dT kvs))(eb:H b=some (.tup (k.map kV)))(hl:kvs.length<sizeLine) :
  DPut H a (.ref b) v (upd H a (.dT (putK kvs k v))):=.inr ⟨kvs,k,b,e,rfl,eb,hl,rfl⟩
section
variable{X:Cx}{pins:List (Addr×Obj)}{σ:St}{H:Hp}{s:Shared}{a:Addr}{y v:V}{u r:Value}{o:Option V}{A:Around}{E:Value->Shared->Prop}
theorem Inv.big(I:Inv X pins σ H s):sysModules<s.heap.objs.size:=by
 have h:mainGlobals<s.heap.objs.size:=(I.mod.glob.keeps I.bk).lt;exact Nat.lt_trans ⋯ h
theorem Fn{Q:Value->Shared->Prop}(hu:A.units+1<cLine)(I:Inv X pins σ H s)(g:DGet H a y (some v))(ry:RelV y u)(h:∀ w' s',Inv X pins σ H s'->RelV v w'->Q w' s') :
  wpAny (model X.prog X.w) A (getItem (.ref a) u) Q E s:=by
 rcases g with ⟨kvs,k,e,ey,l⟩|⟨kvs,k,b,e,ey,eb,l⟩
 ·subst ey;obtain⟨z,hd,vs,rel,dd⟩:=S5 I.hok e;obtain⟨w',hw,rw'⟩:=RelO.some_of (v:=v) (o:=valueAt vs k) (by rw[l];exact rel.val k);exact wpAny_getItem_of (Pk ry) dd.mapOf hw (h w' _ (I.tok _) rw')
 ·subst ey;cases (show u=Value.ref b from ry);obtain⟨z,hd,xs,rel,dd⟩:=Oy I.hok e;obtain⟨w',hw,rw'⟩:=RelO.some_of (v:=v) (o:=(atKey xs k).map (·.2)) (by rw[l];exact rel.val k);obtain⟨p,hp,hp2⟩:=Option.map_eq_some_iff.mp hw;refine wpAny_getItem_heap (tupleKind_room_in1 hu) (Rf I.hok eb) dd hp ?_;rw[hp2];exact h w' _ (I.tok _) rw'
theorem zc4{Q:Value->Shared->Prop}(hu:A.units+1<cLine)(I:Inv X pins σ H s)(g:DGet H a y o)(ry:RelV y u)(h:∀ s',Inv X pins σ H s'->Q (.bool o.isSome) s') :
  wpAny (model X.prog X.w) A (compareOp .In u (.ref a)) Q E s:=by
 rcases g with ⟨kvs,k,e,ey,l⟩|⟨kvs,k,b,e,ey,eb,l⟩
 ·subst ey;obtain⟨z,hd,vs,rel,dd⟩:=S5 I.hok e;refine wpAny_in_of (Pk ry) hd dd.mapOf ?_;rw[<- (rel.val k).isSome_eq,<- l];exact h _ (I.tok _)
 ·subst ey;cases (show u=Value.ref b from ry);obtain⟨z,hd,xs,rel,dd⟩:=Oy I.hok e;refine wpAny_in_heap (tupleKind_room_in1 hu) (Rf I.hok eb) hd dd ?_;have q:=(rel.val k).isSome_eq;rw[Option.isSome_map] at q;rw[<- q,<- l];exact h _ (I.tok _)
theorem Bi{Q:Value->Shared->Prop}(hu:A.units+1<cLine)(I:Inv X pins σ H s)(g:DGet H a y o)(ry:RelV y u)(h:∀ s',Inv X pins σ H s'->Q (.bool (!o.isSome)) s') :
  wpAny (model X.prog X.w) A (compareOp .NotIn u (.ref a)) Q E s:=by
 rcases g with ⟨kvs,k,e,ey,l⟩|⟨kvs,k,b,e,ey,eb,l⟩
 ·subst ey;obtain⟨z,hd,vs,rel,dd⟩:=S5 I.hok e;refine wpAny_notIn_of (Pk ry) hd dd.mapOf ?_;rw[<- (rel.val k).isSome_eq,<- l];exact h _ (I.tok _)
 ·subst ey;cases (show u=Value.ref b from ry);obtain⟨z,hd,xs,rel,dd⟩:=Oy I.hok e;refine wpAny_notIn_heap (tupleKind_room_in1 hu) (Rf I.hok eb) hd dd ?_;have q:=(rel.val k).isSome_eq;rw[Option.isSome_map] at q;rw[<- q,<- l];exact h _ (I.tok _)
theorem R6{h':Heap}{t':Nat}{ob:HO}(I:Inv X pins σ H s)(mu:Mut (H a))(hs:Heap.SameBut a s.heap h')(he:∃ q,h'.get? a=some q)(new:Yh X.prog X.w (upd H a ob) h' a ob) :
  Inv X pins σ (upd H a ob) { s with heap:=h',toks:=t' } :=
 I.write (x:=a) (e:=a) mu (.inl rfl) (fun b q hb z=>(hs.2 b hb).trans z) he new
theorem Im{P:Program}{w:World}{H':Hp}{h':Heap}{kvs:List (Key×V)}{vs:List (Key×Value)}(z:kvs.length<=sizeLine)(hd:(a == sysModules)=false)(rel:KV kvs vs)(dd:h'.DictOf (Yb P w) a vs) :
  Yh P w H' h' a (.dK kvs):=⟨z,hd,vs,rel,dd⟩
theorem Fo{H':Hp}{Q:Unit->Shared->Prop}(hu:A.units+1<cLine)(I:Inv X pins σ H s)(g:DPut H a y v H')(ry:RelV y u)(rv:RelV v r)(h:∀ s',Inv X pins σ H' s'->Q () s') :
  wpAny (model X.prog X.w) A (setItem (.ref a) u r) Q E s:=by
 rcases g with ⟨kvs,k,e,ey,l,eH⟩|⟨kvs,k,b,e,ey,eb,l,eH⟩
 ·subst ey eH;obtain⟨z,hd,vs,rel,dd⟩:=Dg I.hok e;have hz:vs.length<=sizeLine:=by rw[<- rel.length];exact z
  have hl:(putK kvs k v).length<=sizeLine:=by have:=Xs kvs k v;omega
  refine wpAny_setItem_pairs (hsz:=hz) (Pk ry) dd fun h' dd' hs=>h _ ?_;have he:∃ q,h'.get? a=some q:=let ⟨q,_,_,hq,_⟩:=dd';⟨q,hq⟩;exact R6 I (by rw[e];exact True.intro) hs he (Im hl hd (rel.put k rv) dd')
 ·subst ey eH;cases (show u=Value.ref b from ry);obtain⟨z,hd,xs,rel,dd⟩:=Ag I.hok e;have hz:xs.length<=sizeLine:=by rw[<- Paired.length rel];exact z
  have hl:(putK kvs k v).length<=sizeLine:=by have:=Xs kvs k v;omega
  refine wpAny_setItem_heap (hsz:=hz) (tupleKind_room_in1 hu) (Rf I.hok eb) dd fun h' dd' hs=>h _ ?_;obtain⟨q,es,ep,hq,h2,h3,h4,_,h5⟩:=dd';refine R6 I (by rw[e];exact True.intro) hs ⟨q,hq⟩ ⟨hl,hd,_,(rel.put k eb rv).keeps fun c ys ec=>?_,q,es,ep,hq,h2,h3,h4,h5⟩;rw[Zg (Yl ec e (fun z=>nomatch z))];exact ec
end
section
variable{X:Cx}{pins:List (Addr×Obj)}{σ:St}{H:Hp}{s:Shared}{a:Addr}{kvs:List (Key×V)}{k:Key}{u:Value}{A:Around}{E:Value->Shared->Prop}
theorem zb2{v:V}{more:List Value}{Q:Value->Shared->Prop}(I:Inv X pins σ H s)(e:H a=some (.dK kvs))(ry:RelV (kV k) u)(l:valV kvs k=some v)(hm:more=[]\/∃ x,more=[x])
  (h:∀ w' s',Inv X pins σ (upd H a (.dK (Xc kvs k))) s'->RelV v w'->Q w' s'):wpAny (model X.prog X.w) A (call (.builtin "dict.pop") (.ref a :: u :: more)) Q E s:=by
 obtain⟨z,hd,vs,rel,dd⟩:=Dg I.hok e;obtain⟨w',hw,rw'⟩:=RelO.some_of (v:=v) (o:=valueAt vs k) (by rw[<- l];exact rel.val k);have hp:(keyPart u).isSome=true:=by
  cases k with
  | inl i=>obtain⟨t,q⟩:=(show ∃ t,u=Value.int i t from ry);subst q;rfl
  | inr x=>obtain⟨t,q⟩:=(show ∃ t,u=Value.str x t from ry);subst q;rfl
 have ha:argsOk "dict.pop" ⟨.ref a :: u :: more,[]⟩:=by
  rcases hm with q|⟨x,q⟩
  ·subst q;exact PySem.F.args_dict_pop_2 _ _
  ·subst q;exact PySem.F.args_dict_pop_3 _ _ _
 refine call_meetsIn PySem.F.slot_dict_pop dd.typeIs PySem.F.entry_dict_pop ha (meets_dict_pop_there (Yb X.prog X.w) a (Pk ry) more hm hp)
  ⟨vs,w',dd,by rw[<- rel.length];exact z,hw,fun h' dd' hs=>h w' _ ?_ rw'⟩
 have he:∃ q,h'.get? a=some q:=let ⟨q,_,_,hq,_⟩:=dd';⟨q,hq⟩;exact R6 I (by rw[e];exact True.intro) hs he (Im (zro (Kx kvs k) z) hd (rel.drop k) dd')
theorem zb3{Q:Value->Shared->Prop}(I:Inv X pins σ H s)(e:Rd H a (.dK kvs))(h:∀ t s',Inv X pins σ H s'->Q (.int kvs.length t) s'):wpAny (model X.prog X.w) A (call (.builtin "len") [.ref a]) Q E s:=by
 obtain⟨z,hd,vs,rel,dd⟩:=S5 I.hok e;refine call_len_dict hd dd (by rw[<- rel.length];rw[sizeLine_eq] at z;omega) ?_;rw[<- rel.length];exact h _ _ (I.tok _)
end
noncomputable def zad(i:Expr):Prop:=∀ ov iv,subscripted i false ov iv=operate [ov,iv] (getItem ov iv)
theorem Bj{prog:Program}{w:World}{A:Around}{E:Value->Shared->Prop}{s:Shared}{env:Env}{value slice:Expr}{pos:Pos}{T id:String}{Q:Value->Shared->Prop}
  (hl:typeLookup (.type T) "__getitem__"=pure (some (.builtin id))) (hs:zad slice)
  (h:wpAny (model prog w) A (eval value env) (fun o s₁=>wpAny (model prog w) A (eval slice env) (fun i s₂=>s₂.TypeIs o T/\wpAny (model prog w) A (getItem o i) Q E s₂) E s₁) E s) :
  wpAny (model prog w) A (eval (.Subscript value slice pos) env) Q E s:=by
 refine Subscript_ (wpAny_mono h (fun o s₁ h₁=>wpAny_mono h₁ (fun i s₂ h₂=>?_) fun _ _ x=>x) fun _ _ x=>x);obtain⟨hT,h₂⟩:=h₂;unfold subscriptTail;refine wpAny_bind ?_;rw[getitemInPython_of_ne hT.not_modules];refine wpAny_bind (wpAny_specialOf hT hl ?_);have fin:wpAny (model prog w) A (subscripted slice false o i) (fun r s₃=>wpAny (model prog w) A (letTemporaryGo value o r >>= fun _=>pure r) Q E s₃) E s₂:=by
  rw[hs o i];exact wpAny_operating (wpAny_mono h₂ (fun r s₃ h₃=>wpAny_bind (wpAny_letTemporaryGo (wpAny_pure h₃))) fun _ _ x=>x)
 first
  | exact wpAny_pure (wpAny_bind fin)
  | exact wpAny_bind (wpAny_pure (wpAny_bind fin))
  | exact wpAny_bind fin
theorem Ky{X:Cx}{pins:List (Addr×Obj)}{σ:St}{H:Hp}{s:Shared}{a:Addr}{y:V}{o:Option V}(I:Inv X pins σ H s)(g:DGet H a y o):s.TypeIs (.ref a) "dict":=by
 rcases g with ⟨kvs,k,e,_,_⟩|⟨kvs,k,b,e,_,_,_⟩
 ·obtain⟨_,_,vs,_,dd⟩:=S5 I.hok e;exact dd.typeIs
 ·obtain⟨_,_,xs,_,dd⟩:=Oy I.hok e;exact dd.typeIs
inductive zae(Q:VK)(x:V)(y:V)(H2:Hp):Prop where
 | mk(a)(v)(_:x=.ref a)(_:DGet H2 a y (some v))(_:Q v H2)
noncomputable def Ah(td ty:TE):TE:=fun σ H Q=>td σ H fun x H1=>ty σ H1 fun y H2=>zae Q x y H2
inductive zb4(Q:VK)(y:V)(x:V)(H2:Hp):Prop where
 | mk(a)(o)(_:x=.ref a)(_:DGet H2 a y o)(_:Q (.bl o.isSome) H2)
noncomputable def zc5(ty td:TE):TE:=fun σ H Q=>ty σ H fun y H1=>td σ H1 fun x H2=>zb4 Q y x H2
inductive Dh(Q:VK)(y:V)(x:V)(H2:Hp):Prop where
 | mk(a)(o)(_:x=.ref a)(_:DGet H2 a y o)(_:Q (.bl (!o.isSome)) H2)
noncomputable def Bl(ty td:TE):TE:=fun σ H Q=>ty σ H fun y H1=>td σ H1 fun x H2=>Dh Q y x H2
inductive zaf(D:Um)(σ:L2.St)(v:V)(x:V)(y:V)(H3:Hp):Prop where
 | mk(a)(H4)(_:x=.ref a)(_:DPut H3 a y v H4)(_:D.nx σ H4)
noncomputable def zb5(td ty tv:TE):TS:=fun D σ H=>tv σ H fun v H1=>td σ H1 fun x H2=>ty σ H2 fun y H3=>zaf D σ v x y H3
section
variable{X:Cx}{o i e value:Expr}{pos pos' tpos:Pos}{td ty tv:TE}
theorem Bm(hu:X.A.units+1<cLine)(ho:PE X o td)(hi:PE X i ty)(hs:zad i):PE X (.Subscript o i pos) (Ah td ty):=by
 intro pins s σ H Q I h;refine Bj PySem.F.slot_dict_getitem.lookup hs (thn (ho pins s σ H _ I h) fun u s1 ⟨x,H1,I1,rx,q1⟩=>thn (hi pins s1 σ H1 _ I1 q1) fun iv s2 ⟨y,H2,I2,ry,a,v,ex,g,q2⟩=>?_);subst ex;obtain rfl:u=Value.ref a:=rx;exact⟨Ky I2 g,Fn hu I2 g ry fun w' s3 I3 rw'=>⟨v,H2,I3,rw',q2⟩⟩
theorem Lp(hu:X.A.units+1<cLine)(hi:PE X i ty)(ho:PE X o td):PC X .In i o (zc5 ty td):=by
 intro pins s σ H Q I h;refine thn (hi pins s σ H _ I h) fun iv s1 ⟨y,H1,I1,ry,q1⟩=>thn (ho pins s1 σ H1 _ I1 q1) fun u s2 ⟨x,H2,I2,rx,a,ov,ex,g,q2⟩=>?_;subst ex;obtain rfl:u=Value.ref a:=rx;exact zc4 hu I2 g ry fun s3 I3=>⟨.bl ov.isSome,H2,I3,rfl,q2⟩
theorem Qu(hu:X.A.units+1<cLine)(hi:PE X i ty)(ho:PE X o td):PC X .NotIn i o (Bl ty td):=by
 intro pins s σ H Q I h;refine thn (hi pins s σ H _ I h) fun iv s1 ⟨y,H1,I1,ry,q1⟩=>thn (ho pins s1 σ H1 _ I1 q1) fun u s2 ⟨x,H2,I2,rx,a,ov,ex,g,q2⟩=>?_;subst ex;obtain rfl:u=Value.ref a:=rx;exact Bi hu I2 g ry fun s3 I3=>⟨.bl (!ov.isSome),H2,I3,rfl,q2⟩
theorem Si(hu:X.A.units+1<cLine)(ho:PE X o td)(hi:PE X i ty)(hv:PE X value tv)(hs:swapsWith value (some (.Subscript o i pos')) pos.line X.env=pure false) :
  PS X (.Assign [.Subscript o i pos'] value pos) (zb5 td ty tv):=by
 intro pins s σ H D I h;refine wpAny_Assign_Subscript (thn (hv pins s σ H _ I h) fun r s1 ⟨v,H1,I1,rv,q1⟩=>thn (ho pins s1 σ H1 _ I1 q1) fun u s2 ⟨x,H2,I2,rx,q2⟩=>thn (hi pins s2 σ H2 _ I2 q2) fun iv s3 ⟨y,H3,I3,ry,a,H4,ex,g,q3⟩=>?_) hs;subst ex;obtain rfl:u=Value.ref a:=rx;exact Fo hu I3 g ry rv fun s4 I4=>⟨σ,H4,I4,q3⟩
end
theorem Kz{P:Program}{w:World}{H:Hp}(h:Heap)(hb:sysModules<h.objs.size):Yh P w H (h.push { cls:=.type "dict",data:=.dict #[] }) h.objs.size (.dK []) :=
 ⟨zrj _,zrf.mpr (Ne.symm (zrk hb)),[],.nil,Heap.DictOf.new h⟩
theorem Dj{P:Program}{w:World}{H:Hp}(h:Heap)(hb:sysModules<h.objs.size):Yh P w H (h.push { cls:=.type "dict",data:=.dict #[] }) h.objs.size (.dT []) :=
 ⟨zrj _,zrf.mpr (Ne.symm (zrk hb)),[],.nil,_,#[],0,Heap.get?_push_size _ rfl,⟨rfl,rfl,rfl⟩,rfl,rfl,List.nodup_nil⟩
noncomputable def zag:TE:=fun _ H Q=>∀ p,H p=none->Q (.ref p) (upd H p (.dK []))
noncomputable def zah:TE:=fun _ H Q=>∀ p,H p=none->Q (.ref p) (upd H p (.dT []))
section
variable{X:Cx}{pos:Pos}
theorem K0:PE X (.Dict [] [] pos) zag:=fun pins s σ H Q I h =>
 wpAny_Dict_empty ⟨.ref s.heap.objs.size,_,I.laid (a:=s.heap.objs.size) (o:=.dK []) (t':=s.toks) (fun _ _ q=>Heap.get?_push_of_some _ q) (zq1 _) (Kz s.heap I.big),rfl,h _ (I.hok.fresh (zq1 _))⟩
theorem K1:PE X (.Dict [] [] pos) zah:=fun pins s σ H Q I h =>
 wpAny_Dict_empty ⟨.ref s.heap.objs.size,_,I.laid (a:=s.heap.objs.size) (o:=.dT []) (t':=s.toks) (fun _ _ q=>Heap.get?_push_of_some _ q) (zq1 _) (Dj s.heap I.big),rfl,h _ (I.hok.fresh (zq1 _))⟩
end
noncomputable def Io:List (TE×TE)->St->Hp->(List (V×V)->Hp->Prop)->Prop
 | [],_,H,Q=>Q [] H
 | (tk,tv) :: r,σ,H,Q=>tk σ H fun x H1=>tv σ H1 fun y H2=>Io r σ H2 fun ps H3=>Q ((x,y) :: ps) H3
noncomputable abbrev VV:List (V×V)->List (Value×Value)->Prop:=Paired fun p q=>RelV p.1 q.1/\RelV p.2 q.2
noncomputable def PPs(X:Cx)(pos:Pos)(keys:List (Option Expr))(values:List Expr)(trs:List (TE×TE)):Prop :=
 ∀ (pins:List (Addr×Obj)) (s:Shared) (σ:St) (H:Hp) (Q:List (V×V)->Hp->Prop),Inv X pins σ H s->Io trs σ H Q ->
   wpAny (model X.prog X.w) X.A (evalPairs (pairTrees keys values X.env pos)) (fun vs s'=>∃ ps H',Inv X pins σ H' s'/\VV ps vs/\Q ps H') X.xe s
theorem Bn{X:Cx}{pos:Pos}:PPs X pos [] [] []:=fun pins s σ H Q I h=>pairTrees_nil_walk ⟨[],H,I,.nil,h⟩
theorem Dk{X:Cx}{pos:Pos}{k v:Expr}{ks:List (Option Expr)}{vs:List Expr}{tk tv:TE}{trs:List (TE×TE)}(hk:PE X k tk)(hv:PE X v tv)(hr:PPs X pos ks vs trs) :
  PPs X pos (some k :: ks) (v :: vs) ((tk,tv) :: trs):=fun pins s σ H Q I h =>
 pairTrees_cons_walk (thn (hk pins s σ H _ I h) fun u s1 ⟨x,H1,I1,rx,q1⟩=>thn (hv pins s1 σ H1 _ I1 q1) fun w2 s2 ⟨y,H2,I2,ry,q2⟩ =>
  thn (hr pins s2 σ H2 _ I2 q2) fun ws s3 ⟨ps,H3,I3,rel,q3⟩=>⟨(x,y) :: ps,H3,I3,.cons ⟨rx,ry⟩ rel,q3⟩)
noncomputable def Tw(kvs more:List (Key×V)):List (Key×V):=more.foldl (fun acc kv=>putK acc kv.1 kv.2) kvs
theorem KV.merge:∀ {more:List (Key×V)} {rs:List (Key×Value)} {kvs:List (Key×V)} {vs:List (Key×Value)},KV more rs->KV kvs vs->KV (Tw kvs more) (merged vs rs):=by
 intro more rs kvs vs r;unfold KV at r
 induction r generalizing kvs vs with
 | nil=>intro q;exact q
 | @cons p q ps qs h t ih =>
   intro r0;have e:KV (putK kvs p.1 p.2) (stored vs q.1 q.2):=by
    have:=r0.put p.1 h.2;rw[<- h.1];exact this
   exact ih e
theorem S6:∀ (more kvs:List (Key×V)),(Tw kvs more).length<=kvs.length+more.length
 | [],kvs=>by show kvs.length<=kvs.length+0;omega
 | p :: r,kvs=>by
   have h1:=S6 r (putK kvs p.1 p.2);have h2:=Xs kvs p.1 p.2;show (Tw (putK kvs p.1 p.2) r).length<=_;rw[zrc];omega
theorem Oz{P:Program}{w:World}:∀ {kvs:List (Key×V)} {ws:List (Value×Value)},VV (kvs.map fun kv=>(kV kv.1,kv.2)) ws->∃ rs,Carries (Yb P w) ws rs/\KV kvs rs
 | [],_,r=>by rw[List.map_nil] at r;cases r;exact⟨[],True.intro,.nil⟩
 | p :: kvs,_,r=>by
   rw[zq8] at r;cases r with
   | @cons a b as bs h t =>
     obtain⟨rs,c,q⟩:=Oz (P:=P) (w:=w) t;obtain⟨b1,b2⟩:=b;exact⟨(p.1,b2) :: rs,⟨Pk h.1,rfl,c⟩,.cons ⟨rfl,h.2⟩ q⟩
noncomputable def zb6(trs:List (TE×TE)):TE:=fun σ H Q=>∀ p,H p=none->Io trs σ (upd H p (.dK [])) fun ps H2=>H2 p=some (.dK [])/\∃ kvs:List (Key×V),ps=kvs.map (fun kv=>(kV kv.1,kv.2))/\kvs.length<=15/\Q (.ref p) (upd H2 p (.dK (Tw [] kvs)))
theorem Bo{X:Cx}{pos:Pos}{keys:List (Option Expr)}{values:List Expr}{trs:List (TE×TE)}(h:PPs X pos keys values trs)(hall:keys.all (·.isSome)=true)(hl:keys.length=values.length)(h0:keys≠[])
  (h15:keys.length<=15):PE X (.Dict keys values pos) (zb6 trs):=by
 intro pins s σ H Q I q;have hn:=I.hok.fresh (zq1 s.heap.objs.size);have I1:=I.laid (a:=s.heap.objs.size) (o:=.dK []) (h':=s.heap.push { cls:=.type "dict",data:=.dict #[] }) (t':=s.toks) (fun _ _ q=>Heap.get?_push_of_some _ q) (zq1 _) (Kz s.heap I.big);refine wpAny_Dict_walk (knd:=Yb X.prog X.w) hall hl h0 h15 (thn (h pins _ σ _ _ I1 (q _ hn)) fun ws s2 ⟨ps,H2,I2,rel,e,kvs,ep,lk,q2⟩=>?_);subst ep;obtain⟨rs,c,rk⟩:=Oz (P:=X.prog) (w:=X.w) rel;obtain⟨z,hd,vs0,r0,dd⟩:=Dg I2.hok e;cases r0;refine⟨rs,c,dd,fun h' dd' hs=>⟨.ref s.heap.objs.size,_,?_,rfl,q2⟩⟩;have hz:(Tw [] kvs).length<=sizeLine:=by
  have h1:=S6 kvs [];rw[zr4] at h1;rw[sizeLine_eq];omega
 have he:∃ q,h'.get? s.heap.objs.size=some q:=let ⟨q,_,_,hq,_⟩:=dd';⟨q,hq⟩;exact R6 I2 (by rw[e];exact True.intro) hs he (Im hz hd (rk.merge .nil) dd')
structure M1(X:Cx)(o:Expr)(m:Str)(apos:Pos)(e:Expr)(cpos:Pos):Prop where
 base:attributeBase o m X.env (eval o X.env)=eval o X.env
 few:((backTo cpos (starEach [e] X.env)).all (fun x=>!x.1)&&(backToKw cpos (keywordEach [] X.env)).all (fun x=>x.1.isSome)
  && decide (([e]:List Expr).length+([]:List Keyword).length+(if ([]:List Keyword).isEmpty then 0 else 1)<30))=true
 line:(apos.endLine == cpos.line)=true
 trees:backTo cpos (starEach [e] X.env)=[(false,eval e X.env)]
structure M2(X:Cx)(o:Expr)(m:Str)(apos:Pos)(e f:Expr)(cpos:Pos):Prop where
 base:attributeBase o m X.env (eval o X.env)=eval o X.env
 few:((backTo cpos (starEach [e,f] X.env)).all (fun x=>!x.1)&&(backToKw cpos (keywordEach [] X.env)).all (fun x=>x.1.isSome)
  && decide (([e,f]:List Expr).length+([]:List Keyword).length+(if ([]:List Keyword).isEmpty then 0 else 1)<30))=true
 line:(apos.endLine == cpos.line)=true
 trees:backTo cpos (starEach [e,f] X.env)=[(false,eval e X.env),(false,eval f X.env)]
noncomputable def IsD(H:Hp)(a:Addr):Prop:=(∃ kvs,Rd H a (.dK kvs))\/∃ kvs,Rd H a (.dT kvs)
theorem Ip{X:Cx}{pins:List (Addr×Obj)}{σ:St}{H:Hp}{s:Shared}{a:Addr}(I:Inv X pins σ H s)(d:IsD H a) :
  s.TypeIs (.ref a) "dict"/\(∀ b,Value.ref a=.ref b->∃ ob,s.heap.get? b=some ob/\ob.dict=none)/\(a == sysModules)=false:=by
 rcases d with ⟨kvs,e⟩|⟨kvs,e⟩
 ·obtain⟨_,hd,vs,_,dd⟩:=S5 I.hok e;refine⟨dd.typeIs,fun b q=>?_,hd⟩;cases q;obtain⟨ob,_,_,h1,h2,_⟩:=dd;exact⟨ob,h1,h2.2.1⟩
 ·obtain⟨_,hd,xs,_,dd⟩:=Oy I.hok e;refine⟨dd.typeIs,fun b q=>?_,hd⟩;cases q;obtain⟨ob,_,_,h1,h2,_⟩:=dd;exact⟨ob,h1,h2.2.1⟩
section
variable{X:Cx}{pins:List (Addr×Obj)}{σ:St}{H:Hp}{s:Shared}{a:Addr}{y d:V}{u r:Value}{o:Option V}{A:Around}{E:Value->Shared->Prop}
theorem zai{Q:Value->Shared->Prop}(hu:A.units+1<cLine)(I:Inv X pins σ H s)(g:DGet H a y o)(ry:RelV y u)(rd:RelV d r)(h:∀ w' s',Inv X pins σ H s'->RelV (o.getD d) w'->Q w' s') :
  wpAny (model X.prog X.w) A (call (.builtin "dict.get") [.ref a,u,r]) Q E s:=by
 rcases g with ⟨kvs,k,e,ey,l⟩|⟨kvs,k,b,e,ey,eb,l⟩
 ·subst ey;obtain⟨z,hd,vs,rel,dd⟩:=S5 I.hok e;refine call_meetsIn PySem.F.slot_dict_get dd.typeIs PySem.F.entry_dict_get (PySem.F.args_dict_get_3 _ _ _) (meets_dict_get_default (Yb X.prog X.w) a (Pk ry) hd r) ⟨_,dd.mapOf,h _ _ (I.tok _) ?_⟩;rw[l];exact(rel.val k).getD rd
 ·subst ey;cases (show u=Value.ref b from ry);obtain⟨z,hd,xs,rel,dd⟩:=Oy I.hok e;refine call_meetsIn PySem.F.slot_dict_get dd.typeIs PySem.F.entry_dict_get (PySem.F.args_dict_get_3 _ _ _) (meetsH_dict_get_default (tupleKind (Yb X.prog X.w)) a b hd r) ⟨tupleKind_room_in1 hu,k,xs,Rf I.hok eb,dd,h _ _ (I.tok _) ?_⟩;rw[l];exact(rel.val k).getD rd
end
inductive Bp(ty:TE)(tx:TE)(σ:L2.St)(Q:VK)(x:V)(H1:Hp):Prop where
 | mk(a)(_:x=.ref a)(_:IsD H1 a)(_:ty σ H1 fun y H2=>tx σ H2 fun z H3=>∃ o,DGet H3 a y o/\Q (o.getD z) H3)
noncomputable def zaj(td ty tx:TE):TE:=fun σ H Q=>td σ H fun x H1=>Bp ty tx σ Q x H1
inductive Bq(ty:TE)(σ:L2.St)(Q:VK)(x:V)(H1:Hp):Prop where
 | mk(a)(_:x=.ref a)(_:IsD H1 a)(_:ty σ H1 fun y H2=>∃ kvs k v,H2 a=some (.dK kvs)/\y=kV k/\valV kvs k=some v/\Q v (upd H2 a (.dK (Xc kvs k))))
noncomputable def zak(td ty:TE):TE:=fun σ H Q=>td σ H fun x H1=>Bq ty σ Q x H1
section
variable{X:Cx}{o e f:Expr}{apos cpos:Pos}{td ty tx:TE}
theorem Dl(hu:X.A.units+1<cLine)(ho:PE X o td)(he:PE X e ty)(hf:PE X f tx)(m:M2 X o "get" apos e f cpos):PE X (.Call (.Attribute o "get" apos) [e,f] [] cpos) (zaj td ty tx):=by
 intro pins s σ H Q I h;refine wpAny_Call_method m.base m.few m.line PySem.F.plainAttrs_dict PySem.F.slot_dict_get PySem.F.type_dict_get (thn (ho pins s σ H _ I h) fun u s1 ⟨x,H1,I1,rx,a,ex,d,q1⟩=>?_);subst ex;obtain rfl:u=Value.ref a:=rx;obtain⟨t1,t2,_⟩:=Ip I1 d;refine⟨t1,t2,?_⟩;rw[m.trees];refine Calls.callWith_builtin rfl (Calls.evalArgs_plain (Calls.spliced_cons (thn (he pins s1 σ H1 _ I1 q1) fun iv s2 ⟨y,H2,I2,ry,q2⟩ =>
  Calls.spliced_cons (thn (hf pins s2 σ H2 _ I2 q2) fun fv s3 ⟨z,H3,I3,rz,ov,g,q3⟩=>Calls.spliced_nil ?_))))
 exact zai hu I3 g ry rz fun w' s4 I4 rw'=>⟨_,H3,I4,rw',q3⟩
theorem Dm(ho:PE X o td)(he:PE X e ty)(m:M1 X o "pop" apos e cpos):PE X (.Call (.Attribute o "pop" apos) [e] [] cpos) (zak td ty):=by
 intro pins s σ H Q I h;refine wpAny_Call_method m.base m.few m.line PySem.F.plainAttrs_dict PySem.F.slot_dict_pop PySem.F.type_dict_pop (thn (ho pins s σ H _ I h) fun u s1 ⟨x,H1,I1,rx,a,ex,d,q1⟩=>?_);subst ex;obtain rfl:u=Value.ref a:=rx;obtain⟨t1,t2,_⟩:=Ip I1 d;refine⟨t1,t2,?_⟩;rw[m.trees];refine Calls.callWith_builtin rfl (Calls.evalArgs_plain (Calls.spliced_cons (thn (he pins s1 σ H1 _ I1 q1) fun iv s2 ⟨y,H2,I2,ry,kvs,k,v,ea,ey,l,q2⟩=>Calls.spliced_nil ?_)));subst ey;exact zb2 I2 ea ry l (.inl rfl) fun w' s3 I3 rw'=>⟨v,_,I3,rw',q2⟩
end
end L2
namespace HT
open PySem PyProof.Rows
section
open PySem.SeqAt
open PySem.AutoSeq1 (wpAny_loadPart')
open PySem.MeetsSeq PySem.MeetsSeq2 PySem.MeetsSeq3
end
section
variable{prog:Program}{w:World}{A:Around}{E:Value->Shared->Prop}{s:Shared}
theorem cat_tup{t b:Addr}{vs ws:List Value}{Q:Value->Shared->Prop}(ht:IsTup s.heap t vs.toArray)(hb:IsTup s.heap b ws.toArray)(hv:vs≠[])
  (h1:ws=[]->Q (.ref t) s) (h2:ws≠[]->Q (.ref s.heap.objs.size) { s with heap:=s.heap.push { cls:=.type "tuple",data:=.seq (vs++ws).toArray } })
  (hsz:vs.length+ws.length<=sizeLine):wpAny (model prog w) A (binaryOp .Add (.ref t) (.ref b)) Q E s:=by
 obtain⟨⟨cls,dd,data,sl⟩,ho,hc,n,hd⟩:=id ht;obtain⟨⟨cls2,dd2,data2,sl2⟩,ho2,hc2,n2,hd2⟩:=id hb;simp only at hc hd hc2 hd2;subst hc hd hc2 hd2;have e:vs.toArray++ws.toArray=(vs++ws).toArray:=by simp
 by_cases hw:ws=[]
 ·exact concat_meets ⟨_,ho,rfl⟩ ⟨_,ho2,rfl⟩ noFill_tuple_add seq_tuple_add PySem.F.slot_tuple_add PySem.F.entry_tuple_add (PySem.F.args_tuple_add_2 _ _)
   (tuple_addW1 t b vs.toArray ws.toArray n n2 dd dd2 sl sl2 (by simpa using hv) (by simp[hw])) ⟨ho,ho2,h1 hw⟩
 ·refine concat_meets ⟨_,ho,rfl⟩ ⟨_,ho2,rfl⟩ noFill_tuple_add seq_tuple_add PySem.F.slot_tuple_add PySem.F.entry_tuple_add (PySem.F.args_tuple_add_2 _ _)
   (tuple_addW2 t b vs.toArray ws.toArray n n2 dd dd2 sl sl2 (by simpa using hv) (by simpa using hw) (by rw[zq6,zq6];exact hsz)) ⟨ho,ho2,?_⟩
  rw[e];exact h2 hw
end
end HT
namespace L2
open PySem PySem.Spec PyProof.Rows
section
variable{X:Cx}{e:Expr}{te:TE}{lo hi:Option Expr}{tl th:TO}{pos p2:Pos}
inductive Ai(K:Frag)(x:V)(y:V)(H:Hp)(Q:VK):Prop where
 | mk(a)(b)(xs)(ys)(_:x=.ref a)(_:y=.ref b)(_:SqT K H a xs)(_:SqT K H b ys)(_:xs≠[])(_:xs.length+ys.length<=sizeLine)(_:(ys=[]->Q (.ref a) H))(_:(ys≠[]->∀ p,H p=none->Q (.ref p) (upd H p (.tup (xs++ys)))))
theorem Vals.nil_iff{xs:List V}{us:List Value}(r:Vals xs us):us=[]↔xs=[]:=by
 cases r with
 | nil=>simp
 | cons _ _=>simp
theorem Br:OpR X (binaryOp .Add) (Ai X.K):=by
 intro pins s σ H x y v u Q I rx ry h;obtain⟨a,b,xs,ys,rfl,rfl,ha,hb,hx,hz,q1,q2⟩:=h;cases rx;cases ry;obtain⟨its,r1,p1,_⟩:=I.tuple ha;obtain⟨its2,r2,p2,_⟩:=I.tuple hb;refine HT.cat_tup p1 p2 (fun z=>hx (r1.nil_iff.mp z)) (fun z=>⟨.ref a,H,I,rfl,q1 (r2.nil_iff.mp z)⟩) (fun z=>?_) (by rw[<- r1.length,<- r2.length];exact hz);refine⟨.ref s.heap.objs.size,_,I.laid (t':=s.toks) (o:=.tup (xs++ys)) (fun b ob q=>Heap.get?_push_of_some _ q) (zq1 _) ?_,rfl,q2 (fun w=>z (r2.nil_iff.mpr w)) _ (I.hok.fresh (zq1 _))⟩;exact⟨by rw[zq4];exact hz,_,r1.append r2,IsTup.new _ _⟩
end
noncomputable def ixN(n:Nat)(i:Int):Option Nat:=if 0<=i then (if i<n then some i.toNat else none) else if -(n:Int)<=i then some (i+n).toNat else none
noncomputable def atI{α:Type}(xs:List α)(i:Int):Option α:=(ixN xs.length i).bind fun j=>xs[j]?
theorem Gb{n:Nat}{i:Int}{j:Nat}(h:ixN n i=some j):seqIndex? i n=some j/\j<n/\-(n:Int)<=i/\i<n:=by
 unfold ixN at h;by_cases h0:0<=i
 ·rw[if_pos h0] at h;by_cases h1:i<n
  ·rw[if_pos h1] at h;have e:i.toNat=j:=Option.some.inj h;exact⟨by rw[seqIndex_of h0 h1,e],by omega,by omega,h1⟩
  ·rw[if_neg h1] at h;cases h
 ·rw[if_neg h0] at h;by_cases h1:-(n:Int)<=i
  ·rw[if_pos h1] at h;have e:(i+n).toNat=j:=Option.some.inj h;exact⟨by rw[seqIndex_neg ⋯ h1,e],by omega,h1,by omega⟩
  ·rw[if_neg h1] at h;cases h
theorem Gd{α:Type}{xs:List α}{i:Int}{v:α}(h:atI xs i=some v):∃ j,seqIndex? i xs.length=some j/\xs[j]?=some v/\j<xs.length/\-(xs.length:Int)<=i/\i<xs.length:=by
 unfold atI at h;cases e:ixN xs.length i with
 | none=>rw[e] at h;cases h
 | some j =>
   rw[e] at h;obtain⟨h1,h2,h3,h4⟩:=Gb e;exact⟨j,h1,h,h2,h3,h4⟩
theorem Y6{α:Type}{xs:List α}{j:Nat}{v:α}(h:xs[j]?=some v):atI xs (j:Int)=some v:=by
 have hj:j<xs.length:=(zqz.mp h).1;have e:ixN xs.length (j:Int)=some j:=by
  unfold ixN;rw[if_pos ⋯,if_pos ⋯];simp
 unfold atI;rw[e];exact h
noncomputable def Ge(b:Expr):Prop:=∀ o i,subscripted b false o i=operate [o,i] (getItem o i)
noncomputable def IxR(X:Cx)(r:R2):Prop :=
 ∀ (value slice:Expr) (pins:List (Addr×Obj)) (s:Shared) (σ:St) (H:Hp) (x y:V) (v u:Value) (Q:VK),Inv X pins σ H s->RelV x v->RelV y u->r x y H Q ->
   subscripted slice false v u=operate [v,u] (getItem v u)->wpAny (model X.prog X.w) X.A (subscriptTail value slice v u) (EP X pins σ Q) X.xe s
noncomputable def MtR(X:Cx)(id:String)(r:V->List V->Hp->VK->Prop):Prop :=
 ∀ (pins:List (Addr×Obj)) (s:Shared) (σ:St) (H:Hp) (x:V) (xs:List V) (v:Value) (us:List Value) (Q:VK),Inv X pins σ H s->RelV x v->Vals xs us->r x xs H Q ->
   wpAny (model X.prog X.w) X.A (call (.builtin id) (v :: us)) (EP X pins σ Q) X.xe s
section
variable{X:Cx}{a b:Expr}{ta tb:TE}{pos:Pos}
theorem zb7{r:R2}(hr:IxR X r)(ha:PE X a ta)(hb:PE X b tb)(hs:Ge b):PE X (.Subscript a b pos) (tOp r ta tb):=by
 intro pins s σ H Q I h;exact Subscript_ (binT ha hb I h fun v u s2 x y H2 I2 rx ry q=>hr a b pins s2 σ H2 x y v u Q I2 rx ry q (hs _ _))
inductive zal(K:Frag)(x:V)(y:V)(H:Hp)(Q:VK):Prop where
 | mk(p)(xs)(i)(v)(_:x=.ref p)(_:y=.int i)(_:SqL K H p xs)(_:atI xs i=some v)(_:Q v H)
inductive zam(K:Frag)(x:V)(y:V)(H:Hp)(Q:VK):Prop where
 | mk(p)(xs)(i)(v)(_:x=.ref p)(_:y=.int i)(_:SqT K H p xs)(_:atI xs i=some v)(_:Q v H)
theorem Bs:IxR X (zal X.K):=by
 intro value slice pins s σ H x y v u Q I rx ry h hs;obtain⟨p,xs,i,z,rfl,rfl,hq,he,q⟩:=h;cases rx;obtain⟨t,rfl⟩:=ry;obtain⟨its,r,pl,hz⟩:=I.list hq;obtain⟨j,h1,h2,h3,h4,h5⟩:=Gd he;obtain⟨w,ew,rw'⟩:=r.get h2;have hl:=r.length;have hn:=Rc;have fin:EP X pins σ Q w s:=⟨z,H,I,rw',q⟩;by_cases h0:0<=i
 ·have hj:i.toNat=j:=by
   rw[seqIndex_of h0 h5] at h1;exact Option.some.inj h1
  exact item_listR pl.isList h0 ⋯ (by rw[hj];simpa using ew) fin hs
 ·have hj:(i+(its.toArray.size:Int)).toNat=j:=by
   rw[seqIndex_neg ⋯ h4] at h1;rw[zq6,<- hl];exact Option.some.inj h1
  exact subscriptTail_builtinR (x:=w) pl.isList.typeIs slot_list_getitem.lookup
   (wpAny_getItem_list_neg (Q:=fun r s'=>r=w/\EP X pins σ Q r s') pl.isList ⋯ (by rw[zq6]<;>omega) ⋯ (by rw[hj];simpa using ew) ⟨rfl,fin⟩) hs
theorem zan:IxR X (zam X.K):=by
 intro value slice pins s σ H x y v u Q I rx ry h hs;obtain⟨p,xs,i,z,rfl,rfl,hq,he,q⟩:=h;cases rx;obtain⟨t,rfl⟩:=ry;obtain⟨its,r,pl,hz⟩:=I.tuple hq;obtain⟨j,h1,h2,h3,h4,h5⟩:=Gd he;obtain⟨w,ew,rw'⟩:=r.get h2;have hl:=r.length;have hn:=Rc;have fin:EP X pins σ Q w s:=⟨z,H,I,rw',q⟩;exact subscriptTail_builtinR (x:=w) pl.typeIs slot_tuple_getitem.lookup
  (getItem_tuple (j:=j) (Q:=fun r s'=>r=w/\EP X pins σ Q r s') pl ⋯ ⋯ (by rw[zq6,<- hl];exact h1) (by simpa using ew) ⟨rfl,fin⟩) hs
theorem Iq(its:List Value)(n j:Nat)(u:Value):Obj.mapSeq (·.setIfInBounds j u) { cls:=.type "list",data:=.seq its.toArray n }={ cls:=.type "list",data:=.seq (its.set j u).toArray n }:=by
 simp[Obj.mapSeq]
theorem Inv.lst{pins:List (Addr×Obj)}{σ:St}{H:Hp}{s:Shared}{p:Addr}{xs:List V}(I:Inv X pins σ H s)(h:H p=some (.lst xs)) :
  ∃ (its:List Value) (n:Nat),Vals xs its/\s.heap.get? p=some { cls:=.type "list",data:=.seq its.toArray n }/\xs.length<=sizeLine:=by
 obtain⟨z,its,n,r,e⟩:=I.hok p _ h;exact⟨its,n,r,e,z⟩
theorem Inv.lstUpd{pins:List (Addr×Obj)}{σ:St}{H:Hp}{s:Shared}{p:Addr}{xs ys:List V}{its its':List Value}{n n':Nat}{f:Obj->Obj}(I:Inv X pins σ H s)(h:H p=some (.lst xs))
  (ho:s.heap.get? p=some { cls:=.type "list",data:=.seq its.toArray n }) (hf:f { cls:=.type "list",data:=.seq its.toArray n }={ cls:=.type "list",data:=.seq its'.toArray n' }) (r:Vals ys its') (hz:ys.length<=sizeLine) (t:Nat) :
  Inv X pins σ (upd H p (.lst ys)) { s with heap:=s.heap.update p f,toks:=t }:=by
 have e:(s.heap.update p f).get? p=some { cls:=.type "list",data:=.seq its'.toArray n' }:=by
  rw[Heap.get?_update_self f ho (by rw[hf]<;>rfl),hf]
 refine I.write (x:=p) (e:=p) (by rw[h];trivial) (.inl rfl) (fun b u hb q=>(Heap.get?_update_other _ _ (Ne.symm hb)).trans q) ⟨_,e⟩ ?_;exact⟨hz,its',n',r,e⟩
noncomputable def zb8:V->V->V->Hp->(Hp->Prop)->Prop:=fun o i v H Q=>∃ p xs k j,o=.ref p/\i=.int k/\H p=some (.lst xs)/\ixN xs.length k=some j/\Q (upd H p (.lst (xs.set j v)))
theorem Dp:zbk X zb8:=by
 intro pins s σ H o i v ov iv u Q I ro ri rv h;obtain⟨p,xs,k,j,rfl,rfl,hp,hj,q⟩:=h;cases ro;obtain⟨t,rfl⟩:=ri;obtain⟨its,n,r,ho,hz⟩:=I.lst hp;obtain⟨h1,h2,h3,h4⟩:=Gb hj;have hl:=r.length;have hn:=Rc;have I':Inv X pins σ (upd H p (.lst (xs.set j v))) { s with heap:=s.heap.update p (Obj.mapSeq (·.setIfInBounds j u)) } :=
  I.lstUpd hp ho (Iq its n j u) (r.set rv j) (by rw[zr5];exact hz) s.toks
 by_cases h0:0<=k
 ·have hk:k.toNat=j:=by
   rw[seqIndex_of h0 h4] at h1;exact Option.some.inj h1
  exact PySem.W.ki_setAt ho h0 ⋯ (by rw[zq6,<- hl];exact h4) (by rw[hk];exact⟨_,I',q⟩)
 ·have hk:(k+(its.toArray.size:Int)).toNat=j:=by
   rw[seqIndex_neg ⋯ h3] at h1;rw[zq6,<- hl];exact Option.some.inj h1
  exact PySem.W.ki_setBack ho ⋯ (by rw[zq6,<- hl];exact h3) ⋯ (by rw[hk];exact⟨_,I',q⟩)
noncomputable def Uw:V->Bool
 | .non=>true
 | .bl _=>true
 | .int _=>true
 | .str _=>true
 | _=>false
noncomputable def eqV:V->V->Bool
 | .non,.non=>true
 | .bl a,.bl b=>a == b
 | .bl a,.int b=>(if a then 1 else 0) == b
 | .int a,.bl b=>a == (if b then 1 else 0)
 | .int a,.int b=>a == b
 | .str a,.str b=>a == b
 | _,_=>false
theorem zao{A:Around}{s:Shared}{y x:V}{u v:Value}(ry:RelV y u)(rx:RelV x v)(fy:Uw y=true)(fx:Uw x=true):SeqAt.EqAt A s u v (eqV y x):=by
 cases y with
 | non =>
   cases ry;cases x with
   | non=>cases rx;exact SeqAt.EqAt.same _
   | bl b=>cases rx;exact SeqAt.EqAt.none_bool b
   | int b=>obtain⟨t,rfl⟩:=rx;exact SeqAt.EqAt.none_int b t
   | str b=>obtain⟨t,rfl⟩:=rx;exact SeqAt.EqAt.none_str b t
   | _=>exact absurd (show false=true from fx) zrb
 | bl a =>
   cases ry;cases x with
   | non=>cases rx;exact SeqAt.EqAt.bool_none a
   | bl b=>cases rx;exact SeqAt.EqAt.bool_bool a b
   | int b=>obtain⟨t,rfl⟩:=rx;exact SeqAt.EqAt.bool_int a b t
   | str b=>obtain⟨t,rfl⟩:=rx;exact SeqAt.EqAt.bool_str a b t
   | _=>exact absurd (show false=true from fx) zrb
 | int a =>
   obtain⟨t',rfl⟩:=ry;cases x with
   | non=>cases rx;exact SeqAt.EqAt.int_none a t'
   | bl b=>cases rx;exact SeqAt.EqAt.int_bool a t' b
   | int b=>obtain⟨t,rfl⟩:=rx;exact SeqAt.EqAt.int_int a t' b t
   | str b=>obtain⟨t,rfl⟩:=rx;exact SeqAt.EqAt.int_str a t' b t
   | _=>exact absurd (show false=true from fx) zrb
 | str a =>
   obtain⟨t',rfl⟩:=ry;cases x with
   | non=>cases rx;exact SeqAt.EqAt.str_none a t'
   | bl b=>cases rx;exact SeqAt.EqAt.str_bool a t' b
   | int b=>obtain⟨t,rfl⟩:=rx;exact SeqAt.EqAt.str_int a t' b t
   | str b=>obtain⟨t,rfl⟩:=rx;exact SeqAt.EqAt.str_str a t' b t
   | _=>exact absurd (show false=true from fx) zrb
 | _=>exact absurd (show false=true from fy) zrb
noncomputable def eqU(x:V)(u:Value):Bool:=match u with
 | .none=>eqV .non x
 | .bool b=>eqV (.bl b) x
 | .int i _=>eqV (.int i) x
 | .str z _=>eqV (.str z) x
 | _=>false
theorem Ir{x y:V}{u:Value}(r:RelV y u)(f:Uw y=true):eqU x u=eqV y x:=by
 cases y with
 | non=>cases r;rfl
 | bl b=>cases r;rfl
 | int i=>obtain⟨t,rfl⟩:=r;rfl
 | str z=>obtain⟨t,rfl⟩:=r;rfl
 | _=>exact absurd (show false=true from f) zrb
theorem Lq{x:V}:∀ {xs:List V} {us:List Value},Vals xs us->xs.all Uw=true->us.any (eqU x)=xs.any fun y=>eqV y x
 | _,_,.nil,_=>rfl
 | y :: xs,u :: us,.cons r t,f=>by
   rw[List.all_cons,zsa] at f;rw[zsk,zsk,Ir r f.1,Lq t f.2]
theorem R7{A:Around}{s:Shared}{x:V}{v:Value}(rx:RelV x v)(fx:Uw x=true):∀ {xs:List V} {us:List Value},Vals xs us->xs.all Uw=true->∀ u∈us,SeqAt.EqAt A s u v (eqU x u)
 | _,_,.nil,_=>fun u hu=>by cases hu
 | y :: xs,u :: us,.cons r t,f=>fun u' hu=>by
   rw[List.all_cons,zsa] at f;rcases zq0.mp hu with rfl|hu
   ·rw[Ir r f.1];exact zao r rx f.1 fx
   ·exact R7 rx fx t f.2 u' hu
noncomputable def inV(x:V)(xs:List V):Bool:=xs.any fun y=>eqV y x
inductive rIn(K:Frag)(neg:Bool)(x:V)(y:V)(H:Hp)(Q:VK):Prop where
 | mk(p)(xs)(_:y=.ref p)(_:(SqL K H p xs\/SqT K H p xs))(_:Uw x=true)(_:xs.all Uw=true)(_:Q (.bl (if neg then !inV x xs else inV x xs)) H)
theorem Fp:OpR X (compareOp .In) (rIn X.K false):=by
 intro pins s σ H x y v u Q I rx ry h;obtain⟨p,xs,rfl,hq,fx,fs,q⟩:=h;cases ry;rcases hq with hq|hq
 ·obtain⟨its,r,pl,hz⟩:=I.list hq;refine SeqAt.in_listAt (eqU x) pl.isList (fun w hw=>R7 rx fx r fs w (by simpa using hw)) ⟨.bl _,H,I,rfl,?_⟩;rw[show its.toArray.any (eqU x)=its.any (eqU x) by simp,Lq r fs];exact q
 ·obtain⟨its,r,pl,hz⟩:=I.tuple hq;refine SeqAt.in_tupleAt (eqU x) pl (fun w hw=>R7 rx fx r fs w (by simpa using hw)) ⟨.bl _,H,I,rfl,?_⟩;rw[show its.toArray.any (eqU x)=its.any (eqU x) by simp,Lq r fs];exact q
theorem Lr:Vo X (.builtin "len") (fun xs H Q=>∃ p ys,xs=[.ref p]/\(SqL X.K H p ys\/SqT X.K H p ys)/\Q (.int ys.length) H):=by
 intro pins s σ H xs us Q I r h;obtain⟨p,ys,rfl,hq,q⟩:=h;obtain⟨u,rfl,rx⟩:=S4 r;cases rx;have hn:=Rc;rcases hq with hq|hq
 ·obtain⟨its,r',pl,hz⟩:=I.list hq;have hlen:=r'.length;exact Calls.call_len_list pl.isList (by simp only[zq6]<;>omega) ⟨.int ys.length,H,I.tok _,⟨s.toks+1,by rw[zq6,hlen]⟩,q⟩
 ·obtain⟨its,r',pl,hz⟩:=I.tuple hq;have hlen:=r'.length;exact len_tuple pl (by simp only[zq6]<;>omega) ⟨.int ys.length,H,I.tok _,⟨s.toks+1,by rw[zq6,hlen]⟩,q⟩
theorem Ls:Vo X (.type "list") (fun xs H Q=>∃ p ys,xs=[.ref p]/\(SqL X.K H p ys\/SqT X.K H p ys)/\∀ l,H l=none->Q (.ref l) (upd H l (.lst ys))):=by
 intro pins s σ H xs us Q I r h;obtain⟨p,ys,rfl,hq,q⟩:=h;obtain⟨u,rfl,rx⟩:=S4 r;cases rx;have fin:∀ (its:List Value),Vals ys its->ys.length<=sizeLine->∀ (h':Heap) (c':Nat),(∀ b o',s.heap.get? b=some o'->h'.get? b=some o') ->
   h'.get? s.heap.objs.size=some { cls:=.type "list",dict:=none,data:=.seq its.toArray c',slots:=#[] }->EP X pins σ Q (.ref s.heap.objs.size) { s with heap:=h' }:=fun its r' hz h' c' kp e =>
  ⟨.ref s.heap.objs.size,_,I.laid (t':=s.toks) kp (zq1 _) (show Yh X.prog X.w _ h' _ (.lst ys) from⟨hz,its,c',r',e⟩),rfl,q _ (I.hok.fresh (zq1 _))⟩
 rcases hq with hq|hq
 ·obtain⟨its,r',pl,hz⟩:=I.list hq;have hlen:=r'.length;obtain⟨o,ho,hc,n,hd⟩:=pl.isList;exact call_list_seq p (.inl rfl) ho hc hd (fun h' c' kp e=>fin its r' hz h' c' kp e) (by simp only[zq6]<;>omega)
 ·obtain⟨its,r',pl,hz⟩:=I.tuple hq;have hlen:=r'.length;obtain⟨o,ho,hc,n,hd⟩:=pl;exact call_list_seq p (.inr rfl) ho hc hd (fun h' c' kp e=>fin its r' hz h' c' kp e) (by simp only[zq6]<;>omega)
theorem N7:Vo X (.type "tuple") (fun xs H Q=>∃ p ys,xs=[.ref p]/\((SqL X.K H p ys/\∀ l,H l=none->Q (.ref l) (upd H l (.tup ys)))\/(SqT X.K H p ys/\Q (.ref p) H))):=by
 intro pins s σ H xs us Q I r h;obtain⟨p,ys,rfl,h⟩:=h;obtain⟨u,rfl,rx⟩:=S4 r;cases rx;rcases h with ⟨hq,q⟩|⟨hq,q⟩
 ·obtain⟨its,r',pl,hz⟩:=I.list hq;have hlen:=r'.length;refine call_tuple_list pl.isList (fun h' kp=>?_) (by simp only[zq6]<;>omega);have I1:Inv X pins σ H { s with heap:=h' }:=I.kept (t':=s.toks) kp;have I2:Inv X pins σ (upd H h'.objs.size (.tup ys)) { s with heap:=h'.push { cls:=.type "tuple",data:=.seq its.toArray } } :=
   I1.laid (t':=s.toks) (fun b o e=>Heap.get?_push_of_some _ e) (zq1 _) (show Yh X.prog X.w _ _ _ (.tup ys) from⟨hz,its,r',IsTup.new _ _⟩)
  exact⟨.ref h'.objs.size,_,I2,rfl,q _ (I1.hok.fresh (zq1 _))⟩
 ·obtain⟨its,r',pl,hz⟩:=I.tuple hq;exact call_tuple_same pl ⟨.ref p,H,I,rfl,q⟩
noncomputable def tyV(K:Frag)(T:String)(x:V)(H:Hp):Prop:=match x with
 | .str _=>T="str"
 | .int _=>T="int"
 | .ref p=>(T="list"/\∃ xs,SqL K H p xs)\/(T="tuple"/\∃ o,K.lookup p=some o/\o.cls=.type "tuple"/\o.dict=none) \/
   (T="dict"/\((∃ kvs,H p=some (.dK kvs))\/∃ kvs,H p=some (.dT kvs)))\/(T="set"/\∃ S n,H p=some (.set S n))
 | _=>False
theorem Iu{pins:List (Addr×Obj)}{σ:St}{H:Hp}{s:Shared}{T:String}{x:V}{v:Value}(I:Inv X pins σ H s)(r:RelV x v)(ty:tyV X.K T x H) :
  s.TypeIs v T/\∀ a,v=.ref a->∃ ob,s.heap.get? a=some ob/\ob.dict=none:=by
 cases x with
 | str z =>
   obtain⟨t,rfl⟩:=r;cases (show T="str" from ty);exact⟨typeIs_str s z t,fun _ e=>nomatch e⟩
 | int i =>
   obtain⟨t,rfl⟩:=r;cases (show T="int" from ty);exact⟨typeIs_int s i t,fun _ e=>nomatch e⟩
 | ref p =>
   cases r;rcases ty with ⟨rfl,xs,hq⟩|⟨rfl,o,hk,hc,hd⟩|⟨rfl,hk⟩|⟨rfl,S,n,hk⟩
   ·obtain⟨its,_,pl,_⟩:=I.list hq;refine⟨pl.isList.typeIs,fun a e=>?_⟩;cases e;obtain⟨o,n,e,c,hd,_⟩:=pl;exact⟨o,e,hd⟩
   ·refine⟨⟨o,I.kIn p o hk,hc⟩,fun a e=>?_⟩;cases e;exact⟨o,I.kIn _ o hk,hd⟩
   ·have z:∃ o,s.heap.get? p=some o/\o.ExactDict:=by
     rcases hk with ⟨kvs,hk⟩|⟨kvs,hk⟩
     ·obtain⟨_,_,_,_,o,_,_,e,ex,_⟩:=I.hok p _ hk;exact⟨o,e,ex⟩
     ·obtain⟨_,_,_,_,o,_,_,e,ex,_⟩:=I.hok p _ hk;exact⟨o,e,ex⟩
    obtain⟨o,e,ex⟩:=z;refine⟨⟨o,e,ex.1⟩,fun a e2=>?_⟩;cases e2;exact⟨o,e,ex.2.1⟩
   ·obtain⟨o,_,_,_,e,ex,_⟩:=I.hok p _ hk;refine⟨⟨o,e,ex.1⟩,fun a e2=>?_⟩;cases e2;exact⟨o,e,ex.2.1⟩
 | _=>exact False.elim ty
inductive zb9(K:Frag)(T:String)(r:V->List V->Hp->VK->Prop)(Q:VK)(x:V)(H1:Hp):Prop where
 | mk(_:tyV K T x H1)(_:r x [] H1 Q)
noncomputable def zc6(K:Frag)(T:String)(r:V->List V->Hp->VK->Prop)(to:TE):TE:=fun σ H Q=>to σ H fun x H1=>zb9 K T r Q x H1
inductive zc7(K:Frag)(T:String)(r:V->List V->Hp->VK->Prop)(t:TA)(σ:L2.St)(Q:VK)(x:V)(H1:Hp):Prop where
 | mk(_:tyV K T x H1)(_:t σ H1 fun xs H2=>r x xs H2 Q)
noncomputable def tBM(K:Frag)(T:String)(r:V->List V->Hp->VK->Prop)(to:TE)(t:TA):TE:=fun σ H Q=>to σ H fun x H1=>zc7 K T r t σ Q x H1
variable{o e:Expr}{es:List Expr}{to:TE}{t:TA}{name:Str}{apos cpos:Pos}{T id:String}{r:V->List V->Hp->VK->Prop}
theorem Dq(pa:PlainAttrs T)(slot:Slot T name id)(hty:typeOf (.builtin id)=pure (.type "method_descriptor"))(hm:MtR X id r)(ho:PE X o to)
  (hbase:attributeBase o name X.env (eval o X.env)=eval o X.env:=by rfl) (hline:(apos.endLine == cpos.line)=true:=by rfl):PE X (.Call (.Attribute o name apos) [] [] cpos) (zc6 X.K T r to):=by
 intro pins s σ H Q I h;refine wpAny_Call_method0_late hbase hline (thn (ho pins s σ H _ I h) fun v s1 ⟨x,H1,I1,r1,ty,q1⟩=>?_);obtain⟨h1,h2⟩:=Iu I1 r1 ty;exact⟨T,id,pa,slot,hty,h1,h2,Calls.callWith_builtin rfl (PySem.evalArgs_none (hm pins s1 σ H1 x [] v [] Q I1 r1 .nil q1))⟩
theorem Aj(pa:PlainAttrs T)(slot:Slot T name id)(hty:typeOf (.builtin id)=pure (.type "method_descriptor"))(hm:MtR X id r)(ho:PE X o to)(ha:PA X (e :: es) t)
  (hbase:attributeBase o name X.env (eval o X.env)=eval o X.env:=by rfl)
  (hfew:((backTo cpos (starEach (e :: es) X.env)).all (fun x=>!x.1)&&(backToKw cpos (keywordEach [] X.env)).all (fun x=>x.1.isSome)
   && decide ((e :: es).length+([]:List Keyword).length+(if ([]:List Keyword).isEmpty then 0 else 1)<30))=true:=by rfl)
  (hline:(apos.endLine == cpos.line)=true:=by rfl) (hs:starEach (e :: es) X.env=(false,eval e X.env) :: starEach es X.env:=by rfl) (hplain:(backTo cpos (starEach es X.env)).any (·.1)=false:=by rfl) :
  PE X (.Call (.Attribute o name apos) (e :: es) [] cpos) (tBM X.K T r to t):=by
 intro pins s σ H Q I h;refine wpAny_Call_method_late hbase hfew hline rfl (thn (ho pins s σ H _ I h) fun v s1 ⟨x,H1,I1,r1,ty,q1⟩=>?_);obtain⟨h1,h2⟩:=Iu I1 r1 ty;refine⟨T,id,pa,slot,hty,h1,h2,?_⟩;have hA:=ha cpos pins s1 σ H1 _ I1 q1;rw[hs] at hA ⊢;refine Calls.callWith_builtin (by show (false||(backTo cpos (starEach es X.env)).any (·.1))=false;rw[hplain]<;>rfl) (Calls.evalArgs_plain ?_);exact thn hA fun us s2 ⟨vs,H2,I2,r2,q2⟩=>hm pins s2 σ H2 x vs v us Q I2 r1 r2 q2
end
noncomputable def MtM(X:Cx)(id:String)(r:V->List V->Hp->VK->Prop):Prop :=
 ∀ (pins:List (Addr×Obj)) (s:Shared) (σ:St) (H:Hp) (x:V) (xs:List V) (v:Value) (us:List Value) (Q:VK),Inv X pins σ H s->RelV x v->Vals xs us->r x xs H Q ->
   wpAny (model X.prog X.w) X.A (call (.builtin id) (v :: us)) (EP X pins σ Q) X.xe s
theorem Vals.one:∀ {x:V} {us:List Value},Vals [x] us->∃ u,us=[u]/\RelV x u
 | _,_,.cons r .nil=>⟨_,rfl,r⟩
theorem Vals.zero:∀ {us:List Value},Vals [] us->us=[]
 | _,.nil=>rfl
theorem Vals.dropLast{xs:List V}{us:List Value}(h:Vals xs us):Vals xs.dropLast us.dropLast:=by
 induction h with
 | nil=>exact .nil
 | cons r t ih =>
   cases t with
   | nil=>exact .nil
   | cons q t'=>exact .cons r ih
theorem Vals.reverse{xs:List V}{us:List Value}(h:Vals xs us):Vals xs.reverse us.reverse:=by
 induction h with
 | nil=>exact .nil
 | cons r t ih=>rw[zse,zse];exact Vals.append ih (.cons r .nil)
theorem Iv{α:Type}(l:List α):l.eraseIdx (l.length-1)=l.dropLast:=by
 induction l with
 | nil=>rfl
 | cons a r ih =>
   cases r with
   | nil=>rfl
   | cons b r =>
     have e:(a :: b :: r).length-1=((b :: r).length-1)+1:=by
      have h1:(a :: b :: r).length=r.length+2:=rfl;have h2:(b :: r).length=r.length+1:=rfl;omega
     rw[e,List.eraseIdx_cons_succ,ih]
     all_goals rfl
section
variable{X:Cx}{pins:List (Addr×Obj)}{σ:St}{H:Hp}{s:Shared}{l b:Addr}{xs ys zs:List V}
theorem Inv.lset{its its':List Value}{n:Nat}{f:Array Value->Array Value}{t':Nat}(I:Inv X pins σ H s)(hH:H l=some (.lst xs))
  (e:s.heap.get? l=some { cls:=.type "list",data:=.seq its.toArray n }) (hf:f its.toArray=its'.toArray) (hv:Vals ys its') (hz:ys.length<=sizeLine) :
  Inv X pins σ (upd H l (.lst ys)) { s with heap:=s.heap.update l (Obj.mapSeq f),toks:=t' }:=by
 have q:=PySem.IsL.update e f;rw[hf] at q;refine I.write (x:=l) (e:=l) (by rw[hH];exact trivial) (.inl rfl) (fun b' u hb hu=>(Heap.get?_update_other s.heap (Obj.mapSeq f) (Ne.symm hb)).trans hu) ⟨_,q⟩ ?_;exact⟨hz,its',_,hv,q⟩
theorem Inv.lnew{its:List Value}{t':Nat}(I:Inv X pins σ H s)(hv:Vals ys its)(hz:ys.length<=sizeLine) :
  Inv X pins σ (upd H s.heap.objs.size (.lst ys)) { s with heap:=s.heap.push { cls:=.type "list",data:=.seq its.toArray },toks:=t' } :=
 I.laid (fun _ _ q=>Heap.get?_push_of_some _ q) (zq1 _) ⟨hz,its,0,hv,Heap.get?_push_size _ rfl⟩
theorem Inv.fresh(I:Inv X pins σ H s):H s.heap.objs.size=none:=I.hok.fresh (zq1 _)
theorem Inv.lstM(I:Inv X pins σ H s)(hH:H l=some (.lst xs)):xs.length<=sizeLine/\∃ (its:List Value) (n:Nat),Vals xs its/\xs.length=its.length/\s.heap.get? l=some { cls:=.type "list",data:=.seq its.toArray n }:=by
 obtain⟨z,its,n,r,e⟩:=I.hok l _ hH;exact⟨z,its,n,r,r.length,e⟩
end
section
variable{X:Cx}
inductive Bt(x:V)(vs:List V)(H:Hp)(Q:VK):Prop where
 | mk(l)(xs)(y)(_:x=.ref l)(_:vs=[y])(_:H l=some (.lst xs))(_:xs.length<sizeLine)(_:Q .non (upd H l (.lst (xs++[y]))))
theorem Fq:MtM X "list.append" Bt:=by
 intro pins s σ H x vs v us Q I rx rv h;obtain⟨l,xs,y,rfl,rfl,hH,hz,q⟩:=h;cases rx;obtain⟨u,rfl,ru⟩:=rv.one;obtain⟨z,its,n,r,hl,e⟩:=I.lstM hH;refine call_meets F.slot_list_append ⟨_,e,rfl⟩ F.entry_list_append (F.args_list_append_2 _ _) (PySem.list_append l its.toArray n u (by rw[zq6];omega)) ⟨e,?_⟩;refine⟨.non,_,I.lset (its':=its++[u]) hH e (by simp) (r.append (.cons ru .nil)) ?_,rfl,q⟩;rw[zq4,List.length_singleton];omega
inductive zc8(x:V)(vs:List V)(H:Hp)(Q:VK):Prop where
 | mk(l)(xs)(y)(_:x=.ref l)(_:vs=[])(_:H l=some (.lst xs))(_:xs[xs.length-1]?=some y)(_:Q y (upd H l (.lst xs.dropLast)))
theorem zap:MtM X "list.pop" zc8:=by
 intro pins s σ H x vs v us Q I rx rv h;obtain⟨l,xs,y,rfl,rfl,hH,hy,q⟩:=h;cases rx;have hus:=rv.zero;subst hus;obtain⟨z,its,n,r,hl,e⟩:=I.lstM hH;obtain⟨u,hu,ru⟩:=r.get hy;have hy':its.toArray[its.toArray.size-1]?=some u:=by
  show its.toArray[its.length-1]?=some u;rw[<- Array.getElem?_toList,<- hl];exact hu
 refine call_meets F.slot_list_pop ⟨_,e,rfl⟩ F.entry_list_pop (F.args_list_pop_1 _) (MeetsSeq.list_pop_last l its.toArray n u hy' (by rw[zq6];omega)) ⟨e,?_⟩;refine⟨y,_,I.lset (its':=its.dropLast) hH e ?_ r.dropLast ?_,ru,q⟩
 ·show its.toArray.eraseIdxIfInBounds (its.toArray.size-1)=its.dropLast.toArray;rw[zq6,List.eraseIdxIfInBounds_toArray,Iv]
 ·rw[List.length_dropLast];omega
inductive Dr(x:V)(vs:List V)(H:Hp)(Q:VK):Prop where
 | mk(l)(xs)(_:x=.ref l)(_:vs=[])(_:H l=some (.lst xs))(_:Q .non (upd H l (.lst xs.reverse)))
theorem Iw:MtM X "list.reverse" Dr:=by
 intro pins s σ H x vs v us Q I rx rv h;obtain⟨l,xs,rfl,rfl,hH,q⟩:=h;cases rx;have hus:=rv.zero;subst hus;obtain⟨z,its,n,r,hl,e⟩:=I.lstM hH;refine call_meets F.slot_list_reverse ⟨_,e,rfl⟩ F.entry_list_reverse (F.args_list_reverse_1 _) (AutoSeq1.list_reverse_list_0 l its.toArray n (by rw[zq6];omega)) ⟨e,?_⟩;refine⟨.non,_,I.lset (its':=its.reverse) hH e (by simp) r.reverse ?_,rfl,q⟩;rw[List.length_reverse];omega
inductive zaq(x:V)(y:V)(H:Hp)(Q:VK):Prop where
 | mk(l)(b)(xs)(zs)(_:x=.ref l)(_:y=.ref b)(_:H l=some (.lst xs))(_:H b=some (.lst zs))(_:xs.length+zs.length<=sizeLine)(_:∀ p,H p=none->Q (.ref p) (upd H p (.lst (xs++zs))))
theorem Vm:OpR X (binaryOp .Add) zaq:=by
 intro pins s σ H x y v u Q I rx ry h;obtain⟨l,b,xs,zs,rfl,rfl,hH,hB,hz,q⟩:=h;cases rx;cases ry;obtain⟨z,its,n,r,hl,e⟩:=I.lstM hH;obtain⟨z2,its2,n2,r2,hl2,e2⟩:=I.lstM hB;refine PySem.P.add_list e e2 ?_ (by rw[zq6,zq6];omega);have ea:its.toArray++its2.toArray=(its++its2).toArray:=by simp
 rw[ea];exact⟨.ref _,_,I.lnew (t':=s.toks) (r.append r2) (by rw[zq4];omega),rfl,q _ I.fresh⟩
end
end L2
namespace Att
open PySem PySem.W PySem.Calls PyProof.Rows
theorem Pr{P:Params}{h:Heap}:∀ (ns:List Int) (vs:List Value),WellAll P h vs (ns.map WData.int)->IntsAre vs ns:=by
 intro ns
 induction ns with
 | nil =>
   intro vs w;rw[List.map_nil] at w;cases w;exact .nil
 | cons n ns ih =>
   intro vs w;rw[zq8] at w;cases w with
   | cons a b =>
     cases a;exact .cons _ _ (ih _ b)
theorem Fs{l:OpenLaw}{n:Nat}(hn:l.most=some n){P:Params}{h:Heap}{args:List WData}{vals:List Value}
  (hpre:l.row.toRowW.claim.pre args=true) (hwl:WellAll P h vals args) :
  ∃ a vs ns,vals=[Value.ref a]/\args=[WData.list (ns.map WData.int)]/\h.get? a=some { cls:=.type "list",data:=.seq vs.toArray }/\IntsAre vs ns/\ns.length<=n:=by
 have hsh:WShape.hasAll [] args [.list .int]=true:=(pre_splitW hpre).1;have hc:l.pre.holds [] { args:=args }=true:=(pre_splitW hpre).2;obtain⟨d,r,rfl,h1,h2⟩:=hasAllW_cons hsh;obtain rfl:=hasAllW_nil h2;obtain⟨xs,rfl,h3⟩:=hasW_list h1;obtain⟨ns,rfl⟩:=items_int h3;have hlen:ns.length<=n:=by
  unfold OpenLaw.pre at hc;have h4:(WTm.not (.lt (.lit (.int (n:Int))) (.len (.arg 0)))).holds [] { args:=[.list (ns.map .int)] }=true:=by
   have h4:=(holds_andW hc).1;rw[hn] at h4;exact h4
  have h5:=condW_of h4 (w_not (w_lt w_lit (w_len_list (w_arg rfl))));rw[zqx] at h5;refine Nat.le_of_not_lt fun q=>?_;have q':(n:Int)<((ns.length:Nat):Int):=by omega
  first
   | (rw[zq2 q'] at h5;exact absurd h5 ⋯)
   | (simp at h5;omega)
 cases hwl with
 | cons w1 w2 =>
   cases w2;cases w1 with
   | list ho hall=>exact⟨_,_,ns,rfl,rfl,ho,Pr ns _ hall,hlen⟩
theorem Ft(l:OpenLaw)(args:List WData):l.row.toRowW.claim.post args (.bool true) args=true :=
 postW_of (r:=l.row.toRowW) (X:=(true == true))
  (show WShape.has [] (.bool true) .bool=true by first|rfl|decide|simp[WShape.has,WShape.arms,WShape.armsAll])
  (show (WTm.eq .res (.lit (.bool true))).value [] { args:=args,res:=some (.bool true),after:=args }=some (.bool (true == true)) from w_eq_bool (w_res rfl) w_lit) rfl
theorem attach_call{l:OpenLaw}{n:Nat}{q:Program}{loose:List Str}{XP:(Str->Option Value)->Heap->Prop}{YP:World->Heap->Prop}{d:DefRec}
  (hn:l.most=some n) (hdf:d.params.defaults=[])
  (call:∀ (w:World) (s₀ s₁:Shared) (mg mb:Str->Option Value) (fa:Addr) (o:Obj) (pm cd doc:Value) (a:Addr) (vs:List Value) (ns:List Int),
   Ground q loose [] XP w s₀ mg mb s₁.heap->YP w s₁.heap ->
   s₁.heap.get? fa=some o->o.data=.func (docDef d.name d.params d.body d.scope pm cd doc)->s₁.heap.CodeRec cd d.name->mg d.name=some (.ref fa) ->
   s₁.heap.get? a=some { cls:=.type "list",data:=.seq vs.toArray }->IntsAre vs ns->ns.length<=n->s₁.gens=#[] ->
   codeAny (model l.prog w) callerA (.call (.ref fa) ⟨[.ref a],[]⟩) (fun r s'=>r=.ok (.ret (.bool true))/\OldK s₁.heap s'.heap/\s'.os=s₁.os/\AllBare s'.gens) s₁) :
  WalkO q loose XP YP l.row.toRowW d [] (fun f vs=>PySem.call f vs):=by
 intro w s₀ s₁ mg mb G Y fa o pm cd doc dV kV ho hd hcd hD hmg hg args vals as hpre hlay hrd hwl hlo;obtain rfl:dV=.none:=Dflts.none hD hdf;obtain rfl:kV=.none:=Dflts.noKw hD;obtain⟨a,vs,ns,rfl,rfl,hobj,hints,hlen⟩:=Fs hn hpre hwl;refine enter_call (codeAny_mono (call w s₀ s₁ mg mb fa o pm cd doc a vs ns G Y ho (fd_plain hd) hcd hmg hobj hints hlen hg) fun r s' hq=>?_);obtain⟨rfl,h2,h3,h4⟩:=hq;exact⟨.inl ⟨.bool true,.bool true,[],rfl,fun _=>rfl,.bool true,Ft l _,fun _=>⟨List.Pairwise.nil,fun _ hm=>(nomatch hm)⟩⟩,h2,h3,h4⟩
section
variable{prog:Program}{w:World}{A:Around}{E:Value->Shared->Prop}{s:Shared}{K:Frag}
noncomputable def noObjs(h:Heap):Heap:={ h with objs:=#[] }
theorem noObjs_get(h:Heap)(b:Addr):(noObjs h).get? b=none:=by
 cases e:(noObjs h).get? b with
 | none=>rfl
 | some o=>exact absurd (Heap.lt_size e) (zsl _)
end
end Att
namespace L2
open PySem PySem.Spec PyProof.Rows
theorem M3:∀ {vs:List Value} {ns:List Int},IntsAre vs ns->Vals (ns.map V.int) vs
 | _,_,.nil=>.nil
 | _,_,.cons n t h=>.cons ⟨t,rfl⟩ (M3 h)
noncomputable def zar(H:Hp):Prop:=∀ b,H b=none\/∃ o xs,H b=some (.frz o (.lst xs))
theorem Ds{P:Program}{w:World}{K:Frag}{mg mb:Str->Option Value}{CX:CXT}{k:Nat}{fa a:Addr}{fd:FuncData}{x:Str}{sp:Sp}{s₁:Shared}{vs:List Value}{ns:List Int}
  (KX:K.In s₁.heap) (hns:s₁.heap.Ns mainGlobals mg) (hb:s₁.heap.Ns builtinsNs mb) (hbb:∀ x:Str,x≠"__name__"->mb x=bootBuiltins x) (hlim:s₁.heap.NoLimit) (hg:s₁.gens=#[])
  (ha:s₁.heap.get? a=some { cls:=.type "list",data:=.seq vs.toArray }) (hi:IntsAre vs ns) (hl:ns.length<=sizeLine) (hr:X4 k callerA)
  (F:∀ base:Heap,K.In base->base.Ns mainGlobals mg->FnOk P w K mg base CX k fa fd [x] sp) (hbind:∀ (s:Shared) (u:Value),BindsTo s fd ⟨[u],[]⟩ [(x,u)])
  (hsp:∀ H:Hp,zar H->SqL K H a (ns.map V.int)->sp [.ref a] H (fun v _=>v=.bl true) fun _ _ _=>False)
  (hCX:∀ H e s',CX [] H s₁ (fun _ _ _=>False) e s'->False) :
  codeAny (model P w) callerA (.call (.ref fa) ⟨[.ref a],[]⟩) (fun r s'=>r=.ok (.ret (.bool true))/\OldK s₁.heap s'.heap/\s'.os=s₁.os/\AllBare s'.gens) s₁:=by
 have rv:=M3 hi;have lenV:=hi.length;have core:∀ H:Hp,zar H->SqL K H a (ns.map V.int)->HOk P w H s₁.heap->(∀ b,H b≠none->b=a)->(H a≠none->K.lookup a=none) ->
   codeAny (model P w) callerA (.call (.ref fa) ⟨[.ref a],[]⟩) (fun r s'=>r=.ok (.ret (.bool true))/\OldK s₁.heap s'.heap/\s'.os=s₁.os/\AllBare s'.gens) s₁:=by
  intro H hO hS hok hA hK;have base_of:∀ {b:Addr} {o:Obj},s₁.heap.get? b=some o->H b=none->(Ll s₁.heap H).get? b=some o:=fun e n=>Ex e n;have noA:∀ {b:Addr} {o:Obj} {es:Array DictEntry} {ep:Nat},s₁.heap.get? b=some o->o.data=.dict es ep->H b=none:=fun {b o es ep} e d=>by
   cases q:H b with
   | none=>rfl
   | some u =>
     have e':b=a:=hA b (by rw[q];simp);subst e';rw[ha] at e;cases e;have d':Data.seq vs.toArray _=Data.dict es ep:=d;cases d'
  have nsK:∀ {b:Addr} {m:Str->Option Value},s₁.heap.Ns b m->(Ll s₁.heap H).Ns b m:=fun {b m} ⟨o,es,ep,e,d,r⟩=>⟨o,es,ep,base_of e (noA e d),d,r⟩
  have hKb:K.In (Ll s₁.heap H):=fun b o e=>base_of (KX b o e) (by
   cases q:H b with
   | none=>rfl
   | some u =>
     have e':b=a:=hA b (by rw[q];simp);subst e';rw[hK (by rw[q];simp)] at e;cases e)
  have hM:Mod K mg (Ll s₁.heap H):=⟨hKb,nsK hns,⟨mb,nsK hb,hbb⟩,let ⟨mc,h1,h2⟩:=hlim;⟨mc,nsK h1,h2⟩⟩;have e0:Ik P w K mg (Ll s₁.heap H) callerA [] s₁ H:=⟨rfl,hM,fun b o e=>C8 e,Nat.le_of_eq (Fc _ _),trivial,fun b hb=>absurd (show b∈([]:List Addr) from hb) (by simp),hok,.of_eq hg⟩;refine codeAny_mono ((F _ hKb (nsK hns)).run callerA [] s₁ H ⟨[.ref a],[]⟩ [.ref a] [.ref a] _ _ hr e0 (hbind s₁ (.ref a)) (.cons rfl .nil) (hsp H hO hS)) fun r s' h=>?_;cases r with
  | error e=>exact(hCX H e s' h).elim
  | ok fl =>
    cases fl with
    | next=>exact False.elim h
    | brk=>exact False.elim h
    | cont=>exact False.elim h
    | ret u =>
      obtain⟨v,H',os,bare,un,hok',r',q⟩:=h;have q':v=.bl true:=q;subst q';obtain rfl:u=Value.bool true:=r';refine⟨rfl,OldK.of_keep fun b o e=>?_,os,bare⟩;cases q:H b with
      | none=>exact un.keep b o e q (by intro z;exact absurd (show b∈([]:List Addr) from z) (by simp)) (by simp)
      | some u =>
        rcases hO b with z|⟨ob,xs,z⟩
        ·rw[q] at z;cases z
        ·have z2:=un.frzs b ob _ z;obtain⟨e1,_⟩:=hok b _ z;obtain⟨e2,_⟩:=hok' b _ z2;rw[e] at e1;cases e1;exact e2
 cases hk:K.lookup a with
 | some o =>
   have e:=KX a o hk;rw[ha] at e;cases e;refine core (fun _=>none) (fun _=>.inl rfl) (.inr ⟨_,vs.toArray,_,hk,rfl,rfl,rfl,by rw[zq6,lenV];exact hl,by simpa using rv⟩) (fun b u z=>by have z':(none:Option HO)=some u:=z;cases z') (fun b z=>absurd rfl z) fun z=>absurd rfl z
 | none =>
   refine core (fun b=>if b=a then some (.frz { cls:=.type "list",data:=.seq vs.toArray } (.lst (ns.map V.int))) else none) (fun b=>?_) (.inl (.inr ⟨{ cls:=.type "list",data:=.seq vs.toArray },if_pos rfl⟩)) (fun b u z=>?_) (fun b z=>?_) fun _=>hk
   ·by_cases hb:b=a
    ·exact .inr ⟨_,_,if_pos hb⟩
    ·exact .inl (if_neg hb)
   ·by_cases hb:b=a
    ·have z':=(if_pos hb).symm.trans z;cases z';subst hb;exact⟨ha,by rw[zqx];exact hl,vs,_,rv,ha⟩
    ·have z':=(if_neg hb).symm.trans z;cases z'
   ·by_cases hb:b=a
    ·exact hb
    ·exact absurd (if_neg hb) z
theorem Bu{l:PySem.W.OpenLaw}{n k:Nat}{q:Program}{loose:List Str}{XP:(Str->Option Value)->Heap->Prop}{YP:World->Heap->Prop}{d:DefRec}{K:Params->Frag}{CX:World->CXT}{sp:World->Sp}{x:Str}
  (hn:l.most=some n) (hn2:n<=sizeLine) (hdf:d.params.defaults=[]) (hr:X4 k callerA)
  (hY:∀ (w:World) (h:Heap),YP w h->(K w.params).In h)
  (F:∀ (w:World) (mg:Str->Option Value) (fa:Addr) (h:Heap),(K w.params).In h->h.Ns mainGlobals mg->mg d.name=some (.ref fa) ->
   ∃ fd:FuncData,(∀ (s:Shared) (u:Value),BindsTo s fd ⟨[u],[]⟩ [(x,u)]) /\
     ∀ base:Heap,(K w.params).In base->base.Ns mainGlobals mg->FnOk l.prog w (K w.params) mg base (CX w) k fa fd [x] (sp w))
  (hsp:∀ (w:World) (H:Hp) (a:Addr) (ns:List Int),ns.length<=n->zar H->SqL (K w.params) H a (ns.map V.int)->sp w [.ref a] H (fun v _=>v=.bl true) fun _ _ _=>False)
  (hCX:∀ (w:World) (H:Hp) (s:Shared) (e:Value) (s':Shared),CX w [] H s (fun _ _ _=>False) e s'->False) :
  PySem.W.WalkO q loose XP YP l.row.toRowW d [] (fun f vs=>PySem.call f vs):=by
 refine Att.attach_call hn hdf fun w s₀ s₁ mg mb fa o pm cd doc a vs ns G Y ho hd hcd hmg hobj hints hlen hg=>?_;have KX:=hY w _ Y;obtain⟨fd,hb,hF⟩:=F w mg fa _ KX G.T.g hmg;exact Ds KX G.T.g G.T.b G.T.builtins G.T.nolimit hg hobj hints (zro hlen hn2) hr hF hb (fun H hO hS=>hsp w H a ns hlen hO hS) fun H e s'=>hCX w H s₁ e s'
noncomputable def Zy(s:Stmt)(j:Nat):Stmt:=match s with
 | .ClassDef _ _ _ body _ _ _ _ _ _ _=>body.getD j (.Pass ⟨0,0,0,0⟩)
 | _=>.Pass ⟨0,0,0,0⟩
noncomputable def Ug(s:Stmt):Arguments:=match s with
 | .FunctionDef _ a _ _ _ _ _ _ _ _=>a
 | _=>{ posonlyargs:=[],args:=[],vararg:=none,kwonlyargs:=[],kw_defaults:=[],kwarg:=none,defaults:=[] }
noncomputable def Vr(s:Stmt):List Stmt:=match s with
 | .FunctionDef _ _ b _ _ _ _ _ _ _=>b
 | _=>[]
noncomputable def Zj(s:Stmt):Scope:=match s with
 | .FunctionDef _ _ _ _ _ _ sc _ _ _=>sc
 | _=>{ kind:=.function,names:=[],isGenerator:=false,isCoroutine:=false }
noncomputable abbrev E0:XK:=fun _ _ _=>False
structure Fun(K:Frag)(x qual:Str)(st:Stmt)(f:Addr)(fd:FuncData):Prop where
 ex:∃ (oc:Value) (od:Option Addr) (kV doc pm:Value) (an:Option Addr) (cdv ct:Value) (osl:Array (Option Value)),
  fd=PySem.W.fnOf x qual (Ug st) (Vr st) (Zj st) .none kV doc pm an cdv ct/\K.lookup f=some ⟨oc,od,.func fd,osl⟩/\PySem.W.codeIn K cdv qual=true
 kp:PySem.W.keepIn K (.ref f)=true
section
variable{P:Program}{w:World}{K:Frag}{mg:Str->Option Value}{base:Heap}
theorem Fun.binds{x qual:Str}{st:Stmt}{f:Addr}{fd:FuncData}{ps:List Str}(F:Fun K x qual st f fd)
  (h:∀ (kV doc pm:Value) (an:Option Addr) (cdv ct:Value) (us:List Value),us.length=ps.length->bindArgs (PySem.W.fnOf x qual (Ug st) (Vr st) (Zj st) .none kV doc pm an cdv ct) ⟨us,[]⟩=pure (ps.zip us)):Ut K fd ps []:=by
 obtain⟨oc,od,kV,doc,pm,an,cdv,ct,osl,rfl,lk,hcd⟩:=F.ex;exact .all (h kV doc pm an cdv ct)
theorem Zo{x qual:Str}{st:Stmt}{f:Addr}{oc:Value}{od an:Option Addr}{osl:Array (Option Value)}{kV doc pm cdv ct:Value}(l:K.lookup f=some ⟨oc,od,.func (PySem.W.fnOf x qual (Ug st) (Vr st) (Zj st) .none kV doc pm an cdv ct),osl⟩)
  (c:PySem.W.codeIn K cdv qual=true) (k:PySem.W.keepIn K (.ref f)=true):Fun K x qual st f (PySem.W.fnOf x qual (Ug st) (Vr st) (Zj st) .none kV doc pm an cdv ct):=⟨⟨oc,od,kV,doc,pm,an,cdv,ct,osl,rfl,l,c⟩,k⟩
end
theorem Vp{A:Around}{k:Nat}(hr:X4 k A):A.units+1<cLine:=zr8 (Nat.add_le_add_left (by decide:1<=64) _) hr.units
theorem Ux{n:Nat}(h:n<=1000):n<sizeLine:=zr8 h ⋯
section
variable{X:Cx}
theorem pv(i:Nat){x:Str}{pos:Pos}(hN:X.N[i]?=some x:=by rfl)(hv:Vis X.env.scope x:=by first|exact Or.inl rfl|exact Or.inr (Or.inl rfl)|exact Or.inr (Or.inr rfl))(hd:(x == ("__debug__":Str))=false:=by decide)
  (hcd:(x == ("__classdict__":Str))=false:=by decide):PE X (.Name x pos) (tVar i):=Ax hN hv hd hcd
theorem Fu:Vo X (.builtin "len") (fun xs H Q=>∃ a kvs,xs=[V.ref a]/\H a=some (.dK kvs)/\Q (.int kvs.length) H):=by
 intro pins s σ H xs us Q I r h;obtain⟨a,kvs,rfl,ha,q⟩:=h;obtain⟨u,rfl,ru⟩:=S4 r;cases ru;exact zb3 I (.inl ha) fun t s' I'=>⟨.int kvs.length,H,I',⟨t,rfl⟩,q⟩
end
theorem iteF{A B:Prop}(h:B):if false=true then A else B:=by
 rw[if_neg zrb];exact h
theorem iteT{A B:Prop}(h:A):if true=true then A else B:=by
 rw[if_pos rfl];exact h
theorem K2{c A B:Prop}[Decidable c](h1:c->A)(h2:¬ c->B):if c then A else B:=by
 by_cases h:c
 ·rw[if_pos h];exact h1 h
 ·rw[if_neg h];exact h2 h
noncomputable def Same(H H':Hp):Prop:=∀ b o,H b=some o->H' b=some o
theorem Same.refl(H:Hp):Same H H:=fun _ _ h=>h
theorem Same.trans{H H1 H2:Hp}(a:Same H H1)(b:Same H1 H2):Same H H2:=fun c o h=>b c o (a c o h)
theorem Same.free{H H':Hp}(e:Same H H'){l:Addr}(h:H' l=Option.none):H l=Option.none:=by
 cases q:H l with
 | none=>rfl
 | some o =>
   rw[e l o q] at h;cases h
theorem Same.seq{K:Frag}{H H':Hp}{a:Addr}{xs:List V}(e:Same H H')(h:SqL K H a xs):SqL K H' a xs:=by
 rcases h with (h|⟨o,h⟩)|h
 ·exact .inl (.inl (e _ _ h))
 ·exact .inl (.inr ⟨o,e _ _ h⟩)
 ·exact .inr h
section
variable{κ:Type}[DecidableEq κ]
theorem Lu:∀ {l:List κ} {k:κ},l.Nodup->¬ k∈l->(l++[k]).Nodup
 | [],k,_,_=>by simp
 | a :: r,k,h,hk=>by
   obtain⟨h1,h2⟩:=zrl.mp h;show (a :: (r++[k])).Nodup;refine zrl.mpr ⟨fun m=>?_,Lu h2 fun m=>hk (zq0.mpr (Or.inr m))⟩;rcases zrd.mp m with q|q
   ·exact h1 q
   ·exact hk (zq0.mpr (Or.inl (zq3.mp q).symm))
theorem Fv{p:κ×V}{r:List (κ×V)}{k:κ}(e:p.1=k):Xc (p :: r) k=Xc r k:=by
 unfold Xc;rw[zr2,if_neg (by simp[e])]
theorem Fw{p:κ×V}{r:List (κ×V)}{k:κ}(e:¬ p.1=k):Xc (p :: r) k=p :: Xc r k:=by
 unfold Xc;rw[zr2,if_pos (by simp[e])]
end
section
variable{X:Cx}{pins:List (Addr×Obj)}{σ:List (Option V)}{H H':Hp}{s:Shared}{h':Heap}
theorem Inv.stepN{g':Array GenState}{t':Nat}{d':Drawn}{ch:List Addr}(I:Inv X pins σ H s)
  (hch:∀ b∈ch,(b∈X.ex\/X.s₀.heap.get? b=none)/\b≠X.env.locals/\(∀ x c,X.env.cells.lookup x=some c->c≠b)/\∀ p∈X.pn++pins,p.1≠b)
  (keep:∀ b o,b≠X.env.locals->b∉X.fs->b∉ch->s.heap.get? b=some o->H b=none->h'.get? b=some o)
  (slot:∀ b o,b≠X.env.locals->b∈X.fs->b∉ch->s.heap.get? b=some o->H b=none->∃ sl,h'.get? b=some { o with slots:=sl }) (free:∀ b o,b∉ch->s.heap.get? b=some o->H b=none->H' b=none)
  (there:∀ b o,b∉ch->s.heap.get? b=some o->∃ o',h'.get? b=some o')
  (tups:∀ b xs,H b=some (.tup xs)->H' b=some (.tup xs)) (frzs:∀ b o u,H b=some (.frz o u)->H' b=some (.frz o u)) (tbls:∀ b ps,H b=some (.tbl ps)->∃ more,H' b=some (.tbl (ps++more)))
  (ns:∀ m,s.heap.Ns X.env.locals m->h'.Ns X.env.locals m) (hok:HOk X.prog X.w H' h') (hg:AllBare g') :
  Inv X pins σ H' { s with heap:=h',gens:=g',drawn:=d',toks:=t' }:=by
 have neL:∀ b o,X.s₀.heap.get? b=some o->b≠X.env.locals:=fun b o e=>zrk (zra (Heap.lt_size e) I.ok.above);have neC:∀ b o,X.s₀.heap.get? b=some o->b∉X.ex->b∉ch:=fun b o e hx hb=>by
  rcases(hch b hb).1 with z|z
  ·exact hx z
  ·rw[z] at e;cases e
 have cellK:∀ x c,X.env.cells.lookup x=some c->∀ v,s.heap.IsCell c v->h'.IsCell c v:=fun x c e v ⟨o,ho,hd⟩=>by
  have nch:c∉ch:=fun z=>(hch c z).2.2.1 x c e rfl;by_cases hc:c∈X.fs
  ·obtain⟨sl,q⟩:=slot c o (I.cne x c e) hc nch ho (I.freeC x c e);exact⟨_,q,hd⟩
  ·exact⟨o,keep c o (I.cne x c e) hc nch ho (I.freeC x c e),hd⟩
 refine⟨I.ok,I.os,hg,⟨fun b o e n hb hx=>?_,fun b o e n hb hx=>?_,fun b o e n hx=>?_,fun b o e hx=>?_,fun b xs e=>tups b xs (I.base.tups b xs e),fun b o xs e=>frzs b o xs (I.base.frzs b o xs e),fun b ps e=>?_⟩,?_,fun x c e=>?_,?_,fun x c e=>?_,fun p hp=>?_,hok,I.len⟩
 ·exact keep b o (neL b o e) hb (neC b o e hx) (I.base.keep b o e n hb hx) (I.base.free b o e n hx)
 ·obtain⟨sl,e1⟩:=I.base.slot b o e n hb hx;obtain⟨sl',e2⟩:=slot b _ (neL b o e) hb (neC b o e hx) e1 (I.base.free b o e n hx);exact⟨sl',e2⟩
 ·obtain⟨o',e1⟩:=I.base.there b o e hx;exact free b o' (neC b o e hx) e1 (I.base.free b o e n hx)
 ·obtain⟨o',e1⟩:=I.base.there b o e hx;exact there b o' (neC b o e hx) e1
 ·obtain⟨m1,e1⟩:=I.base.tbls b ps e;obtain⟨m2,e2⟩:=tbls b _ e1;exact⟨m1++m2,by rw[e2,Array.append_assoc]⟩
 ·obtain⟨m,hn,hl⟩:=I.loc;refine⟨m,ns m hn,fun i x v e1 e2 e3=>?_⟩;obtain⟨u,r,l⟩:=hl i x v e1 e2 e3;refine⟨u,r,?_⟩;rcases l with l|⟨k,c,e,z⟩
  ·exact .inl l
  ·exact .inr ⟨k,c,e,cellK x c e _ z⟩
 ·obtain⟨v,z⟩:=I.cell x c e;exact⟨v,cellK x c e v z⟩
 ·obtain⟨m,⟨o,_,_,ho,_⟩,_⟩:=I.loc;exact free _ o (fun z=>(hch _ z).2.1 rfl) ho I.free
 ·obtain⟨v,o,ho,hd⟩:=I.cell x c e;exact free c o (fun z=>(hch c z).2.2.1 x c e rfl) ho (I.freeC x c e)
 ·obtain⟨e,n,ne,nf,d⟩:=I.pin p hp;have nch:p.1∉ch:=fun z=>(hch p.1 z).2.2.2 p hp rfl;exact⟨keep p.1 p.2 ne nf nch e n,free p.1 p.2 nch e n,ne,nf,d⟩
theorem Inv.callN{g':Array GenState}{t':Nat}{d':Drawn}{ch:List Addr}(I:Inv X pins σ H s)(u:Un (frs X.stack) ch H H' s.heap h')(hok:HOk X.prog X.w H' h')(hg:AllBare g')
  (hch:∀ b∈ch,(b∈X.ex\/X.s₀.heap.get? b=none)/\b≠X.env.locals/\(∀ x c,X.env.cells.lookup x=some c->c≠b)/\∀ p∈X.pn++pins,p.1≠b) :
  Inv X pins σ H' { s with heap:=h',gens:=g',drawn:=d',toks:=t' }:=by
 obtain⟨m,⟨o,es,ep,ho,r⟩,_⟩:=id I.loc;obtain⟨sl,hL⟩:=u.any ho I.free fun z=>(hch _ z).2.1 rfl;exact I.stepN (ch:=ch) hch (fun b o hL hb hc e n=>u.keep b o e n (fun z=>(zq0.mp (I.stkSub b z)).elim hL hb) hc) (fun b o _ _ hc e n=>u.any e n hc) (fun b o hc e n=>u.free b o e n hc) (fun b o hc e=>u.there b o e hc) u.tups u.frzs u.tbls (fun m' hm=>by
  obtain⟨o',es',ep',ho',r'⟩:=hm;rw[ho] at ho';cases ho';exact⟨_,es',ep',hL,r'⟩) hok hg
theorem Inv.callN'{s':Shared}{ch:List Addr}(I:Inv X pins σ H s)(ho:s'.os=s.os)(u:Un (frs X.stack) ch H H' s.heap s'.heap)(hok:HOk X.prog X.w H' s'.heap)(hg:AllBare s'.gens)
  (hch:∀ b∈ch,(b∈X.ex\/X.s₀.heap.get? b=none)/\b≠X.env.locals/\(∀ x c,X.env.cells.lookup x=some c->c≠b)/\∀ p∈X.pn++pins,p.1≠b):Inv X pins σ H' s':=by
 obtain⟨h',g',d',t',o'⟩:=s';have e:o'=s.os:=ho;subst e;exact I.callN (g':=g') (t':=t') (d':=d') u hok hg hch
end
section
variable{P:Program}{w:World}{H H':Hp}{h h' g:Heap}{a:Addr}{o:HO}
theorem Yh.there(x:Yh P w H h a o):∃ ob,h.get? a=some ob:=by
 cases o with
 | lst xs=>obtain⟨_,_,_,_,e⟩:=x;exact⟨_,e⟩
 | tup xs=>obtain⟨_,_,_,ob,e,_⟩:=x;exact⟨_,e⟩
 | dK kvs=>obtain⟨_,_,_,_,o,_,_,e,_⟩:=x;exact⟨_,e⟩
 | dT kvs=>obtain⟨_,_,_,_,o,_,_,e,_⟩:=x;exact⟨_,e⟩
 | set S n=>obtain⟨o,_,_,_,e,_⟩:=x;exact⟨_,e⟩
 | ins C dx fs=>obtain⟨_,_,_,e,_⟩:=x;exact⟨_,e⟩
 | own y=>obtain⟨_,e⟩:=x;exact⟨_,e⟩
 | xd fs=>obtain⟨_,⟨_,_,_,e,_⟩,_⟩:=x;exact⟨_,e⟩
 | rng lo hi=>obtain⟨_,_,_,e⟩:=x;exact⟨_,e⟩
 | frz ob u=>obtain⟨e,_⟩:=x;exact⟨_,e⟩
 | tbl ps=>exact⟨_,(show h.get? a=some _ from x)⟩
 | met f y=>exact⟨_,(show h.get? a=some _ from x)⟩
 | ext φ=>obtain⟨_,⟨_,e⟩,_⟩:=x;exact⟨_,e⟩
theorem HOk.none_of(x:HOk P w H h)(e:h.get? a=none):H a=none:=by
 cases q:H a with
 | none=>rfl
 | some u =>
   obtain⟨_,z⟩:=(x a u q).there;rw[e] at z;cases z
theorem K3{as:List Addr}(e:(PySem.W.hideAll h as).get? a=none):h.get? a=none\/a∈as:=by
 by_cases m:a∈as
 ·exact .inr m
 ·cases q:h.get? a with
  | none=>exact .inl rfl
  | some o=>rw[PySem.W.hideAll_get as q m] at e;cases e
end
structure Fly(g:Heap)(H:Hp)(h:Heap)(e T:Addr)(cls:Value):Prop where
 ex:∃ oe vs oT ts,h.get? e=some oe/\oe.cls=cls/\oe.data=.fields vs/\vs[1]?=some (.ref T)/\T≠e/\h.get? T=some oT/\oT.data=.fields ts/\ts[3]?=some .none
 newE:g.get? e=none
 newT:g.get? T=none
 freeE:H e=none
 freeT:H T=none
noncomputable def CX1(P:Program)(w:World):CXT:=fun outer H s E e s'=>∃ a T cls H',e=.ref a/\s'.os=s.os/\AllBare s'.gens/\Un (frs outer) [] H H' s.heap s'.heap/\HOk P w H' s'.heap/\Fly s.heap H' s'.heap a T cls/\E cls none H'
section
variable{X:Cx}{pins:List (Addr×Obj)}{σ:St}{H H':Hp}{s s':Shared}{h':Heap}{e T:Addr}{cls:Value}
structure V8(X:Cx)(ch:List Addr)(h h':Heap):Prop where
 keep:∀ b o,h.get? b=some o->b∉ch->b∉frs X.stack->h'.get? b=some o
 slot:∀ b o,h.get? b=some o->b∉ch->b∈frs X.stack->∃ sl,h'.get? b=some { o with slots:=sl }
theorem V8.of{as:List Addr}(I:Inv X pins σ H s)(st:(PySem.W.hideAll s.heap (as++frs X.stack)).StaysIn h')(up:s.heap.UpToSlots h'):V8 X as s.heap h' where
 keep:=fun b o q n1 n2=>st b o (PySem.W.hideAll_get _ q (by simp[n1,n2]))
 slot:=fun b o q _ m=>by
  obtain⟨_,o',ho,nf⟩:=I.stack.mem m;rw[q] at ho;cases ho;exact up b o q nf
theorem V8.un{ch:List Addr}(I:Inv X pins σ H s)(t:V8 X ch s.heap h')(hch:∀ b∈ch,H b=none):Un (frs X.stack) ch H H s.heap h' where
 keep:=fun b o q n hf hc=>t.keep b o q hc hf
 slot:=fun b o q n hf hc=>t.slot b o q hc hf
 free:=fun _ _ _ n _=>n
 there:=fun b o q hc=>by
  by_cases m:b∈frs X.stack
  ·obtain⟨_,z⟩:=t.slot b o q hc m;exact⟨_,z⟩
  ·exact⟨o,t.keep b o q hc m⟩
 tups:=fun _ _ q=>q
 frzs:=fun _ _ _ q=>q
 tbls:=fun b ps q=>⟨#[],by rw[q];simp⟩
theorem V8.hok{ch:List Addr}(I:Inv X pins σ H s)(t:V8 X ch s.heap h')(hch:∀ b∈ch,H b=none):HOk X.prog X.w H h':=fun b u q=>by
 have tr:∀ c v,H c=some v->c∉ch/\c∉frs X.stack:=fun c v z=>⟨(fun m=>by rw[hch c m] at z;cases z),(fun m=>by rw[I.stkFree c m] at z;cases z)⟩
 refine(I.hok b u q).stay (fun c v hc r=>?_) (fun _ z=>z) fun _ _ z=>z;rcases hc with z|z
 ·subst z;exact t.keep c v r (tr c u q).1 (tr c u q).2
 ·exact t.keep c v r (tr c _ z).1 (tr c _ z).2
theorem Inv.newRec(I:Inv X pins σ H s){b:Addr}(hx:X.ex=[])(n:s.heap.get? b=none):(b∈X.ex\/X.s₀.heap.get? b=none)/\b≠X.env.locals/\(∀ x c,X.env.cells.lookup x=some c->c≠b)/\∀ p∈X.pn++pins,p.1≠b:=by
 refine⟨.inr ?_,?_,?_,?_⟩
 ·cases q:X.s₀.heap.get? b with
  | none=>rfl
  | some o =>
    obtain⟨_,z⟩:=I.base.there b o q (by rw[hx];simp);rw[n] at z;cases z
 ·rintro rfl;obtain⟨m,⟨o,_,_,ho,_⟩,_⟩:=I.loc;rw[n] at ho;cases ho
 ·rintro x c hc rfl;obtain⟨v,o,ho,_⟩:=I.cell x c hc;rw[n] at ho;cases ho
 ·rintro p hp rfl;obtain⟨z,_⟩:=I.pin p hp;rw[n] at z;cases z
theorem Inv.raised(I:Inv X pins σ H s)(ho:s'.os=s.os)(hg:AllBare s'.gens)(u:Un (frs X.stack) [] H H' s.heap s'.heap)(hok:HOk X.prog X.w H' s'.heap):Inv X pins σ H' s' :=
 I.call' ho u hok hg (fun _ z=>nomatch z)
theorem Fly.flying{g:Heap}{l:List Env}(J:Inv X pins σ H s)(hl:s.heap.FunFrames X.base l)(hsub:∀ b∈frs l,b∈frs X.stack)(F:Fly g H s.heap e T cls) :
  ∃ a0,Heap.FlyingW (PySem.W.hideAll s.heap ([e,T]++frs X.stack)) l e cls a0 s.heap:=by
 obtain⟨oe,vs,oT,ts,e1,e2,e3,e4,e5,e6,e7,e8⟩:=F.ex;have sz:0<vs.size:=zr8 (zrj _) (Array.getElem?_eq_some_iff.mp e4).1;refine⟨vs[0],fun b o q=>PySem.W.of_hideAll _ q,PySem.W.hideAll_none _ (by simp),PySem.W.funFrames_hide hl fun env he a ha=>?_,oe,vs,T,oT,ts,e1,⟨e2,?_⟩,e3,e4,PySem.W.hideAll_none _ (by simp),e5,e6,e7,e8⟩
 ·have:a∈frs l:=zsj.mpr ⟨env,he,ha⟩;simp[hsub a this]
 ·exact Array.getElem?_eq_getElem sz
theorem Fly.again{g:Heap}{a0:Value}(J:Inv X pins σ H s)(F:Fly g H s.heap e T cls)(hg:∀ b,s.heap.get? b=none->g.get? b=none)
  (up:s.heap.UpToSlots h') (st:(PySem.W.hideAll s.heap ([e,T]++frs X.stack)).StaysIn h') (tr:h'.TracedW (PySem.W.hideAll s.heap ([e,T]++frs X.stack)) e cls a0):∃ T',Fly g H h' e T' cls:=by
 obtain⟨oe,vs,T',oT,ts,f1,⟨f2,_⟩,f3,f4,f5,f6,f7,f8,f9⟩:=tr;refine⟨T',⟨oe,vs,oT,ts,f1,f2,f3,f4,f6,f7,f8,f9⟩,F.newE,?_,F.freeE,?_⟩
 all_goals
  rcases K3 f5 with z|z
  ·first
    | exact hg _ z
    | exact J.hok.none_of z
  ·simp only[zrd,zq0,zru,or_false] at z;rcases z with (z|z)|z
   ·exact absurd z f6
   ·subst z
    first
     | exact F.newT
     | exact F.freeT
   ·obtain⟨_,o,ho,nf⟩:=J.stack.mem z;obtain⟨sl,q⟩:=up T' o ho nf;rw[f7] at q;cases q;exact absurd f8 (nf _)
end
section
variable{P:Program}{w:World}{K:Frag}{mg:Str->Option Value}{base:Heap}{N:List Str}{qual:Str}{scope:Scope}{f:Addr}{cd:Value}{A:Around}{outer:List Env}{s0:Shared}{H0:Hp}{E:XK}
 {pins:List (Addr×Obj)} {σ:St} {H H':Hp} {s s':Shared} {h':Heap} {e T:Addr} {cls:Value}
theorem K4{X:Cx}{ch:List Addr}(hx:X.ex=[])(J:Inv X pins σ H s)(hst:X.stack=X.env :: X.outer)(hf:X.env.frame=some X.env.locals)(t:V8 X ch s.heap h')(hch:∀ b∈ch,X.s₀.heap.get? b=none) :
  Un X.fs [] X.H₀ H X.s₀.heap h':=by
 have nb:∀ b o,X.s₀.heap.get? b=some o->b∉ch:=fun b o q m=>by rw[hch b m] at q;cases q
 have mem:∀ b,b∈frs X.stack↔b=X.env.locals\/b∈X.fs:=fun b=>by
  unfold Cx.fs frs;rw[hst,zsi,hf];exact zq0
 have neL:∀ b o,X.s₀.heap.get? b=some o->b≠X.env.locals:=fun b o q=>zrk (zra (Heap.lt_size q) J.ok.above);have nx:∀ b:Addr,b∉X.ex:=fun b=>by rw[hx];simp
 refine⟨fun b o q n hb _=>?_,fun b o q n hb _=>?_,fun b o q n _=>J.base.free b o q n (nx b),fun b o q _=>?_,J.base.tups,J.base.frzs,J.base.tbls⟩
 ·refine t.keep b o (J.base.keep b o q n hb (nx b)) (nb b o q) fun m=>?_;exact((mem b).mp m).elim (neL b o q) hb
 ·obtain⟨sl,z⟩:=J.base.slot b o q n hb (nx b);obtain⟨sl',z'⟩:=t.slot b _ z (nb b o q) ((mem b).mpr (.inr hb));exact⟨sl',z'⟩
 ·obtain⟨o',z⟩:=J.base.there b o q (nx b);by_cases m:b∈frs X.stack
  ·obtain⟨_,z'⟩:=t.slot b o' z (nb b o q) m;exact⟨_,z'⟩
  ·exact⟨o',t.keep b o' z (nb b o q) m⟩
theorem Zk:X2 (CX1 P w) (cxOf (CX1 P w) P w K mg base N qual scope f cd A outer s0 H0 E) E:=by
 intro pins σ H s ev s' I h;obtain⟨a,T,cls,H',q0,ho,hg,u,hok,F,hE⟩:=h;subst q0;have J:=I.raised ho hg u hok;obtain⟨a0,hfl⟩:=F.flying J J.stack (fun _ z=>z);refine wpAny_leaves_onW (base:=PySem.W.hideAll s'.heap ([a,T]++frs _)) J.ok.frames rfl hfl fun h2 hfl2 up=>?_;have old:∀ b,s.heap.get? b=none->s0.heap.get? b=none:=fun b n=>by
  cases q:s0.heap.get? b with
  | none=>rfl
  | some o =>
    obtain⟨_,z⟩:=I.base.there b o q (by show b∉([]:List Addr);simp);rw[n] at z;cases z
 have old2:∀ b,s'.heap.get? b=none->s0.heap.get? b=none:=fun b n=>by
  cases q:s0.heap.get? b with
  | none=>rfl
  | some o =>
    obtain⟨_,z⟩:=J.base.there b o q (by show b∉([]:List Addr);simp);rw[n] at z;cases z
 have t:=V8.of (as:=[a,T]) J hfl2.1 up;have F0:Fly s0.heap H' s'.heap a T cls:=⟨F.ex,old _ F.newE,old _ F.newT,F.freeE,F.freeT⟩;obtain⟨T',F'⟩:=F0.again J old2 up hfl2.1 hfl2.2.2.2;refine⟨a,T',cls,H',rfl,J.os,J.bare,K4 rfl J rfl rfl t ?_,t.hok J ?_,F',hE⟩
 ·intro b hb;rcases zq0.mp hb with rfl|hb
  ·exact F0.newE
  ·rcases zq0.mp hb with rfl|hb
   ·exact F0.newT
   ·cases hb
 ·intro b hb;rcases zq0.mp hb with rfl|hb
  ·exact F.freeE
  ·rcases zq0.mp hb with rfl|hb
   ·exact F.freeT
   ·cases hb
noncomputable def Ak(X:Cx)(E:XK):Prop:=∀ (pins:List (Addr×Obj)) (σ:St) (H:Hp) (s:Shared) (h':Heap) (e C:Addr) (args:List Value),Inv X pins σ H s->Heap.MadeExcOf s.heap h' e (.ref C) args->E (.ref C) none H->X.xe (.ref e) { s with heap:=h' }
theorem Yu:Ak (cxOf (CX1 P w) P w K mg base N qual scope f cd A outer s0 H0 E) E:=by
 intro pins σ H s h1 e C args I hm hE;refine wpAny_leaves_madeW (base:=PySem.W.hideAll s.heap ([]++frs _)) (h:=s.heap) I.ok.frames rfl (fun b o q=>PySem.W.of_hideAll _ q)
  (PySem.W.funFrames_hide I.stack fun env he a ha=>by
   have:a∈frs _:=zsj.mpr ⟨env,he,ha⟩
   simpa using this) hm fun h2 t hfl _ _ up=>?_
 have up2:s.heap.UpToSlots h2:=(Heap.UpToSlots.of_keeps hm.keeps).trans up;have tt:=V8.of (as:=[]) I hfl.1 up2;have old2:∀ b,s.heap.get? b=none->s0.heap.get? b=none:=fun b n=>by
  cases q:s0.heap.get? b with
  | none=>rfl
  | some o =>
    obtain⟨_,z⟩:=I.base.there b o q (by show b∉([]:List Addr);simp);rw[n] at z;cases z
 obtain⟨oe,vs,T',oT,ts,f1,⟨f2,_⟩,f3,f4,f5,f6,f7,f8,f9⟩:=hfl.2.2.2;have nT:s.heap.get? T'=none:=by
  rcases K3 f5 with z|z
  ·exact z
  ·have z':T'∈frs (cxOf (CX1 P w) P w K mg base N qual scope f cd A outer s0 H0 E).stack:=(zrd.mp z).resolve_left (by simp);obtain⟨_,o,ho,nf⟩:=I.stack.mem z';obtain⟨sl,q⟩:=up2 T' o ho nf;rw[f7] at q;cases q;exact absurd f8 (nf _)
 refine⟨e,T',.ref C,H,rfl,I.os,I.bare,K4 rfl I rfl rfl tt (fun _ z=>nomatch z),tt.hok I (fun _ z=>nomatch z),⟨⟨oe,vs,oT,ts,f1,f2,f3,f4,f6,f7,f8,f9⟩,old2 _ hm.new,old2 _ nT,I.hok.none_of hm.new,I.hok.none_of nT⟩,hE⟩
end
structure Tz(K:Frag)(mg:Str->Option Value)(x:Str)(C:Addr):Prop where
 nm:mg x=some (.ref C)
 ex:PySem.W.excIn K C [.type "ValueError",.type "Exception",.type "BaseException",.type "object"] "ValueError.__new__"=true
theorem Tz.own{K:Frag}{mg:Str->Option Value}{x:Str}{C:Addr}{h:Heap}(c:Tz K mg x C)(X:K.In h):OwnCls x C [.type "ValueError",.type "Exception",.type "BaseException",.type "object"] "ValueError.__new__" mg h:=by
 refine⟨c.nm,?_⟩;have q:=c.ex;unfold PySem.W.excIn at q;split at q
 ·rename_i dd cd sl ho;split at q
  ·rename_i C' bm k0 k1 k2 k3 n k5 hm hs;simp only[zsa,beq_iff_eq,Bool.not_eq_true'] at q;obtain⟨⟨⟨⟨⟨rfl,rfl⟩,hdel⟩,ht⟩,hok⟩,hni⟩:=q;obtain⟨nm,bs,mro,ns,qn,hd,sn,sub,ab,col,del⟩:=cd;dsimp only at hm hdel hok hni;subst hm hdel;have hsl:sl=#[k0,k1,k2,k3,some (.builtin "ValueError.__new__"),k5]:=by
    obtain⟨l⟩:=sl;simp only at hs;rw[hs]
   subst hsl;exact⟨bm,ns,nm,qn,bs,hd,sn,sub,ab,col,dd,k0,k1,k2,k3,k5,_,X _ _ ho,.of_isNs (PySem.W.isNs_of_in X hok),PySem.W.nsMap_none_of_in X hok hni,PySem.W.tail_of_in X ht⟩
  ·cases q
 ·cases q
inductive Bv(C:Addr)(E:XK)(vs:List V)(H1:Hp):Prop where
 | mk(_:vs.length<=sizeLine)(_:E (.ref C) none H1)
noncomputable def zas(C:Addr)(E:XK)(t:TA):TS:=fun _ σ H=>t σ H fun vs H1=>Bv C E vs H1
theorem Yv{X:Cx}{x:Str}{C:Addr}{E:XK}{e₀:Expr}{rest:List Expr}{t:TA}{np cpos pos:Pos}(hl:Ak X E)(hc:X.calm=true)(c:Tz X.K X.mg x C)(hg:Gl X x)(ha:PA X (e₀ :: rest) t)
  (he:starEach (e₀ :: rest) X.env=(false,eval e₀ X.env) :: starEach rest X.env:=by rfl) (hplain:(backTo cpos (starEach rest X.env)).any (·.1)=false:=by rfl) (hd:(x == ("__debug__":Str))=false:=by decide) :
  PS X (.Raise (some (.Call (.Name x np) (e₀ :: rest) [] cpos)) none pos) (zas C E t):=by
 intro pins s σ H D I h;have O:=c.own I.mod.kin;obtain⟨tl,N,nm,q,bs,hdct,sn,sub,ab,col,dd,k0,k1,k2,k3,k5,mN,hC,hN,hni,T⟩:=O.obj;refine wpAny_Raise_call_subT (C:=C) (nm:=nm) (q:=q) (N:=N) (bs:=bs) (bm:=tl) (hdct:=hdct) (sn:=sn) (sub:=sub) (ab:=ab) (col:=col) (dd:=dd) (k0:=k0) (k1:=k1) (k2:=k2) (k3:=k3) (k5:=k5)
  PySem.F.excBase_ValueError (mN:=mN) (T.hasType (by rfl)) (I.ok.hd hc) (by rw[he];show (false||(backTo cpos (starEach rest X.env)).any (·.1))=false;rw[hplain];rfl) hni (Sh I hg c.nm ⟨rfl,?_⟩ hd)
 have hp:=ha cpos pins s σ H _ I h;rw[he] at hp ⊢;refine Calls.evalArgs_plain (wpAny_mono hp (fun us s2 h2=>?_) fun _ _ y=>y);obtain⟨vs,H1,I1,r,hlen,hE⟩:=h2;exact⟨rfl,by rw[<- r.length];exact hlen,I1.bk _ _ hC,hN.keeps I1.bk,T.keeps I1.bk,fun h' e hm=>hl _ _ _ _ _ _ _ _ I1 hm hE⟩
structure Du(K:Frag)(CB:Addr):Prop where
 ty:PySem.W.typeIn K (.ref CB)=some (.type "type")
 cl:(PySem.W.clsIn K CB).isSome=true
 bx:PySem.W.mroIn K CB (.type "BaseException")=some true
theorem K5{K:Frag}{M:Model}{A:Around}{E:Value->Shared->Prop}{s:Shared}{e C CB:Addr}{b:Bool}{oe:Obj}{Q:Bool->Shared->Prop}(X:K.In s.heap)(c:Du K CB)
  (he:s.heap.get? e=some oe) (hcls:oe.cls=.ref C) (hm:PySem.W.mroIn K C (.ref CB)=some b) (h:Q b s):wpAny M A (excMatches (.ref e) (.ref CB)) Q E s:=by
 obtain⟨hp,g,d,tk,os⟩:=s;have L1:=PySem.W.looks_typeIn (M:=M) X c.ty;have L2:=PySem.W.looks_mroIn (M:=M) X c.bx;have L3:=PySem.W.looks_mroIn (M:=M) X hm;have L0:PySem.W.Looks M hp (typeOf (.ref e)) (.ref C):=hcls▸(PySem.W.Looks.ld he).andThen .now;have L4:PySem.W.Looks M hp (isType (.ref CB)) true:=by
  have z:=c.cl;unfold PySem.W.clsIn at z;split at z
  ·rename_i c' d' cd' sl' ho;intro A' Q' E' s' k q;unfold isType loadHead;exact wpAny_bind (wpAny_loadPart (k _ _ (X _ _ ho)) (wpAny_pure q))
  ·cases z
 unfold excMatches isInstance isExcClass;refine wpAny_bind (wpAny_bind (L1.at (wpAny_of_eq tc_notTuple ?_)));simp only[zr0,if_false,List.forIn_cons,List.forIn_nil];refine wpAny_bind (wpAny_pure (wpAny_bind ?_));simp only[List.forIn_cons,List.forIn_nil];refine wpAny_bind (wpAny_bind (wpAny_bind (L4.at ?_)));simp only[if_true];refine L2.at ?_;simp only[Bool.not_true,zr0,if_false];refine wpAny_pure (wpAny_pure (wpAny_bind (L0.at (wpAny_bind (wpAny_bind (wpAny_bind (L3.at ?_)))))));cases b with
 | true=>simp only[if_true];exact wpAny_pure (wpAny_pure (wpAny_pure h))
 | false=>simp only[zr0,if_false];exact wpAny_pure (wpAny_pure (wpAny_pure h))
end L2
namespace L2
open PySem PySem.Spec PyProof.Rows PySem.W PySem.Calls PySem.Builtin PySem.Builtin.ObjectAttr PySem.Builtin.Getset_descriptor
noncomputable def excO(a:Addr)(cls:Value):HO:=.ext fun h=>∃ o vs,h.get? a=some o/\o.cls=cls/\o.data=.fields vs
structure Lv(K:Frag)(D:Addr):Prop where
 ga:findIn K (.ref D) "__getattribute__"=some (some (.builtin "BaseException.__getattribute__"))
 gk:findIn K (.ref D) "__getattr__"=some none
 cl:(clsIn K D).isSome=true
 at_:findIn K (.ref D) "__class__"=some (some (.builtin "object.__class__"))
 gt:specialIn K (.builtin "object.__class__") "__get__"=some (some (.builtin "getset_descriptor.__get__"))
 tk:takesIn K (.builtin "object.__class__")=some true
 mo:mroIn K D (.type "object")=some true
 mx:mroIn K D (.type "BaseException")=some true
section
variable{prog:Program}{w:World}{A:Around}{E:Value->Shared->Prop}{s:Shared}{K:Frag}{x D:Addr}
theorem Dv{M:Model}{h:Heap}(X:K.In h)(c:Lv K D):Looks M h (find (.ref x) (.ref D) "__class__") (.bind (.builtin "getset_descriptor.__get__") (.builtin "object.__class__")):=by
 have L1:=looks_findIn (M:=M) X c.at_;have L2:Looks M h (getOf (some (.builtin "object.__class__"))) (some (.builtin "getset_descriptor.__get__")):=looks_specialIn X c.gt;have L3:=looks_takesIn (M:=M) X c.tk;exact L1.andThen (L2.andThen ((show Looks M h (dataDescriptor? (some (.builtin "object.__class__")) (some (.builtin "getset_descriptor.__get__"))) (some (.builtin "getset_descriptor.__get__",.builtin "object.__class__")) from L3.andThen .now).andThen (Looks.tag .now)))
theorem Iy{o:Obj}{R:Result->Shared->Prop}(X:K.In s.heap)(hx:s.heap.get? x=some o)(hc:o.cls=.ref D)(c:Lv K D)(q:R (.ok (.ret (.ref D))) s) :
  codeAny (model prog w) A (.call (.builtin "getset_descriptor.__get__") ⟨[.builtin "object.__class__",.ref x,.ref D],[]⟩) R s:=by
 obtain⟨hh,g,d,t,os⟩:=s;have L0:Looks (model prog w) hh (typeOf (.ref x)) (.ref D):=hc▸(Looks.ld hx).andThen .now;have Lm:=looks_mroIn (M:=model prog w) X c.mo;refine codeAny_call_builtin KF.slot_gs.plain KF.entry_gs (KF.slot_gs.check _ _ _ _ _ _ _ _ KF.type_class (KF.args_gs _ _ _) ?_);unfold Builtin.«getset_descriptor.__get__» descrGet;rw[dga_obj];refine wpAny_bind (wpAny_pure ?_);unfold descrGetter descrCheckInstance descrNameAndClass isInstance;simp only[KF.owner_class]
 repeat lk
 refine⟨Code.quiet_builtin _ ⋯,codeAny_builtin KF.entry_class ?_⟩;unfold Builtin.«object.__class__» shownTypeOf
 repeat lk
 exact q
theorem zat{o:Obj}{tk:Tok}{Q:Fin->Shared->Prop}(X:K.In s.heap)(hx:s.heap.get? x=some o)(hc:o.cls=.ref D)(c:Lv K D)(q:Q (.done (.ret (.ref D))) s) :
  wpAny (model prog w) A (Builtin.«object.__getattribute__» ⟨[.ref x,.str "__class__" tk],[]⟩) Q E s:=by
 have L0:Looks (model prog w) s.heap (typeOf (.ref x)) (.ref D):=hc▸(Looks.ld hx).andThen .now;have Lf:=Dv (x:=x) (M:=model prog w) X c;have e1:slotArgs "__getattribute__" 1 ⟨[.ref x,.str "__class__" tk],[]⟩=pure (.ref x,[.str "__class__" tk]):=rfl;unfold Builtin.«object.__getattribute__»;rw[e1];refine wpAny_bind (wpAny_pure ?_);refine wpAny_bind (show wpAny _ _ (attrName (.str "__class__" tk)) _ _ _ from wpAny_pure ?_);obtain⟨hh,g,d,t,os⟩:=s;refine wpAny_bind (L0.at (wpAny_bind (Lf.at ?_)));show wpAny _ _ (bindTo _ _ _ _) _ _ _;unfold bindTo;dsimp only;refine wpAny_bind (wpAny_holding (wpAny_call (Iy X hx hc c ?_)));exact wpAny_pure q
theorem N8{o:Obj}{Q:Option Value->Shared->Prop}(X:K.In s.heap)(hx:s.heap.get? x=some o)(hc:o.cls=.ref D)(c:Lv K D)(q:Q (some (.ref D)) { s with toks:=s.toks+1 }) :
  wpAny (model prog w) A (getAttr? (.ref x) "__class__") Q E s:=by
 obtain⟨hh,g,d,t,os⟩:=s;have L0:Looks (model prog w) hh (typeOf (.ref x)) (.ref D):=hc▸(Looks.ld hx).andThen .now;have La:=looks_findIn (M:=model prog w) X c.ga;have Lk:=looks_findIn (M:=model prog w) X c.gk;have Lx:=looks_mroIn (M:=model prog w) X c.mx;have hb:=PySem.F.attr_ValueError.ga.bind (.ref x);have hne0:(Value.builtin "BaseException.__getattribute__" == Value.builtin "object.__getattribute__")=false:=by decide +kernel
 have hne:(onTheHeap (Value.ref D)&&Value.builtin "BaseException.__getattribute__" == Value.builtin "object.__getattribute__")=false:=by rw[hne0];rfl
 unfold getAttr? getAttrBy? getAttrBy;refine wpAny_bind (wpAny_mkText (wpAny_bind (wpAny_attempt (wpAny_holding (wpAny_bind (L0.at (wpAny_bind (La.at ?_))))))));dsimp only;rw[if_neg (by rw[hne];decide)];unfold getAttrByItsOwn;refine wpAny_bind (show wpAny _ _ (typeLookup (.ref D) "__getattr__") _ _ _ from Lk.at ?_);refine wpAny_bind (wpAny_attempt (wpAny_holding ?_));show wpAny _ _ (boundAndCalled _ _ _) _ _ _;unfold boundAndCalled;rw[hb];refine wpAny_bind (wpAny_pure (wpAny_call ?_));refine codeAny_call_builtin PySem.F.attr_ValueError.ga.plain PySem.F.entry_bexc_ga ?_;have hk:builtinKind "BaseException.__getattribute__"=some .slot:=by decide +kernel
 have hsplit:splitId "BaseException.__getattribute__"=some ("BaseException","__getattribute__"):=by decide +kernel
 have ha:=PySem.F.args_bexc_ga (.ref x) (.str "__class__" t);simp only[checkBuiltinCall,hk,hsplit,List.cons_append,List.nil_append];unfold isInstance
 repeat (first|with_reducible refine zat X hx hc c ?_|lk)
 exact q
theorem Dw(c:Lv K D):KitX K (.ref x) (.ref D) (fun h=>∃ o,h.get? x=some o/\o.cls=.ref D) where
 ty:=fun M h _ p=>by obtain⟨o,hx,hc⟩:=p;exact hc▸(Looks.ld hx).andThen .now
 it:=fun _ _ X _=>by
  have z:=c.cl;unfold clsIn at z;split at z
  ·rename_i ho;intro A' Q' E' s' k q;unfold isType loadHead;exact wpAny_bind (wpAny_loadPart (k _ _ (X _ _ ho)) (wpAny_pure q))
  ·cases z
 ne:=fun h tp dd its n sl X htp=>by
  refine Bool.eq_false_iff.mpr fun q=>?_;have e:D=tp:=Value.ref.inj (beq_iff_eq.mp q);subst e;have z:=c.cl;unfold clsIn at z;split at z
  ·rename_i ho;have z:=(X _ _ ho).symm.trans htp;cases z
  ·cases z
 ca:=fun X p q=>by obtain⟨o,hx,hc⟩:=p;exact N8 X hx hc c q
end
inductive TyX(K:Frag)(H:Hp)(x:V)(t:Value):Prop where
 | of (h:Qt K H x t):TyX K H x t
 | exc {a D:Addr} (ex:x=.ref a) (et:t=.ref D) (h:H a=some (excO a (.ref D))) (c:Lv K D):TyX K H x t
noncomputable def zca:V->Value
 | .ty n=>.type n
 | .ref a=>.ref a
 | _=>.none
inductive rIsI(K:Frag)(xs:List V)(H:Hp)(Q:VK):Prop where
 | mk(x)(c)(t)(b)(_:xs=[x,c])(_:TyX K H x t)(_:((∃ n,c=.ty n)\/∃ a,c=.ref a))(_:kitOne K t (zca c)=some b)(_:Q (.bl b) H)
theorem Dx{X:Cx}:Vo X (.builtin "isinstance") (rIsI X.K):=by
 intro pins s σ H xs us Q I r h;obtain⟨x,c,t,b,rfl,ty,hc,hk,q⟩:=h;obtain⟨u,w',rfl,r1,r2⟩:=Ae r;have e:w'=zca c:=by
  rcases hc with ⟨n,rfl⟩|⟨a,rfl⟩
  ·exact r2
  ·exact r2
 subst e;cases ty with
 | of ty=>exact Fl I r1 ty hk fun tk=>⟨.bl b,H,I.tok tk,rfl,q⟩
 | @exc a D ex et ha cl =>
   subst ex et;cases (show u=Value.ref a from r1);obtain⟨⟨o,vs,ho,hcl,_⟩,_⟩:=(show Yh X.prog X.w H s.heap a (excO a (.ref D)) from I.hok a _ ha);exact kia_one (Dw cl) I.kIn ⟨o,ho,hcl⟩ hk (fun z=>nomatch z) fun tk=>⟨.bl b,H,I.tok tk,rfl,q⟩
section
variable{X:Cx}{pins:List (Addr×Obj)}{σ:St}{H:Hp}{s:Shared}
theorem Sj{M:Model}{A:Around}{E:Value->Shared->Prop}{i:Nat}{x:Str}{pos:Pos}{Q:Unit->Shared->Prop}(I:Inv X pins σ H s)(hN:X.N.Nodup)(hi:X.N[i]?=some x)(hk:X.env.scope.names.lookup x=some .local)(hlk:∀ v,X.lk[i]?≠some (some v))
  (h:∀ s',Inv X pins (σ.set i none) H s'->Q () s'):wpAny M A (do bindName X.env x .none;unbindBehindTheSuite X.env x pos) Q E s:=by
 obtain⟨m,hn,hl⟩:=id I.loc;have hcls:(X.env.scope.kind == .class||(X.env.scope.kind == .module&&X.env.locals != X.env.globals))=false:=by rw[I.ok.kind];rfl
 have hiσ:i<σ.length:=by rw[I.len];exact(zqz.mp hi).1
 have cne:=I.cne;refine wpAny_nameGoes_keeps hk hn hcls fun h' v hn' hs=>?_;obtain⟨oL,_,_,hoL,_⟩:=id hn;have ne0:∀ b o,X.s₀.heap.get? b=some o->b≠X.env.locals:=fun b o q=>zrk (zra (Heap.lt_size q) I.ok.above);refine h _ ⟨I.ok,I.os,I.bare,⟨fun b o q n hb hx=>(hs.2 b (ne0 b o q)).trans (I.base.keep b o q n hb hx),fun b o q n hb hx=>?_,I.base.free,fun b o q hx=>?_,I.base.tups,I.base.frzs,I.base.tbls⟩,
  ⟨_,hn',fun j y v' e1 e2 e3=>?_⟩,fun y c e=>?_,I.free,I.freeC,fun p hp=>?_,fun b ob e=>?_,by simpa using I.len⟩
 ·obtain⟨sl,e1⟩:=I.base.slot b o q n hb hx;exact⟨sl,(hs.2 b (ne0 b o q)).trans e1⟩
 ·obtain⟨o',e1⟩:=I.base.there b o q hx;exact⟨o',(hs.2 b (ne0 b o q)).trans e1⟩
 ·by_cases hj:j=i
  ·subst hj;rcases e2 with e2|e2
   ·rw[zrw hiσ] at e2;cases e2
   ·exact absurd e2 (hlk _)
  ·have e2':σ[j]?=some (some v')\/X.lk[j]?=some (some v'):=e2.imp_left fun z=>by rw[zrx (Ne.symm hj)] at z;exact z
   obtain⟨u',r',q⟩:=hl j y v' e1 e2' e3;refine⟨u',r',?_⟩;rcases q with ⟨k,e⟩|⟨k,c,e,z⟩
   ·refine .inl ⟨k,?_⟩;have:y≠x:=fun e=>hj (Ot hN e1 (e▸hi));simp[this,e]
   ·exact .inr ⟨k,c,e,z.sameBut hs (cne y c e)⟩
 ·obtain⟨w',z⟩:=I.cell y c e;exact⟨w',z.sameBut hs (cne y c e)⟩
 ·obtain⟨e,n,ne,nf,d⟩:=I.pin p hp;exact⟨(hs.2 p.1 ne).trans e,n,ne,nf,d⟩
 ·refine(I.hok b ob e).stay (fun c w' hc q=>(hs.2 c ?_).trans q) (fun _ q=>q) fun _ _ q=>q;rintro rfl;rcases hc with rfl|hc
  ·rw[I.free] at e;cases e
  ·rw[I.free] at hc;cases hc
theorem Inv.track{a:Addr}{o:HO}(I:Inv X pins σ H s)(n:H a=none)(hch:(a∈X.ex\/X.s₀.heap.get? a=none)/\a≠X.env.locals/\(∀ x c,X.env.cells.lookup x=some c->c≠a)/\∀ p∈X.pn++pins,p.1≠a)
  (hok:∀ H',Yh X.prog X.w H' s.heap a o):Inv X pins σ (upd H a o) s:=by
 have nt:∀ b u,H b=some u->b≠a:=fun b u q z=>by subst z;rw[n] at q;cases q
 have J:=I.stepN (h':=s.heap) (H':=upd H a o) (g':=s.gens) (d':=s.drawn) (t':=s.toks) (ch:=[a]) (fun b hb=>by rw[zq3.mp hb];exact hch) (fun _ _ _ _ _ q _=>q) (fun _ ob _ _ _ q _=>⟨ob.slots,q⟩)
  (fun b _ hb _ q=>by rw[Zg (fun z=>hb (by simp[z]))];exact q) (fun _ ob _ q=>⟨ob,q⟩) (fun b xs q=>by rw[Zg (nt b _ q)];exact q) (fun b u xs q=>by rw[Zg (nt b _ q)];exact q)
  (fun b ps q=>⟨#[],by rw[Zg (nt b _ q),q];simp⟩) (fun _ q=>q) (fun b u q=>?_) I.bare
 ·exact J
 ·by_cases hb:b=a
  ·subst hb;rw[Zb] at q;cases q;exact hok _
  ·rw[Zg hb] at q;exact(I.hok b u q).stay (fun c v _ z=>z) (fun c z=>by rw[Zg (nt c _ z)];exact z) fun c xs z=>by rw[Zg (nt c _ z)];exact z
end
noncomputable def fgt:List Nat->St->St
 | [],σ=>σ
 | i :: r,σ=>fgt r (σ.set i none)
theorem O0:∀ (as:List Nat) (σ:St),(fgt as σ).length=σ.length
 | [],_=>rfl
 | i :: r,σ=>by rw[fgt,O0 r,zr5]
theorem Lw:∀ (as:List Nat) {σ:St} {i:Nat} {v:V},(fgt as σ)[i]?=some (some v)->σ[i]?=some (some v)/\i∉as
 | [],_,_,_,h=>⟨h,by simp⟩
 | j :: r,σ,i,v,h=>by
   obtain⟨h1,h2⟩:=Lw r h;by_cases e:i=j
   ·subst e;rw[List.getElem?_set] at h1;simp at h1
   ·rw[zrx (Ne.symm e)] at h1;exact⟨h1,by simp[e,h2]⟩
noncomputable abbrev Cx.tried(X:Cx)(E:Value->Shared->Prop)(lk:St)(pn:List (Addr×Obj)):Cx:={ X with xe:=E,lk:=lk,pn:=pn }
noncomputable abbrev Cx.hand(X:Cx)(e:Addr):Cx:={ X with A:=X.A.mark (some (.ref e)),calm:=false,xe:=fun _ _=>False }
section
variable{X:Cx}{pins pins':List (Addr×Obj)}{σ σ' lk:St}{H:Hp}{s:Shared}{E:Value->Shared->Prop}{e:Addr}
theorem Cx.Ok.tried(ok:X.Ok)(E:Value->Shared->Prop)(lk:St)(pn:List (Addr×Obj)):(X.tried E lk pn).Ok :=
 ⟨ok.mod,ok.kind,ok.glob,ok.blt,ok.above,ok.inj,ok.has,ok.cab,ok.hd,ok.frames,ok.stk,ok.exf,ok.bs,ok.bsz,ok.noex,ok.exfs,ok.funs,ok.frf⟩
theorem Cx.Ok.untried{pn:List (Addr×Obj)}(ok:(X.tried E lk pn).Ok):X.Ok :=
 ⟨ok.mod,ok.kind,ok.glob,ok.blt,ok.above,ok.inj,ok.has,ok.cab,ok.hd,ok.frames,ok.stk,ok.exf,ok.bs,ok.bsz,ok.noex,ok.exfs,ok.funs,ok.frf⟩
theorem Cx.Ok.hand(ok:X.Ok)(e:Addr):(X.hand e).Ok :=
 ⟨ok.mod,ok.kind,ok.glob,ok.blt,ok.above,ok.inj,ok.has,ok.cab,fun z=>(nomatch z),ok.frames,ok.stk,ok.exf,ok.bs,ok.bsz,ok.noex,ok.exfs,ok.funs,ok.frf⟩
theorem Inv.tried(I:Inv X pins σ H s)(E:Value->Shared->Prop)(hlk:∀ (i:Nat) v,lk[i]?=some (some v)->σ[i]?=some (some v)):Inv (X.tried E lk (X.pn++pins)) [] σ H s:=by
 refine⟨I.ok.tried _ _ _,I.os,I.bare,I.base,?_,I.cell,I.free,I.freeC,fun p hp=>I.pin p (by simpa using hp),I.hok,I.len⟩;obtain⟨m,hn,hl⟩:=I.loc;exact⟨m,hn,fun i x v e1 e2 e3=>hl i x v e1 (.inl (e2.elim id (hlk i v))) e3⟩
theorem Inv.untried(I:Inv (X.tried E lk (X.pn++pins)) pins' σ' H s)(hX:X.lk=[])(hl:lk.length=X.N.length):Inv X pins lk H s:=by
 refine⟨I.ok.untried,I.os,I.bare,I.base,?_,I.cell,I.free,I.freeC,fun p hp=>I.pin p (zrn _ hp),I.hok,hl⟩;obtain⟨m,hn,hl⟩:=I.loc;exact⟨m,hn,fun i x v e1 e2 e3=>hl i x v e1 (.inr (e2.elim id fun z=>by rw[hX] at z;simp at z)) e3⟩
theorem Inv.untriedN(I:Inv (X.tried E lk (X.pn++pins)) [] σ' H s)(hX:X.lk=[]):Inv X pins σ' H s:=by
 refine⟨I.ok.untried,I.os,I.bare,I.base,?_,I.cell,I.free,I.freeC,fun p hp=>I.pin p (by simpa using hp),I.hok,I.len⟩;obtain⟨m,hn,hl⟩:=I.loc;exact⟨m,hn,fun i x v e1 e2 e3=>hl i x v e1 (e2.elim .inl fun z=>by rw[hX] at z;simp at z) e3⟩
theorem Inv.hand(I:Inv X pins σ H s)(e:Addr):Inv (X.hand e) pins σ H s:=⟨I.ok.hand e,I.os,I.bare,I.base,I.loc,I.cell,I.free,I.freeC,I.pin,I.hok,I.len⟩
theorem Inv.unhand(ok:X.Ok)(I:Inv (X.hand e) pins σ H s):Inv X pins σ H s:=⟨ok,I.os,I.bare,I.base,I.loc,I.cell,I.free,I.freeC,I.pin,I.hok,I.len⟩
theorem SP.untried{D:Um}{f:Flow}{s':Shared}(hX:X.lk=[])(h:SP (X.tried E lk (X.pn++pins)) [] D f s'):SP X pins D f s':=by
 cases f with
 | next=>obtain⟨a,b,c,d⟩:=h;exact⟨a,b,c.untriedN hX,d⟩
 | brk=>obtain⟨a,b,c,d⟩:=h;exact⟨a,b,c.untriedN hX,d⟩
 | cont=>obtain⟨a,b,c,d⟩:=h;exact⟨a,b,c.untriedN hX,d⟩
 | ret u=>obtain⟨v,a,b,c,r,d⟩:=h;exact⟨v,a,b,c.untriedN hX,r,d⟩
end
structure zau(X:Cx):Prop where
 ex:X.ex=[]
 lk:X.lk=[]
 st:X.stack=X.env :: X.outer
 fr:X.env.frame=some X.env.locals
theorem M4{CX:CXT}{P:Program}{w:World}{K:Frag}{mg:Str->Option Value}{base:Heap}{N:List Str}{qual:Str}{scope:Scope}{f:Addr}{cd:Value}{A:Around}{outer:List Env}{s0:Shared}{H0:Hp}{E:XK} :
  zau (cxOf CX P w K mg base N qual scope f cd A outer s0 H0 E):=⟨rfl,rfl,rfl,rfl⟩
section
variable{X:Cx}{pins:List (Addr×Obj)}{σ:St}{H:Hp}{s:Shared}{E:Value->Shared->Prop}
theorem zc9{lk:St}{pins':List (Addr×Obj)}{σ':St}{H1:Hp}{s1 s2:Shared}{E':Value->Shared->Prop}{EX:XK}{ev:Value}{hs:List ExceptHandler}{Q:Flow->Shared->Prop}(B:zau X)(hlk:lk.length=X.N.length)
  (I:Inv (X.tried E' lk (X.pn++pins)) pins' σ' H1 s1) (h:CX1 X.prog X.w X.stack H1 s1 EX ev s2)
  (k:∀ a T cls H2 s3,ev=.ref a->EX cls none H2->Inv X pins lk H2 s3->Fly s1.heap H2 s3.heap a T cls->((a∈X.ex\/X.s₀.heap.get? a=none)/\a≠X.env.locals/\(∀ x c,X.env.cells.lookup x=some c->c≠a)/\∀ p∈X.pn++pins,p.1≠a) ->
   ((T∈X.ex\/X.s₀.heap.get? T=none)/\T≠X.env.locals/\(∀ x c,X.env.cells.lookup x=some c->c≠T)/\∀ p∈X.pn++pins,p.1≠T) ->
   wpAny (model X.prog X.w) X.A (handleBy (.ref a) X.env hs) Q E s3) :
  wpAny (model X.prog X.w) X.A (noteFrame ev X.env) (fun _ s₂=>wpAny (model X.prog X.w) X.A (setFlight ev none) (fun _ s₃=>wpAny (model X.prog X.w) X.A (handleBy ev X.env hs) Q E s₃) E s₂) E s2:=by
 obtain⟨a,T,cls,H2,q0,ho,hg,u,hok,F,hE⟩:=h;subst q0;have J:=I.raised ho hg u hok;obtain⟨a0,hfl⟩:=F.flying J J.stack (fun _ z=>z);have hfl':Heap.FlyingW (PySem.W.hideAll s2.heap ([a,T]++frs X.stack)) (X.env :: X.outer) a cls a0 s2.heap:=by rw[<- B.st];exact hfl
 refine wpAny_looks_onW (base:=PySem.W.hideAll s2.heap ([a,T]++frs X.stack)) (by rw[J.ok.frames];exact congrArg some B.st) B.fr hfl' fun h3 held up1=>?_;refine wpAny_landsW held fun h4 hfl4 up2=>?_;have up:s2.heap.UpToSlots h4:=up1.trans up2;have t:=V8.of (as:=[a,T]) J hfl4.1 up;have frE:∀ b∈[a,T],H2 b=none:=by
  intro b hb;rcases zq0.mp hb with rfl|hb
  ·exact F.freeE
  ·rcases zq0.mp hb with rfl|hb
   ·exact F.freeT
   ·cases hb
 have rcs:∀ b∈[a,T],(b∈X.ex\/X.s₀.heap.get? b=none)/\b≠X.env.locals/\(∀ x c,X.env.cells.lookup x=some c->c≠b)/\∀ p∈(X.pn++pins)++pins',p.1≠b:=by
  intro b hb;rcases zq0.mp hb with rfl|hb
  ·exact I.newRec B.ex F.newE
  ·rcases zq0.mp hb with rfl|hb
   ·exact I.newRec B.ex F.newT
   ·cases hb
 have J4:Inv (X.tried E' lk (X.pn++pins)) pins' σ' H2 { s2 with heap:=h4 }:=J.callN' (s':={ s2 with heap:=h4 }) (ch:=[a,T]) rfl (t.un J frE) (t.hok J frE) J.bare rcs;have old:∀ b,s2.heap.get? b=none->s1.heap.get? b=none:=fun b n=>by
  cases q:s1.heap.get? b with
  | none=>rfl
  | some o =>
    obtain⟨_,z⟩:=u.there b o q (by simp);rw[n] at z;cases z
 obtain⟨T',F'⟩:=F.again J old up hfl4.1 hfl4.2.2.2;have sub:∀ {b:Addr},((b∈X.ex\/X.s₀.heap.get? b=none)/\b≠X.env.locals/\(∀ x c,X.env.cells.lookup x=some c->c≠b)/\∀ p∈(X.pn++pins)++pins',p.1≠b) ->
   (b∈X.ex\/X.s₀.heap.get? b=none)/\b≠X.env.locals/\(∀ x c,X.env.cells.lookup x=some c->c≠b)/\∀ p∈X.pn++pins,p.1≠b:=fun z=>⟨z.1,z.2.1,z.2.2.1,fun p hp=>z.2.2.2 p (zrn _ hp)⟩
 exact k a T' cls H2 _ rfl hE (J4.untried B.lk hlk) F' (sub (rcs a (by simp))) (sub (I.newRec B.ex F'.newT))
theorem Dy{g:Heap}{a T:Addr}{cls:Value}{Q:Unit->Shared->Prop}{A:Around}(I:Inv X pins σ H s)(F:Fly g H s.heap a T cls)(hg:∀ b,s.heap.get? b=none->g.get? b=none)
  (ha:(a∈X.ex\/X.s₀.heap.get? a=none)/\a≠X.env.locals/\(∀ x c,X.env.cells.lookup x=some c->c≠a)/\∀ p∈X.pn++pins,p.1≠a)
  (hT:(T∈X.ex\/X.s₀.heap.get? T=none)/\T≠X.env.locals/\(∀ x c,X.env.cells.lookup x=some c->c≠T)/\∀ p∈X.pn++pins,p.1≠T)
  (k:∀ s',Inv X pins σ H s'->(∃ T',Fly g H s'.heap a T' cls)->Q () s'):wpAny (model X.prog X.w) A (setFlight (.ref a) none) Q E s:=by
 obtain⟨a0,hfl⟩:=F.flying I I.stack (fun _ z=>z);refine lands_againW hfl fun h4 hfl4 up=>?_;have t:=V8.of (as:=[a,T]) I hfl4.1 up;have frE:∀ b∈[a,T],H b=none:=by
  intro b hb;rcases zq0.mp hb with rfl|hb
  ·exact F.freeE
  ·rcases zq0.mp hb with rfl|hb
   ·exact F.freeT
   ·cases hb
 have J4:Inv X pins σ H { s with heap:=h4 }:=I.callN' (s':={ s with heap:=h4 }) (ch:=[a,T]) rfl (t.un I frE) (t.hok I frE) I.bare fun b hb=>by
  rcases zq0.mp hb with rfl|hb
  ·exact ha
  ·rcases zq0.mp hb with rfl|hb
   ·exact hT
   ·cases hb
 exact k _ J4 (F.again I hg up hfl4.1 hfl4.2.2.2)
end
noncomputable def xAs(K:Frag)(as:List Nat)(i:Nat)(CB:Addr)(th:TS)(D:Um)(σ:St):XK:=fun cls _ H'=>∃ C,cls=.ref C/\PySem.W.mroIn K C (.ref CB)=some true /\
 ∀ a,H' a=none->th { nx:=fun σ' H''=>D.nx (σ'.set i none) H'',rt:=D.rt,bk:=fun σ' H''=>D.bk (σ'.set i none) H'',ct:=fun σ' H''=>D.ct (σ'.set i none) H'' } ((fgt as σ).set i (some (.ref a))) (upd H' a (excO a cls))
noncomputable def zav(K:Frag)(as:List Nat)(i:Nat)(CB:Addr)(tb:XK->TS)(th:TS):TS:=fun D σ H=>tb (xAs K as i CB th D σ) D σ H
section
variable{X:Cx}{as:List Nat}{i:Nat}{CB:Addr}{tb:XK->TS}{th:TS}{body suite:List Stmt}{b₀:Stmt}{n cx:Str}{p hpos pos:Pos}
theorem K6(B:zau X)(hN:X.N.Nodup)(hi:X.N[i]?=some n)(hk:X.env.scope.names.lookup n=some .local)(c:Du X.K CB)(hg:Gl X cx)(hm:X.mg cx=some (.ref CB))
  (hb:∀ (E':Value->Shared->Prop) (lk:St) (pn:List (Addr×Obj)) (EX:XK),(∀ j∈as,∀ v,lk[j]?≠some (some v))->PassesOwn (model X.prog X.w) X.A X.env E'->X2 (CX1 X.prog X.w) (X.tried E' lk pn) EX->PSs (X.tried E' lk pn) body (tb EX))
  (hh:∀ a,PSs (X.hand a) (b₀ :: suite) th) (hd:(cx == ("__debug__":Str))=false:=by decide) :
  PS X (.Try body [.ExceptHandler (some (.Name cx p)) (some n) (b₀ :: suite) hpos] [] [] pos) (zav X.K as i CB tb th):=by
 intro pins s σ H D I h;refine wpAny_Try_except ?_;have lkl:(fgt as σ).length=X.N.length:=by rw[O0];exact I.len
 have I':=I.tried (lk:=fgt as σ) (fun ev s₁=>wpAny (model X.prog X.w) X.A (noteFrame ev X.env) (fun _ s₂=>wpAny (model X.prog X.w) X.A (setFlight ev none)
  (fun _ s₃=>wpAny (model X.prog X.w) X.A (handleBy ev X.env [.ExceptHandler (some (.Name cx p)) (some n) (b₀ :: suite) hpos]) (SP X pins D) X.xe s₃) X.xe s₂) X.xe s₁) fun i v z=>(Lw as z).1
 refine wpAny_mono (hb _ _ _ (xAs X.K as i CB th D σ) (fun j hj v z=>(Lw as z).2 hj) PassesOwn.looking (fun pins' σ' H1 s1 ev s2 J hcx=>?_) [] s σ H D I' h) (fun f s1 h1=>?_) fun _ _ z=>z
 ·refine zc9 B lkl J hcx fun a T cls H2 s3 _ hE J3 F ha hT=>?_;obtain⟨C,rfl,hmro,hth⟩:=hE;obtain⟨oe,vs,oT,ts,e1,e2,e3,_⟩:=F.ex;refine wpAny_handleBy_cons (codeAny_handlers_test (Sh (X:=X.hand a) (J3.hand a) hg hm (K5 J3.kIn c e1 e2 hmro ?_) hd)) (by intro q;cases q);refine codeAny_handlers_suite_as ?_;have F0:Fly (Att.noObjs s3.heap) H2 s3.heap a T (.ref C):=⟨F.ex,Att.noObjs_get _ _,Att.noObjs_get _ _,F.freeE,F.freeT⟩;refine Dy J3 F0 (fun b _=>Att.noObjs_get _ _) ha hT fun s4 J4 ⟨T',F4⟩=>?_;obtain⟨oe,vs,oT,ts,e1,e2,e3,_⟩:=F4.ex;have J5:Inv X pins (fgt as σ) (upd H2 a (excO a (.ref C))) s4:=J4.track F4.freeE ha fun H'=>⟨⟨oe,vs,e1,e2,e3⟩,⟨oe,e1⟩,fun h1 h2 ⟨o,vs,z1,z2,z3⟩ k=>⟨o,vs,k o z1,z2,z3⟩⟩
  refine Ou (X:=X.hand a) (J5.hand a) hN hi (.inl hk) (v:=.ref a) (show RelV (.ref a) (.ref a) from rfl) (fun s5 J6=>?_) ⟨.inr hk,fun v z=>by rw[show (X.hand a).lk=[] from B.lk] at z;exact Xf v z⟩;refine wpAny_mono (hh a pins s5 _ _ _ J6 (hth a F.freeE)) (fun f s6 h6=>?_) fun _ _ z=>z.elim;have lk0:∀ v,X.lk[i]?≠some (some v):=fun v z=>by rw[B.lk] at z;exact Xf v z
  cases f with
  | next=>obtain⟨σ6,H6,J7,d⟩:=h6;exact Sj (J7.unhand I.ok) hN hi hk lk0 fun s7 J8=>⟨_,H6,J8,d⟩
  | brk=>obtain⟨σ6,H6,J7,d⟩:=h6;exact Sj (J7.unhand I.ok) hN hi hk lk0 fun s7 J8=>⟨_,H6,J8,d⟩
  | cont=>obtain⟨σ6,H6,J7,d⟩:=h6;exact Sj (J7.unhand I.ok) hN hi hk lk0 fun s7 J8=>⟨_,H6,J8,d⟩
  | ret u=>obtain⟨v,σ6,H6,J7,r,d⟩:=h6;exact Sj (J7.unhand I.ok) hN hi hk lk0 fun s7 J8=>⟨v,_,H6,J8,r,d⟩
 ·have h2:=SP.untried B.lk h1;cases f with
  | next=>exact wpAny_execs_nil h2
  | brk=>exact h2
  | cont=>exact h2
  | ret u=>exact h2
end
section
variable{P:Program}{w:World}{K:Frag}{mg:Str->Option Value}{base:Heap}
theorem Fun.okX{x qual:Str}{st:Stmt}{f:Addr}{fd:FuncData}{N ps:List Str}{k:Nat}{sp:Sp}(F:Fun K x qual st f fd)(S:Zl N ps (Zj st))(len:∀ vs H Q E,sp vs H Q E->vs.length=ps.length)
  (hbody:∀ (cdv:Value) (A:Around) (outer:List Env) (s:Shared) (H:Hp) (vs:List V) (Q:VK) (E:XK),X4 k (A.deeper (envOfC qual (Zj st) s.heap.objs.size f cdv))->sp vs H Q E ->
   ∃ t,PSs (cxOf (CX1 P w) P w K mg base N qual (Zj st) f cdv A outer s H E) (Vr st) t/\t { nx:=fun _ H'=>Q .non H',rt:=Q } (Pj N vs) H):FnOk P w K mg base (CX1 P w) (k+1) f fd ps sp:=by
 obtain⟨oc,od,kV,doc,pm,an,cdv,ct,osl,rfl,lk,hcd⟩:=F.ex;exact zb0 lk hcd S len fun A outer s H vs Q E hr hsp=>hbody cdv A outer s H vs Q E hr hsp
end
noncomputable def N9{α:Type}(p:α->Prop):List α->Prop
 | []=>True
 | a :: r=>p a/\N9 p r
theorem N9.get{α:Type}{p:α->Prop}:∀ {l:List α} {a:α},N9 p l->a∈l->p a
 | _ :: _,_,h,.head _=>h.1
 | _ :: _,_,h,.tail _ m=>N9.get h.2 m
noncomputable def Ye(X:Cx)(pn:List (Addr×Obj))(Nc:List Str)(scope:Scope)(cl:List (Str×Addr))(s₀:Shared)(H₀:Hp)(fp:List Addr)(C:Addr):Cx :=
 { X with N:=Nc,s₀:=s₀,H₀:=H₀,env:=compEnvC scope cl C X.env,outer:=X.stack,stack:=X.stack,ex:=fp,fn:=fun _=>false,pn:=pn,xe:=fun _ _=>False,lk:=[] }
noncomputable def cs(js:List Nat)(σ:St)(x:V):St:=some x :: js.map fun j=>(σ[j]?).getD none
noncomputable def PTs(X:Cx)(ifs:List Expr)(t:TT):Prop :=
 ∀ (pins:List (Addr×Obj)) (s:Shared) (σ:St) (H:Hp) (Q:Bool->Hp->Prop),Inv X pins σ H s->t σ H Q ->
   wpAny (model X.prog X.w) X.A (forIn ifs true fun c r=>if r=true then do let ok <- isTrue c X.env (eval c X.env);pure (ForInStep.yield ok) else pure (ForInStep.yield r)) (TP X pins σ Q) X.xe s
noncomputable def tYes:TT:=fun _ H Q=>Q true H
theorem Uh{X:Cx}:PTs X [] tYes:=fun _ _ _ H _ I h=>wpAny_tests_nil ⟨H,I,h⟩
theorem Ly{X:Cx}{c:Expr}{t:TT}(h:PT X c t):PTs X [c] t:=fun pins s σ H Q I q=>wpAny_tests_one (h pins s σ H Q I q)
noncomputable def Gf(J:It)(js:List Nat)(tt:TT)(te:TE)(σ:St)(H:Hp)(Q:VK):Prop:=∃ W:Nat->Nat->List V->Hp->Prop,(∃ m,W 0 m [] H)/\∀ i m ys H,W i m ys H ->
 (J.stop i H/\ys.length<=sizeLine/\∀ p,H p=none->Q (.ref p) (upd H p (.lst ys))) \/
 (J.go i H/\ys.length<sizeLine/\∃ N:List V->Hp->Prop,(∀ ys' H',N ys' H'->∃ m',m' < m/\W (i+1) m' ys' H')/\∀ x H',J.yld i H x H'->tt (cs js σ x) H' fun b H2=>if b=true then te (cs js σ x) H2 fun y H3=>N (ys++[y]) H3 else N ys H2)
noncomputable def Al(wi:TI)(js:List Nat)(tt:TT)(te:TE):TE:=fun σ H Q=>wi σ H fun J H1=>Gf J js tt te σ H1 Q
section
variable{X:Cx}{elt iter:Expr}{x:Str}{px pos:Pos}{ifs:List Expr}{scope:Scope}{cl:List (Str×Addr)}{ys:List Str}{js:List Nat}
structure Gg(X:Cx)(x:Str)(scope:Scope)(cl:List (Str×Addr))(ys:List Str)(js:List Nat):Prop where
 clos:closureFor scope X.env=pure cl
 kind:scope.kind=.function
 names:∀ y∈scope.names,y.2=.local->scope.names.lookup y.1=some .local
 nocell:∀ y∈scope.names,y.2≠.cell
 own:scope.names.lookup x=some .local
 nd:(x :: ys).Nodup
 at_:js.map (X.N[·]?)=ys.map some
 free:N9 (fun y=>X.env.kindOf y=some .cell/\(relabel scope X.env).names.lookup y=some .cell/\cl.lookup y=X.env.cells.lookup y) ys
 only:N9 (fun p=>X.env.cells.lookup p.1=some p.2) cl
 vis:∀ y∈scope.names,y.2=.free->y.1∈ys
theorem R8{env:Env}:∀ {names:List (Str×NameKind)} {y:Str},(names.map fun (n,k)=>if (k == NameKind.free&&env.scope.kind == .function&&env.kindOf n == some .cell) then (n,NameKind.cell) else (n,k)).lookup y=some .cell \/
  (names.map fun (n,k)=>if (k == NameKind.free&&env.scope.kind == .function&&env.kindOf n == some .cell) then (n,NameKind.cell) else (n,k)).lookup y=some .free->∃ k,(y,k)∈names/\(k=.cell\/k=.free)
 | [],_,h=>by rcases h with h|h<;>simp at h
 | (n,k) :: r,y,h=>by
   by_cases hx:y=n
   ·subst hx;refine⟨k,zrq,?_⟩;rw[zq8] at h;dsimp only at h;by_cases hc:(k == NameKind.free&&env.scope.kind == .function&&env.kindOf y == some .cell)=true
    ·simp only[zsa,beq_iff_eq] at hc;exact .inr hc.1.1
    ·rw[if_neg hc] at h;simp only[zrs,beq_self_eq_true] at h;rcases h with h|h
     ·exact .inl (Option.some.inj h)
     ·exact .inr (Option.some.inj h)
   ·have hb:(y == n)=false:=zrf.mpr hx;have ih:=@R8 env r y;rw[zq8] at h;have key:∀ z:Str×NameKind,z.1=n->List.lookup y (z :: (r.map fun (n,k)=>if (k == NameKind.free&&env.scope.kind == .function&&env.kindOf n == some .cell) then (n,NameKind.cell) else (n,k))) =
      List.lookup y (r.map fun (n,k)=>if (k == NameKind.free&&env.scope.kind == .function&&env.kindOf n == some .cell) then (n,NameKind.cell) else (n,k)):=fun z hz=>by
     obtain⟨z1,z2⟩:=z;cases hz;simp only[zrs,hb]
    rw[key _ (by dsimp only;split<;>rfl)] at h;obtain⟨k',m,q⟩:=ih h;exact⟨k',zrh _ m,q⟩
variable{wi:TI}{tt:TT}{te:TE}
end
theorem V2{K:Frag}{js:List Nat}{tt:TT}{te:TE}{a:Addr}{xs:List V}{σ:St}{H:Hp}{Q:VK}(Pv:Nat->List V->Hp->Prop)(h0:Pv 0 [] H)(hl:∀ i ys H,i<=xs.length->Pv i ys H->SqL K H a xs)(hz:xs.length<=sizeLine)
  (hy:∀ i ys H,Pv i ys H->ys.length<=i)
  (hs:∀ i x ys H,xs[i]?=some x->Pv i ys H->tt (cs js σ x) H fun b H2=>if b=true then te (cs js σ x) H2 fun y H3=>Pv (i+1) (ys++[y]) H3 else Pv (i+1) ys H2)
  (hd:∀ ys H,Pv xs.length ys H->∀ p,H p=none->Q (.ref p) (upd H p (.lst ys))):Gf (Itl K a) js tt te σ H Q:=by
 refine⟨fun i m ys H=>m=xs.length-i/\i<=xs.length/\Pv i ys H,⟨xs.length,by simp,zrj _,h0⟩,?_⟩;rintro i m ys H ⟨rfl,hi,p⟩;have q:=hl i ys H hi p;have ly:=hy i ys H p;by_cases hlt:i<xs.length
 ·refine .inr ⟨⟨xs,xs[i],q,by simp[hlt]⟩,by omega,Pv (i+1),fun ys' H' p'=>⟨xs.length-(i+1),by omega,rfl,hlt,p'⟩,fun x H' y=>?_⟩;obtain⟨e,y⟩:=y;subst e;exact hs i x ys _ (y xs q) p
 ·have e:i=xs.length:=by omega
  subst e;exact .inl ⟨⟨xs,q,zq1 _⟩,by omega,hd ys H p⟩
theorem O1{js:List Nat}{tt:TT}{te:TE}{lo:Int}{n:Nat}{σ:St}{H:Hp}{Q:VK}(Pv:Nat->List V->Hp->Prop)(h0:Pv 0 [] H)(hz:n<=sizeLine)(hy:∀ i ys H,Pv i ys H->ys.length<=i)
  (hs:∀ i ys H,i<n->Pv i ys H->tt (cs js σ (.int (lo+i))) H fun b H2=>if b=true then te (cs js σ (.int (lo+i))) H2 fun y H3=>Pv (i+1) (ys++[y]) H3 else Pv (i+1) ys H2)
  (hd:∀ ys H,Pv n ys H->∀ p,H p=none->Q (.ref p) (upd H p (.lst ys))):Gf (Itr lo n) js tt te σ H Q:=by
 refine⟨fun i m ys H=>m=n-i/\i<=n/\Pv i ys H,⟨n,by simp,zrj _,h0⟩,?_⟩;rintro i m ys H ⟨rfl,hi,p⟩;have ly:=hy i ys H p;by_cases hlt:i<n
 ·refine .inr ⟨hlt,by omega,Pv (i+1),fun ys' H' p'=>⟨n-(i+1),by omega,rfl,hlt,p'⟩,fun x H' y=>?_⟩;obtain⟨e,y⟩:=y;subst e y;exact hs i ys _ hlt p
 ·have e:i=n:=by omega
  subst e;exact .inl ⟨zq1 _,by omega,hd ys H p⟩
theorem Pl:∀ {xs:List V} {us:List Value},xs.length=us.length->(∀ (j:Nat) x u,xs[j]?=some x->us[j]?=some u->RelV x u)->Vals xs us
 | [],[],_,_=>.nil
 | x :: xs,u :: us,hl,h=>.cons (h 0 x u rfl rfl) (Pl (by simpa using hl) fun j x' u' h1 h2=>h (j+1) x' u' (by simpa using h1) (by simpa using h2))
noncomputable abbrev TF:=St->Hp->(Hp->Prop)->Prop
noncomputable def PF(X:Cx)(e:Expr)(t:TF):Prop :=
 ∀ (pins:List (Addr×Obj)) (s:Shared) (σ:St) (H:Hp) (k:Hp->Prop),Inv X pins σ H s->t σ H k ->
   wpAny (model X.prog X.w) X.A (eval e X.env) (fun u s'=>∃ y tk H',u=.str y tk/\y.length<=10000/\Inv X pins σ H' s'/\k H') X.xe s
noncomputable def PFs(X:Cx)(es:List Expr)(t:TF):Prop :=
 ∀ (pins:List (Addr×Obj)) (s:Shared) (σ:St) (H:Hp) (k:Hp->Prop) (acc:Str),Inv X pins σ H s->acc.length+10000*es.length<=sizeLine->t σ H k ->
   Joins (model X.prog X.w) X.A X.xe (evalEach es X.env) acc (fun out s'=>out.length<=sizeLine/\∃ H',Inv X pins σ H' s'/\k H') s
noncomputable def zcb:TF:=fun _ H k=>k H
noncomputable def zcc(t u:TF):TF:=fun σ H k=>t σ H fun H1=>u σ H1 k
noncomputable def okF(v:V):Prop:=(∃ i,v=.int i/\i.natAbs.log2<1920)\/∃ y,v=.str y/\y.length<=10000
noncomputable def zda(te:TE):TF:=fun σ H k=>te σ H fun v H1=>okF v/\k H1
noncomputable def zcd(t:TF):TE:=fun σ H Q=>t σ H fun H1=>∀ z,Q (.str z) H1
section
variable{X:Cx}{e:Expr}{es:List Expr}{te:TE}{t u:TF}{pos:Pos}
theorem Xd{x:Str}{j}(h:x.length<=10000):PF X (.Constant (.str x) j pos) zcb:=fun _ _ _ H _ I hk=>Calls.Constant_str ⟨x,_,H,rfl,h,I.tok _,hk⟩
theorem Wb(he:PE X e te):PF X (.FormattedValue e (-1) none pos) (zda te):=by
 intro pins s σ H k I h;refine FormattedValue_plain (thn (he pins s σ H _ I h) fun v s1 ⟨x,H1,I1,r1,ok,hk⟩=>?_);rcases ok with ⟨i,rfl,hi⟩|⟨y,rfl,hy⟩
 ·obtain⟨t,rfl⟩:=r1;refine formatField_int_small hi ⟨_,_,H1,rfl,?_,I1.tok _,hk⟩;have:=int_text_length_le (k:=1920) ⋯ hi;show (Str.ofString (toString i)).length<=10000;rw[PySem.ofString_length];omega
 ·obtain⟨t,rfl⟩:=r1;exact formatField_str (fun t' tk=>⟨y,t',H1,rfl,hy,I1.tok tk,hk⟩) (by rw[sizeLine_eq];omega)
theorem Wh:PFs X [] zcb:=fun _ _ _ H _ _ I hz hk=>⟨by simpa using hz,H,I,hk⟩
theorem Zw(h1:PF X e t)(h2:PFs X es u)(hs:evalEach (e :: es) X.env=eval e X.env :: evalEach es X.env:=by rfl):PFs X (e :: es) (zcc t u):=by
 intro pins s σ H k acc I hz h;rw[hs];refine thn (h1 pins s σ H _ I h) fun v s1 ⟨y,tk,H1,e1,hy,I1,hk⟩=>⟨y,tk,e1,?_,?_⟩
 ·rw[strLen_append];rw[zrc] at hz;omega
 ·exact h2 pins s1 σ H1 k _ I1 (by rw[strLen_append];rw[zrc] at hz;omega) hk
theorem Wi{e':Expr}(h:PFs X (e :: e' :: es) t)(hl:es.length<=100):PE X (.JoinedStr (e :: e' :: es) pos) (zcd t):=by
 intro pins s σ H Q I h';refine wpAny_JoinedStr ?_;have q:=h pins s σ H _ Str.empty I (by rw[sizeLine_eq];simp only[zrc];have:Str.empty.length=0:=rfl;omega) h';have mono:∀ (ps:List (Sem Value)) (acc:Str) (Q1 Q2:Str->Shared->Prop) (s:Shared),(∀ o s,Q1 o s->Q2 o s)->Joins (model X.prog X.w) X.A X.xe ps acc Q1 s->Joins (model X.prog X.w) X.A X.xe ps acc Q2 s:=by
  intro ps
  induction ps with
  | nil=>intro acc Q1 Q2 s m z;exact m _ _ z
  | cons p r ih=>intro acc Q1 Q2 s m z;exact thn z fun v s1 ⟨y,tk,e1,hz,z1⟩=>⟨y,tk,e1,hz,ih _ _ _ _ m z1⟩
 refine mono _ _ _ _ _ (fun out s1 ⟨hz,H1,I1,hk⟩=>⟨hz,.str out,H1,I1.tok _,⟨_,rfl⟩,hk out⟩) q
end
section
variable{X:Cx}
theorem Iz(hc:X.calm=true):Vo X (.type "list") (fun xs H Q=>∃ a kvs,xs=[.ref a]/\Rd H a (.dK kvs)/\∀ l,H l=none->Q (.ref l) (upd H l (.lst (kvs.map fun kv=>kV kv.1)))):=by
 intro pins s σ H xs us Q I r h;obtain⟨a,kvs,rfl,ha,q⟩:=h;obtain⟨u,rfl,ru⟩:=S4 r;cases (show u=Value.ref a from ru);obtain⟨hz,lo,vs,kv,o,es,ep,e1,e2⟩:=S5 I.hok ha;have hl:kvs.length=vs.length:=KV.length kv;refine PySem.W.kdl_call (PySem.W.kdl_dict (knd:=Yb X.prog X.w) (kvs:=vs) (ep:=ep) lo) (I.ok.hd hc) ⟨o,es,e1,e2⟩ (by rw[<- hl];exact hz) fun h' tk acc c hk hS hacc=>?_;have hf:H s.heap.objs.size=none:=I.hok.fresh (zq1 _);refine⟨.ref s.heap.objs.size,upd H s.heap.objs.size (.lst (kvs.map fun kv=>kV kv.1)),I.laid (t':=tk) hk (zq1 _) ?_,rfl,q _ hf⟩;obtain⟨accl⟩:=acc;refine⟨by rw[zqx];exact hz,accl,c,?_,hS⟩;have hlen:accl.length=vs.length:=by have:=hacc.1;simpa using this
 refine Pl (by rw[zqx,hl,hlen]) fun j x u hx hu=>?_;obtain⟨k,y,hk1,hk2⟩:=hacc.2 j u (by simpa using hu);have ek:=congrArg (·[j]?) (KV.keys kv);simp only[zq7,hk1,zrz] at ek;rw[zq7] at hx;cases hkv:kvs[j]? with
 | none=>rw[hkv] at hx;cases hx
 | some p =>
   rw[hkv] at hx ek;have e1:kV p.1=x:=Option.some.inj hx;have e2:p.1=k:=Option.some.inj ek;rw[<- e1,e2];rcases Yf hk2 with ⟨i,t,rfl,rfl⟩|⟨z,t,rfl,rfl⟩
   ·exact⟨t,rfl⟩
   ·exact⟨t,rfl⟩
end
inductive Dt where
 | non|bl (b:Bool)|int (i:Int)|str (x:Str)|lst (xs:List Dt)|tup (xs:List Dt)
mutual
inductive Is(K:Frag)(H:Hp):V->Dt->Prop where
 | non:Is K H .non .non
 | bl (b:Bool):Is K H (.bl b) (.bl b)
 | int (i:Int):Is K H (.int i) (.int i)
 | str (x:Str):Is K H (.str x) (.str x)
 | lst {a:Addr} {xs:List V} {ds:List Dt} (h:SqL K H a xs) (hs:Xk K H xs ds):Is K H (.ref a) (.lst ds)
 | tup {a:Addr} {xs:List V} {ds:List Dt} (h:SqT K H a xs) (hs:Xk K H xs ds):Is K H (.ref a) (.tup ds)
inductive Xk(K:Frag)(H:Hp):List V->List Dt->Prop where
 | nil:Xk K H [] []
 | cons {x:V} {xs:List V} {d:Dt} {ds:List Dt} (h:Is K H x d) (t:Xk K H xs ds):Xk K H (x :: xs) (d :: ds)
end
mutual
noncomputable def eqD:Dt->Dt->Bool
 | .non,.non=>true
 | .bl a,.bl b=>a == b
 | .bl a,.int b=>(if a then 1 else 0) == b
 | .int a,.bl b=>a == (if b then 1 else 0)
 | .int a,.int b=>a == b
 | .str a,.str b=>a == b
 | .lst xs,.lst ys=>Qv xs ys
 | .tup xs,.tup ys=>Qv xs ys
 | _,_=>false
noncomputable def Qv:List Dt->List Dt->Bool
 | [],[]=>true
 | x :: xs,y :: ys=>eqD x y&&Qv xs ys
 | _,_=>false
end
mutual
theorem R9:∀ d:Dt,eqD d d=true
 | .non=>by simp[eqD]
 | .bl _=>by simp[eqD]
 | .int _=>by simp[eqD]
 | .str _=>by simp[eqD]
 | .lst xs=>by rw[eqD];exact Qw xs
 | .tup xs=>by rw[eqD];exact Qw xs
theorem Qw:∀ ds:List Dt,Qv ds ds=true
 | []=>by simp[Qv]
 | d :: ds=>by rw[Qv,R9 d,Qw ds];rfl
end
mutual
noncomputable def zdb:Dt->Nat
 | .lst xs=>Dz xs+1
 | .tup xs=>Dz xs+1
 | _=>0
noncomputable def Dz:List Dt->Nat
 | []=>0
 | d :: ds=>max (zdb d) (Dz ds)
end
section
variable{X:Cx}{pins:List (Addr×Obj)}{σ:St}{H:Hp}{s:Shared}
theorem T1(I:Inv X pins σ H s){a:Addr}{xs ys:List V}(h1:SqL X.K H a xs)(h2:SqT X.K H a ys):False:=by
 obtain⟨_,_,⟨o,n,e1,e2,_⟩,_⟩:=I.list h1;obtain⟨_,_,⟨o',e1',e2',_⟩,_⟩:=I.tuple h2;rw[e1] at e1';cases e1';exact absurd (Value.type.inj (e2.symm.trans e2')) ⋯
mutual
theorem Is.inj(I:Inv X pins σ H s):∀ {x:V} {d d':Dt},Is X.K H x d->Is X.K H x d'->d=d'
 | _,_,_,.non,.non=>rfl
 | _,_,_,.bl _,.bl _=>rfl
 | _,_,_,.int _,.int _=>rfl
 | _,_,_,.str _,.str _=>rfl
 | _,_,_,.lst h hs,.lst h' hs'=>by
   have e:=I.list_inj h h';subst e;rw[Xk.inj I hs hs']
 | _,_,_,.tup h hs,.tup h' hs'=>by
   have e:=I.tuple_inj h h';subst e;rw[Xk.inj I hs hs']
 | _,_,_,.lst h _,.tup h' _=>(T1 I h h').elim
 | _,_,_,.tup h _,.lst h' _=>(T1 I h' h).elim
theorem Xk.inj(I:Inv X pins σ H s):∀ {xs:List V} {ds ds':List Dt},Xk X.K H xs ds->Xk X.K H xs ds'->ds=ds'
 | _,_,_,.nil,.nil=>rfl
 | _,_,_,.cons h t,.cons h' t'=>by rw[Is.inj I h h',Xk.inj I t t']
end
mutual
noncomputable def toPy:Dt->PyData
 | .non=>.none
 | .bl b=>.bool b
 | .int i=>.int i
 | .str x=>.str x
 | .lst xs=>.list (Wj xs)
 | .tup xs=>.tuple (Wj xs)
noncomputable def Wj:List Dt->List PyData
 | []=>[]
 | d :: ds=>toPy d :: Wj ds
end
mutual
theorem O2:∀ d e:Dt,PyData.eqv (toPy d) (toPy e)=eqD d e
 | .non,e=>by cases e<;>simp[toPy,eqD,PyData.eqv]
 | .bl _,e=>by cases e<;>simp[toPy,eqD,PyData.eqv]
 | .int _,e=>by cases e<;>simp[toPy,eqD,PyData.eqv]
 | .str _,e=>by cases e<;>simp[toPy,eqD,PyData.eqv]
 | .lst xs,.lst ys=>by rw[toPy,toPy,PyData.eqv,eqD];exact Qx xs ys
 | .tup xs,.tup ys=>by rw[toPy,toPy,PyData.eqv,eqD];exact Qx xs ys
 | .lst _,.non=>by simp[toPy,eqD,PyData.eqv]
 | .lst _,.bl _=>by simp[toPy,eqD,PyData.eqv]
 | .lst _,.int _=>by simp[toPy,eqD,PyData.eqv]
 | .lst _,.str _=>by simp[toPy,eqD,PyData.eqv]
 | .lst _,.tup _=>by simp[toPy,eqD,PyData.eqv]
 | .tup _,.non=>by simp[toPy,eqD,PyData.eqv]
 | .tup _,.bl _=>by simp[toPy,eqD,PyData.eqv]
 | .tup _,.int _=>by simp[toPy,eqD,PyData.eqv]
 | .tup _,.str _=>by simp[toPy,eqD,PyData.eqv]
 | .tup _,.lst _=>by simp[toPy,eqD,PyData.eqv]
theorem Qx:∀ ds es:List Dt,PyData.eqvAll (Wj ds) (Wj es)=Qv ds es
 | [],[]=>by simp[Wj,Qv,PyData.eqvAll]
 | [],_ :: _=>by simp[Wj,Qv,PyData.eqvAll]
 | _ :: _,[]=>by simp[Wj,Qv,PyData.eqvAll]
 | d :: ds,e :: es=>by rw[Wj,Wj,PyData.eqvAll,Qv,O2 d e,Qx ds es]
end
mutual
theorem Is.reads(I:Inv X pins σ H s):∀ {d:Dt} {x:V} {u:Value},Is X.K H x d->RelV x u->∃ as,Reads s.heap u (toPy d) as
 | _,_,_,.non,r=>by cases r;exact⟨_,.none⟩
 | _,_,_,.bl b,r=>by cases r;exact⟨_,.bool b⟩
 | _,_,_,.int i,r=>by obtain⟨t,rfl⟩:=r;exact⟨_,.int i t⟩
 | _,_,_,.str i,r=>by obtain⟨t,rfl⟩:=r;exact⟨_,.str i t⟩
 | _,_,_,.lst h hs,r=>by
   cases r;obtain⟨its,r1,⟨o,n',e1,e2,e3,e4⟩,_⟩:=I.list h;obtain⟨as,q⟩:=Xk.reads I hs r1;rw[toPy];exact⟨_,.list e1 e2 e4 (by simpa using q)⟩
 | _,_,_,.tup h hs,r=>by
   cases r;obtain⟨its,r1,⟨o,e1,e2,n',e4⟩,_⟩:=I.tuple h;obtain⟨as,q⟩:=Xk.reads I hs r1;rw[toPy];exact⟨_,.tuple e1 e2 e4 (by simpa using q)⟩
theorem Xk.reads(I:Inv X pins σ H s):∀ {ds:List Dt} {xs:List V} {us:List Value},Xk X.K H xs ds->Vals xs us->∃ as,ReadsAll s.heap us (Wj ds) as
 | _,_,_,.nil,r=>by cases r;exact⟨_,.nil⟩
 | _,_,_,.cons h t,r=>by
   cases r with
   | cons r1 r2 =>
     obtain⟨as,q1⟩:=Is.reads I h r1;obtain⟨bs,q2⟩:=Xk.reads I t r2;exact⟨_,.cons q1 q2⟩
end
noncomputable def shD(d:Dt):Prop:=SeqAt.shaped (toPy d)=true
inductive Bw(K:Frag)(neg:Bool)(x:V)(y:V)(H:Hp)(Q:VK):Prop where
 | mk(d)(e)(_:Is K H x d)(_:Is K H y e)(_:shD d)(_:shD e)(_:Q (.bl (if neg then !eqD d e else eqD d e)) H)
theorem zaw(hu:X.A.units+64<cLine):OpR X (compareOp .Eq) (Bw X.K false):=by
 intro pins s σ H x y v u Q I rx ry h;obtain⟨d,e,h1,h2,s1,s2,q⟩:=h;obtain⟨as,r1⟩:=h1.reads I rx;obtain⟨bs,r2⟩:=h2.reads I ry;exact eq_dataH r1 r2 s1 s2 hu (by rw[O2];exact⟨.bl _,H,I,rfl,q⟩)
theorem zax(hu:X.A.units+64<cLine):OpR X (compareOp .NotEq) (Bw X.K true):=by
 intro pins s σ H x y v u Q I rx ry h;obtain⟨d,e,h1,h2,s1,s2,q⟩:=h;obtain⟨as,r1⟩:=h1.reads I rx;obtain⟨bs,r2⟩:=h2.reads I ry;exact ne_dataH r1 r2 s1 s2 hu (by rw[O2];exact⟨.bl _,H,I,rfl,q⟩)
end
mutual
theorem Is.same{K:Frag}{H H':Hp}(e:Same H H'):∀ {d:Dt} {x:V},Is K H x d->Is K H' x d
 | _,_,.non=>.non
 | _,_,.bl b=>.bl b
 | _,_,.int i=>.int i
 | _,_,.str i=>.str i
 | _,_,.lst h hs=>.lst (e.seq h) (Xk.same e hs)
 | _,_,.tup h hs=>.tup (by
   rcases h with (h|⟨o,h⟩)|h
   ·exact .inl (.inl (e _ _ h))
   ·exact .inl (.inr ⟨o,e _ _ h⟩)
   ·exact .inr h) (Xk.same e hs)
theorem Xk.same{K:Frag}{H H':Hp}(e:Same H H'):∀ {ds:List Dt} {xs:List V},Xk K H xs ds->Xk K H' xs ds
 | _,_,.nil=>.nil
 | _,_,.cons h t=>.cons (Is.same e h) (Xk.same e t)
end
section
variable{P:Program}{w:World}{K:Frag}{mg:Str->Option Value}{base:Heap}{x m:Str}{k j:Nat}{ps:List Str}{sp:Sp}{C:Addr}
noncomputable def Yg(P:Program)(w:World)(K:Frag)(mg:Str->Option Value)(base:Heap)(x:Str)(k:Nat)(ps:List Str)(sp:Sp):Prop :=
 ∃ (f:Addr) (fd:FuncData),FnOk P w K mg base (CX1 P w) k f fd ps sp/\mg x=some (.ref f)/\PySem.W.keepIn K (.ref f)=true/\Ut K fd ps []
noncomputable def Zt(P:Program)(w:World)(K:Frag)(mg:Str->Option Value)(base:Heap)(C:Addr)(m:Str)(k:Nat)(ps:List Str)(sp:Sp):Prop :=
 ∃ (f:Addr) (fd:FuncData),FnOk P w K mg base (CX1 P w) k f fd ps sp/\E9 K C m f/\Ut K fd ps []
noncomputable def V9(P:Program)(w:World)(K:Frag)(mg:Str->Option Value)(base:Heap)(x:Str)(C:Addr)(k:Nat)(ps:List Str)(sp:Sp):Prop :=
 ∃ (f:Addr) (fd:FuncData),FnOk P w K mg base (CX1 P w) k f fd ps sp/\Mk K C f/\mg x=some (.ref C)/\Ut K fd ps []
theorem Gh{X:Cx}:X2 (CX1 P w) X E0:=fun _ _ _ _ _ _ _ h=>by obtain⟨_,_,_,_,_,_,_,_,_,_,z⟩:=h;exact z.elim
structure zdh(K:Frag)(mg:Str->Option Value)(x:Str)(st:Stmt)(f:Addr)(fd:FuncData):Prop where
 fn:Fun K x x st f fd
 nm:mg x=some (.ref f)
end
section
variable{X:Cx}{k:Nat}{C:Addr}{ps:List Str}{sp:Sp}{E:XK}{x m:Str}{p pos apos:Pos}{e o:Expr}{es:List Expr}{ta:TE}{t:TA}
theorem Gi(D:Yg X.prog X.w X.K X.mg X.base x k ps sp)(hr:X4 k X.A)(hx:X2 (CX1 X.prog X.w) X E)(hg:Gl X x)(ha:PA X (e :: es) t)(hdb:(x == ("__debug__":Str))=false:=by decide)
  (he:starEach (e :: es) X.env=(false,eval e X.env) :: starEach es X.env:=by rfl) (hpl:(backTo pos (starEach es X.env)).any (·.1)=false:=by rfl):PE X (.Call (.Name x p) (e :: es) [] pos) (Dc sp [] E t):=by
 obtain⟨f,fd,F,hm,kp,b⟩:=D;exact Bf F hr hg hm kp b .nil hx ha hdb he hpl
theorem Xl{pl:Sem Bool}(he:PE X o ta)(c:Cls X.K C)(M:Zt X.prog X.w X.K X.mg X.base C m k ps sp)(hr:X4 k X.A)(hx:X2 (CX1 X.prog X.w) X E)(ha:PA X (e :: es) t)
  (hst:starEach (e :: es) X.env=(false,eval e X.env) :: starEach es X.env:=by rfl) (hpl:(backTo pos (starEach es X.env)).any (·.1)=false:=by rfl)
  (ht:eval (.Call (.Attribute o m apos) (e :: es) [] pos) X.env=(do
   let ov <- eval o X.env
   standAt apos.atName
   let (f,first) <- holding [ov] (getMethod ov m pl)
   callWith pos f first (backTo pos (starEach (e :: es) X.env)) (backToKw pos (keywordEach [] X.env))):=by rfl):PE X (.Call (.Attribute o m apos) (e :: es) [] pos) (Hz C m sp [] E ta t):=by
 obtain⟨f,fd,F,hm,b⟩:=M;exact Bg he c hm F hr b .nil hx ha hst hpl ht
theorem Ya{pl:Sem Bool}(he:PE X o ta)(c:Cls X.K C)(M:Zt X.prog X.w X.K X.mg X.base C m k ps sp)(hr:X4 k X.A)(hx:X2 (CX1 X.prog X.w) X E)
  (ht:eval (.Call (.Attribute o m apos) [] [] pos) X.env=(do
   let ov <- eval o X.env
   standAt apos.atName
   let (f,first) <- holding [ov] (getMethod ov m pl)
   callWith pos f first (backTo pos (starEach [] X.env)) (backToKw pos (keywordEach [] X.env))):=by rfl):PE X (.Call (.Attribute o m apos) [] [] pos) (Hz C m sp [] E ta tNil):=by
 obtain⟨f,fd,F,hm,b⟩:=M;exact Dd he c hm F hr b .nil hx ht
theorem O3(M:V9 X.prog X.w X.K X.mg X.base x C k ps sp)(hr:X4 (k+1) X.A)(hx:X2 (CX1 X.prog X.w) X E)(hg:Gl X x)(ha:PA X (e :: es) t)(hdb:(x == ("__debug__":Str))=false:=by decide)
  (he:starEach (e :: es) X.env=(false,eval e X.env) :: starEach es X.env:=by rfl) (hpl:(backTo pos (starEach es X.env)).any (·.1)=false:=by rfl):PE X (.Call (.Name x p) (e :: es) [] pos) (Ga C sp [] E t):=by
 obtain⟨f,fd,F,mk,hm,b⟩:=M;exact Bh mk F hr hg hm b .nil hx ha hdb he hpl
theorem Gj(M:V9 X.prog X.w X.K X.mg X.base x C k ps sp)(hr:X4 (k+1) X.A)(hx:X2 (CX1 X.prog X.w) X E)(hg:Gl X x)(hdb:(x == ("__debug__":Str))=false:=by decide):PE X (.Call (.Name x p) [] [] pos) (Ga C sp [] E tNil):=by
 obtain⟨f,fd,F,mk,hm,b⟩:=M;exact De mk F hr hg hm b .nil hx hdb
theorem Y7{i:Int}(hg:Gl X x)(hm:∃ t,X.mg x=some (.int i t))(hd:(x == ("__debug__":Str))=false:=by decide):PE X (.Name x pos) (tC (.int i)):=by
 obtain⟨t,hm⟩:=hm;exact Hr hg hm ⟨t,rfl⟩ hd
theorem Yq(hg:Gl X x)(hm:X.mg x=some (.ref C))(hd:(x == ("__debug__":Str))=false:=by decide):PE X (.Name x pos) (tC (.ref C)):=Hr hg hm (show RelV (.ref C) (.ref C) from rfl) hd
end
inductive zce(te:TE)(D:Um)(σ:L2.St)(x:V)(H1:Hp):Prop where
 | mk(l)(xs)(_:x=.ref l)(_:H1 l=some (.lst xs))(_:te σ H1 fun y H2=>∃ ys,H2 l=some (.lst ys)/\ys.length<sizeLine/\D.nx σ (upd H2 l (.lst (ys++[y]))))
noncomputable def zcf(to te:TE):TS:=fun D σ H=>to σ H fun x H1=>zce te D σ x H1
theorem Xe{X:Cx}{o e:Expr}{to te:TE}{apos cpos pos:Pos}(ho:PE X o to)(he:PE X e te)(hbase:attributeBase o "append" X.env (eval o X.env)=eval o X.env:=by rfl)
  (hst:starEach [e] X.env=[(false,eval e X.env)]:=by rfl)
  (hline:(apos.endLine == cpos.line)=true:=by rfl) (hs:swapsWith (.Call (.Attribute o "append" apos) [e] [] cpos) none pos.line X.env=pure false:=by rfl):PS X (.Expr (.Call (.Attribute o "append" apos) [e] [] cpos) pos) (zcf to te):=by
 intro pins s σ H D I h;refine wpAny_Expr ?_ I.quiet;refine wpAny_Call_method_late hbase (by rw[hst];rfl) hline rfl (thn (ho pins s σ H _ I h) fun v s1 ⟨x,H1,I1,r1,l,xs,e1,hl,q1⟩=>?_);subst e1;obtain⟨h1,h2⟩:=Iu (T:="list") I1 r1 (.inl ⟨rfl,_,SqL.of hl⟩);refine⟨"list","list.append",PySem.F.plainAttrs_list,PySem.F.slot_list_append,PySem.F.type_list_append,h1,h2,?_⟩;rw[hst];refine Calls.callWith_builtin rfl (Calls.evalArgs_plain ?_);refine Calls.spliced_cons (thn (he pins s1 σ H1 _ I1 q1) fun u s2 ⟨y,H2,I2,r2,ys,hl2,hz,q2⟩=>Calls.spliced_nil ?_);refine thn (Fq pins s2 σ H2 (.ref l) [y] v [u] (fun v H3=>v=.non/\D.nx σ H3) I2 r1 (.cons r2 .nil) ⟨l,ys,y,rfl,rfl,hl2,hz,rfl,q2⟩) fun z s3 ⟨zv,H3,I3,rz,ez,q3⟩=>?_;subst ez;cases rz;exact⟨σ,H3,I3,q3⟩
section
variable{X:Cx}{K:Frag}
theorem D1(hK:X.K=K):IxR X (zal K):=hK▸Bs
theorem Bx(hK:X.K=K):IxR X (zam K):=hK▸zan
theorem Ma(hK:X.K=K):Vo X (.builtin "len") (fun xs H Q=>∃ p ys,xs=[.ref p]/\(SqL K H p ys\/SqT K H p ys)/\Q (.int ys.length) H):=hK▸Lr
theorem Y3(hK:X.K=K):Vo X (.type "list") (fun xs H Q=>∃ p ys,xs=[.ref p]/\(SqL K H p ys\/SqT K H p ys)/\∀ l,H l=none->Q (.ref l) (upd H l (.lst ys))):=hK▸Ls
theorem Z1(hK:X.K=K):Vo X (.builtin "isinstance") (rIsI K):=hK▸Dx
theorem Rg(hK:X.K=K):OpR X (compareOp .In) (rIn K false):=hK▸Fp
theorem Lz(hK:X.K=K)(hu:X.A.units+64<cLine):OpR X (compareOp .Eq) (Bw K false):=hK▸zaw hu
theorem Gk(hK:X.K=K)(hu:X.A.units+64<cLine):OpR X (compareOp .NotEq) (Bw K true):=hK▸zax hu
variable{o e l tg value a:Expr}{f:Str}{pos pos':Pos}{ta tv tl:TE}{es:List Expr}{k n:Nat}{t:TGs}
theorem Zm(hK:X.K=K)(he:PE X e ta)(hb:attributeBase e f X.env (eval e X.env)=eval e X.env):PE X (.Attribute e f pos) (zbv K ta f):=hK▸zaa he hb
theorem Yi(hK:X.K=K)(ha:PE X o ta)(hv:PE X value tv)(hs:swapsWith value (some (.Attribute o f pos')) pos.line X.env=pure false):PS X (.Assign [.Attribute o f pos'] value pos) (zbx K ta tv f):=hK▸zab ha hv hs
theorem Yw(hK:X.K=K)(hl:PE X l tl):PI X tg l (Ab K tl):=hK▸C9 hl
theorem Ui(hK:X.K=K)(hc:X.calm=true)(h:PGs X es t)(hn:(assignEach es X.env).length=n:=by rfl)(hst:(assignEach es X.env).findIdx? (·.1)=none:=by rfl):PG X (.Tuple es k pos) (zbm K n t):=hK▸A4 hc h hn hst
theorem M5(hK:X.K=K)(ha:PE X a ta)(he:∀ whole,isTrue a X.env whole=(do let v <- whole;standAt a.pos;holding [v] (truthy v))):PT X a (fun σ H Q=>ta σ H fun x H'=>∃ k,TruV K x H' k/\Q k H'):=hK▸E6 ha he
end
section
variable{X:Cx}{K:Frag}
theorem O4(hK:X.K=K):Vo X (.type "tuple") (fun xs H Q=>∃ p ys,xs=[.ref p]/\((SqL K H p ys/\∀ l,H l=none->Q (.ref l) (upd H l (.tup ys)))\/(SqT K H p ys/\Q (.ref p) H))):=hK▸N7
end
end L2
namespace G
open PySem PySem.Spec PyProof.Rows L2
theorem sz1:1<=sizeLine:=by decide
theorem sz2:2<=sizeLine:=by decide
theorem sz3:3<=sizeLine:=by decide
theorem sz4:4<=sizeLine:=by decide
theorem szN{n:Nat}(h:n<=1000):n<=sizeLine:=Nat.le_of_lt (Ux h)
theorem itD{p:Prop}[Decidable p]{A B:Prop}(h1:p->A)(h2:¬ p->B):if decide p=true then A else B:=by
 by_cases h:p
 ·rw[zq2 h,if_pos rfl];exact h1 h
 ·rw[zq5 h,if_neg ⋯];exact h2 h
theorem itB{b:Bool}{A B:Prop}(h1:b=true->A)(h2:b=false->B):if b=true then A else B:=by
 cases b
 ·exact iteF (h2 rfl)
 ·exact iteT (h1 rfl)
theorem O5{i j:Int}:decide (V.int i=V.int j)=decide (i=j):=by
 by_cases h:i=j
 ·subst h;simp
 ·rw[zq5 h,zq5 (fun z=>h (V.int.inj z))]
theorem itV{i j:Int}{A B:Prop}(h1:i=j->A)(h2:¬ i=j->B):if decide (V.int i=V.int j)=true then A else B:=by
 rw[O5];exact itD h1 h2
theorem Ze{H:Hp}{p:Addr}{o:HO}(h:H p=none):Same H (upd H p o):=fun b u e=>by rw[Zg (Zh e h)];exact e
noncomputable def Z0(i:Int):Prop:=i.natAbs.log2<1920
theorem Z5{i:Int}(h:i.natAbs<=10 ^ 60):Z0 i:=by
 unfold Z0;by_cases h0:i.natAbs=0
 ·rw[h0];decide
 ·exact(Nat.log2_lt h0).mpr (zr8 h ⋯)
theorem Zz{i:Int}(h:-1000<=i)(h':i<=1000):Z0 i:=Z5 (zro (show i.natAbs<=1000 by omega) ⋯)
theorem D2{t u:TT}{σ:L2.St}{H:Hp}{b c:Bool}(h1:∀ Q:Bool->Hp->Prop,Q b H->t σ H Q)(h2:∀ Q:Bool->Hp->Prop,Q c H->u σ H Q)(Q:Bool->Hp->Prop)(h:Q (b||c) H):tOr t u σ H Q:=by
 refine h1 _ ?_;cases b with
 | true=>exact h
 | false=>exact h2 _ h
theorem U9{t:TT}{A B:TS}{D:Um}{σ:L2.St}{H:Hp}{b:Bool}(h1:∀ Q:Bool->Hp->Prop,Q b H->t σ H Q)(h:if b=true then A D σ H else B D σ H):Ez t A B D σ H:=h1 _ h
theorem Vn{A B:TS}{D:Um}{σ:L2.St}{H:Hp}(h:A { D with nx:=B D } σ H):Z7 A B D σ H:=h
theorem Pm{c:TT}{t e u:TS}{D:Um}{σ:L2.St}{H:Hp}{b:Bool}(J:L2.St->Hp->Prop)(hc:∀ Q:Bool->Hp->Prop,Q b H->c σ H Q)(h1:b=true->∀ N:L2.St->Hp->Prop,(∀ σ' H',J σ' H'->N σ' H')->t { D with nx:=N } σ H)
  (h2:b=false->∀ N:L2.St->Hp->Prop,(∀ σ' H',J σ' H'->N σ' H')->e { D with nx:=N } σ H) (h3:∀ σ' H',J σ' H'->u D σ' H'):Z7 (Ez c t e) u D σ H:=by
 refine hc _ ?_;cases b with
 | true=>rw[if_pos rfl];exact h1 rfl _ h3
 | false=>rw[if_neg ⋯];exact h2 rfl _ h3
theorem Zq{D:Um}{σ:L2.St}{H:Hp}(h:D.nx σ H):Ey D σ H:=h
theorem O6{K:Frag}{C:Addr}{v:Value}{r:Bool}(e:PySem.W.mroIn K C v=some r):(PySem.W.clsIn K C).isSome=true:=by
 obtain⟨cd,h,_⟩:=Option.bind_eq_some_iff.mp e;rw[h];rfl
theorem zay(K:Frag):PySem.W.kitOne K (.type "int") (.type "int")=some true:=rfl
theorem zaz(K:Frag):PySem.W.kitOne K (.type "int") (.type "bool")=some false:=by with_unfolding_all rfl
theorem za0(K:Frag):PySem.W.kitOne K (.type "list") (.type "list")=some true:=rfl
inductive TupL(H:Hp):List V->List (List V)->Prop where
 | nil:TupL H [] []
 | cons {t:Addr} {r:List V} {ts:List V} {R:List (List V)} (h:H t=some (.tup r)) (q:TupL H ts R):TupL H (.ref t :: ts) (r :: R)
theorem TupL.mono{H H':Hp}(k:∀ t xs,H t=some (.tup xs)->H' t=some (.tup xs)):∀ {ts:List V} {R:List (List V)},TupL H ts R->TupL H' ts R
 | _,_,.nil=>.nil
 | _,_,.cons h r=>.cons (k _ _ h) (TupL.mono k r)
theorem TupL.same{H H':Hp}(e:Same H H'){ts:List V}{R:List (List V)}(h:TupL H ts R):TupL H' ts R:=h.mono fun t xs q=>e _ _ q
theorem TupL.length{H:Hp}:∀ {ts:List V} {R:List (List V)},TupL H ts R->ts.length=R.length
 | _,_,.nil=>rfl
 | _,_,.cons _ r=>by simp[TupL.length r]
theorem TupL.snoc{H:Hp}{t:Addr}{x:List V}(h:H t=some (.tup x)):∀ {ts:List V} {R:List (List V)},TupL H ts R->TupL H (ts++[.ref t]) (R++[x])
 | _,_,.nil=>.cons h .nil
 | _,_,.cons h' r=>.cons h' (TupL.snoc h r)
theorem TupL.get{H:Hp}:∀ {ts:List V} {R:List (List V)} {i:Nat} {x:V},TupL H ts R->ts[i]?=some x->∃ t r,x=.ref t/\R[i]?=some r/\H t=some (.tup r)
 | _,_,_,_,.nil,e=>by simp at e
 | _,_,0,_,.cons h _,e=>by simp at e;subst e;exact⟨_,_,rfl,rfl,h⟩
 | _,_,i+1,x,.cons _ r,e=>by
   obtain⟨t,n,h1,h2,h3⟩:=TupL.get (i:=i) (x:=x) r (by simpa using e);exact⟨t,n,h1,by simpa using h2,h3⟩
theorem TupL.getR{H:Hp}:∀ {ts:List V} {R:List (List V)} {i:Nat} {r:List V},TupL H ts R->R[i]?=some r->∃ t,ts[i]?=some (.ref t)/\H t=some (.tup r)
 | _,_,_,_,.nil,e=>by simp at e
 | _,_,0,_,.cons h _,e=>by simp at e;subst e;exact⟨_,rfl,h⟩
 | _,_,i+1,x,.cons _ r,e=>by
   obtain⟨t,h1,h2⟩:=TupL.getR (i:=i) (r:=x) r (by simpa using e);exact⟨t,by simpa using h1,h2⟩
inductive Gm(vs:List V)(H:Hp)(Q:VK)(_:XK):Prop where
 | mk(i)(_:vs=[.int i])(_:Q (.bl true) H)
noncomputable def X5(ns:List Int)(k:Nat):Int:=(ns[k]?).getD 0
inductive zcg(K:Frag)(vs:List V)(H:Hp)(Q:VK)(_:XK):Prop where
 | mk(b:Addr)(ns:List Int)(k:Nat)(_:vs=[.ref b,.int k])(_:SqL K H b (ns.map V.int))(_:Q (.int (X5 ns k)) H)
noncomputable def oneV(x:V):Prop:=x=.non\/∃ i,x=.int i
inductive Oh(vs:List V)(H:Hp)(Q:VK)(_:XK):Prop where
 | mk(x)(_:vs=[x,x])(_:oneV x)(_:Q (.bl true) H)
inductive O7(K:Frag)(vs:List V)(H:Hp)(Q:VK)(_:XK):Prop where
 | mk(b c:Addr)(xs:List V)(_:vs=[.ref b,.ref c])(_:H b=some (.lst xs))(_:SqL K H c xs)(_:(∀ x∈xs,oneV x))(_:xs.length<=1000)(_:Q (.bl true) H)
inductive Gn(K:Frag)(vs:List V)(H:Hp)(Q:VK)(_:XK):Prop where
 | mk(b:Addr)(ns:List Int)(_:vs=[.ref b])(_:SqL K H b (ns.map V.int))(_:ns.length<=63)(_:∀ H',Q (.bl true) H')
structure Row where
 h:Int
 g:Int
 d:Int
 w:Option Int
noncomputable def oV:Option Int->V
 | none=>.non
 | some n=>.int n
noncomputable def Qy(r:Row):List V:=[.int r.h,.int r.g,.int r.d,oV r.w]
theorem za1(o:Option Int):oneV (oV o):=by
 cases o with
 | none=>exact .inl rfl
 | some n=>exact .inr ⟨n,rfl⟩
theorem za2{H:Hp}{ts:List V}{rs:List Row}{i:Nat}{x:V}(h:TupL H ts (rs.map Qy))(e:ts[i]?=some x):∃ t r,x=.ref t/\rs[i]?=some r/\H t=some (.tup (Qy r)):=by
 obtain⟨t,r,h1,h2,h3⟩:=h.get e;rw[zq7] at h2;cases q:rs[i]? with
 | none=>rw[q] at h2;cases h2
 | some m=>rw[q] at h2;cases h2;exact⟨t,m,h1,rfl,h3⟩
noncomputable def hit(n c:Int)(r:Row):Bool:=decide (r.w=some n)&&(decide (r.h=c)||decide (r.g=c))
noncomputable def K7(n c:Int)(Rs:List (List Row)):Nat×Nat:=Rs.foldl (fun p rs=>(p.1+1,if rs.any (hit n c) then p.1+1 else p.2)) (0,0)
noncomputable def metS(Rs:List (List Row))(n c:Int):Nat:=(K7 n c Rs).2
theorem D3(n c:Int)(Rs:List (List Row)):(K7 n c Rs).1=Rs.length:=by
 have h:∀ (Rs:List (List Row)) (p:Nat×Nat),(Rs.foldl (fun p rs=>(p.1+1,if rs.any (hit n c) then p.1+1 else p.2)) p).1=p.1+Rs.length:=fun Rs=>by
  induction Rs with
  | nil=>intro p;rfl
  | cons r Rs ih=>intro p;rw[List.foldl_cons,ih,zrc];simp only;omega
 have:=h Rs (0,0);unfold K7;rw[this];simp
theorem Fx(Rs:List (List Row))(rs:List Row)(n c:Int):metS (Rs++[rs]) n c=if rs.any (hit n c) then Rs.length+1 else metS Rs n c:=by
 unfold metS;have e:K7 n c (Rs++[rs])=((K7 n c Rs).1+1,if rs.any (hit n c) then (K7 n c Rs).1+1 else (K7 n c Rs).2):=by
  unfold K7;rw[List.foldl_append];rfl
 rw[e,D3]
noncomputable def K8(kvs:List (List Key×V))(f:Int->Int->Nat):Prop:=∀ n c:Int,valV kvs [inl n,inl c]=if f n c=0 then none else some (.int (f n c))
inductive Ta(H:Hp):List V->List (List Row)->Prop where
 | nil:Ta H [] []
 | cons {t:Addr} {ts rs:List V} {r:List Row} {R:List (List Row)} (h:H t=some (.tup ts)) (q:TupL H ts (r.map Qy)) (n:Ta H rs R):Ta H (.ref t :: rs) (r :: R)
theorem Ta.mono{H H':Hp}(k:∀ t xs,H t=some (.tup xs)->H' t=some (.tup xs)):∀ {ts:List V} {R:List (List Row)},Ta H ts R->Ta H' ts R
 | _,_,.nil=>.nil
 | _,_,.cons h q r=>.cons (k _ _ h) (q.mono k) (Ta.mono k r)
theorem Ta.length{H:Hp}:∀ {ts:List V} {R:List (List Row)},Ta H ts R->ts.length=R.length
 | _,_,.nil=>rfl
 | _,_,.cons _ _ r=>by simp[Ta.length r]
theorem Ta.snoc{H:Hp}{t:Addr}{xs:List V}{x:List Row}(h:H t=some (.tup xs))(q:TupL H xs (x.map Qy)):∀ {ts:List V} {R:List (List Row)},Ta H ts R->Ta H (ts++[.ref t]) (R++[x])
 | _,_,.nil=>.cons h q .nil
 | _,_,.cons h' q' r=>.cons h' q' (Ta.snoc h q r)
theorem Ta.getR{H:Hp}:∀ {ts:List V} {R:List (List Row)} {i:Nat} {r:List Row},Ta H ts R->R[i]?=some r->∃ t xs,ts[i]?=some (.ref t)/\H t=some (.tup xs)/\TupL H xs (r.map Qy)
 | _,_,_,_,.nil,e=>by simp at e
 | _,_,0,_,.cons h q _,e=>by simp at e;subst e;exact⟨_,_,rfl,h,q⟩
 | _,_,i+1,x,.cons _ _ r,e=>by
   obtain⟨t,xs,h1,h2,h3⟩:=Ta.getR (i:=i) (r:=x) r (by simpa using e);exact⟨t,xs,by simpa using h1,h2,h3⟩
noncomputable def tot(Rs:List (List Row)):Nat:=(Rs.map List.length).sum
theorem D4(Rs:List (List Row))(rs:List Row):tot (Rs++[rs])=tot Rs+rs.length:=by unfold tot;rw[zre,List.sum_append];simp
structure W5(C:Addr)(H:Hp)(p lr ld:Addr)(Rs:List (List Row)):Prop where
 at_:∃ dx,H p=some (.ins C dx [("rounds",.ref lr),("meetings",.ref ld)])
 rd:∃ rs,H lr=some (.lst rs)/\Ta H rs Rs
 mt:∃ kvs,H ld=some (.dT kvs)/\K8 kvs (metS Rs)/\kvs.length<=2*tot Rs
theorem W5.same{C:Addr}{H H':Hp}{p lr ld:Addr}{Rs:List (List Row)}(h:W5 C H p lr ld Rs)(e:Same H H'):W5 C H' p lr ld Rs:=by
 obtain⟨⟨dx,h1⟩,⟨rs,h2,h3⟩,⟨kvs,h4,h5⟩⟩:=h;exact⟨⟨dx,e _ _ h1⟩,⟨rs,e _ _ h2,h3.mono fun t xs q=>e _ _ q⟩,⟨kvs,e _ _ h4,h5⟩⟩
theorem W5.keep{C:Addr}{H H':Hp}{p lr ld:Addr}{Rs:List (List Row)}(h:W5 C H p lr ld Rs)(ep:∀ o,H p=some o->H' p=some o)(er:∀ o,H lr=some o->H' lr=some o)(ed:∀ o,H ld=some o->H' ld=some o)(et:∀ t xs,H t=some (.tup xs)->H' t=some (.tup xs)):W5 C H' p lr ld Rs:=by
 obtain⟨⟨dx,h1⟩,⟨rs,h2,h3⟩,⟨kvs,h4,h5⟩⟩:=h;exact⟨⟨dx,ep _ h1⟩,⟨rs,er _ h2,h3.mono et⟩,⟨kvs,ed _ h4,h5⟩⟩
theorem Uy{x y:Addr}:List.lookup ("rounds":Str) ([("rounds",V.ref x),("meetings",V.ref y)]:List (Str×V))=some (.ref x):=by simp only[zrs,beq_self_eq_true]
theorem T2{x y:Addr}:List.lookup ("meetings":Str) ([("rounds",V.ref x),("meetings",V.ref y)]:List (Str×V))=some (.ref y):=by
 have e:(("meetings":Str) == "rounds")=false:=by decide +kernel
 simp only[zrs,e,beq_self_eq_true]
theorem O8{x y:Addr}{m:Str}(h:¬ m="rounds")(h':¬ m="meetings"):List.lookup m ([("rounds",V.ref x),("meetings",V.ref y)]:List (Str×V))=none:=by
 have e:(m == "rounds")=false:=zrf.mpr h;have e':(m == "meetings")=false:=zrf.mpr h';simp only[zrs,e,e',List.lookup_nil]
inductive Gp(C:Addr)(vs:List V)(H:Hp)(Q:VK)(_:XK):Prop where
 | mk(p)(dx)(_:vs=[.ref p])(_:H p=some (.ins C dx []))(_:∀ lr ld H',W5 C H' p lr ld []->(∀ b o,H b=some o->b≠p->H' b=some o)->H lr=none->H ld=none->lr≠ld->Q .non H')
inductive O9(C:Addr)(vs:List V)(H:Hp)(Q:VK)(_:XK):Prop where
 | mk(p)(lr)(ld)(Rs)(_:vs=[.ref p])(_:W5 C H p lr ld Rs)(_:Q (.int (Rs.length:Nat)) H)
inductive Gq(C N:Addr)(vs:List V)(H:Hp)(Q:VK)(E:XK):Prop where
 | mk(p)(lr)(ld)(Rs)(i)(_:vs=[.ref p,.int i])(_:W5 C H p lr ld Rs)(_:Z0 i)(_:(i<1\/(Rs.length:Int)<i->E (.ref N) none H))(_:∀ (k:Nat) r,i=(k:Int)+1->Rs[k]?=some r->∀ l ts,H l=none->TupL H ts (r.map Qy)->Q (.ref l) (upd H l (.lst ts)))
inductive Am(C:Addr)(vs:List V)(H:Hp)(Q:VK)(_:XK):Prop where
 | mk(p)(lr)(ld)(Rs)(n)(c)(_:vs=[.ref p,.int n,.int c])(_:W5 C H p lr ld Rs)(_:∀ H',Same H H'->Q (.int (metS Rs n c:Nat)) H')
theorem Sk{n c n' c':Int}:([inl n,inl c]:List Key)=[inl n',inl c']↔n=n'/\c=c':=by
 constructor
 ·intro h;injection h with h1 h2;injection h2 with h2 _;exact⟨inl.inj h1,inl.inj h2⟩
 ·rintro⟨rfl,rfl⟩;rfl
theorem K8.put{kvs:List (List Key×V)}{f:Int->Int->Nat}(h:K8 kvs f)(n c:Int)(t:Nat)(ht:0<t):K8 (putK kvs [inl n,inl c] (.int t)) (fun n' c'=>if n'=n/\c'=c then t else f n' c'):=fun n' c'=>by
 rw[Uv];show _=if (if n'=n/\c'=c then t else f n' c')=0 then none else some (V.int ((if n'=n/\c'=c then t else f n' c':Nat):Int))
 by_cases e:n'=n/\c'=c
 ·rw[if_pos e,if_pos (Sk.mpr e),if_neg ⋯]
 ·rw[if_neg (fun z=>e (Sk.mp z)),if_neg e];exact h n' c'
noncomputable def Qz(Rs:List (List Row))(rs:List Row)(i:Nat)(n c:Int):Nat:=if (rs.take i).any (hit n c) then Rs.length+1 else metS Rs n c
theorem Fy(Rs:List (List Row))(rs:List Row):Qz Rs rs 0=metS Rs:=by funext n c;unfold Qz;simp
theorem D5(Rs:List (List Row))(rs:List Row):Qz Rs rs rs.length=metS (Rs++[rs]):=by funext n c;unfold Qz;rw[zrm,Fx]
theorem M6{Rs:List (List Row)}{rs:List Row}{i:Nat}{r:Row}(e:rs[i]?=some r)(n c:Int):Qz Rs rs (i+1) n c=if hit n c r then Rs.length+1 else Qz Rs rs i n c:=by
 unfold Qz;rw[zry,e,List.any_append];cases h1:(rs.take i).any (hit n c)<;>cases h2:hit n c r<;>simp[h2]
theorem Fz{Rs:List (List Row)}{rs:List Row}{i:Nat}{r:Row}(e:rs[i]?=some r)(h:r.w=none):Qz Rs rs (i+1)=Qz Rs rs i:=by
 funext n c
 rw[M6 e];have:hit n c r=false:=by unfold hit;rw[h];simp
 rw[this];simp
theorem Ea{Rs:List (List Row)}{rs:List Row}{i:Nat}{r:Row}{w:Int}(e:rs[i]?=some r)(h:r.w=some w) :
  (fun n c=>if n=w/\c=r.g then Rs.length+1 else (fun n c=>if n=w/\c=r.h then Rs.length+1 else Qz Rs rs i n c) n c)=Qz Rs rs (i+1):=by
 funext n c
 rw[M6 e];unfold hit;rw[h];show (if n=w/\c=r.g then Rs.length+1 else if n=w/\c=r.h then Rs.length+1 else Qz Rs rs i n c)=_;by_cases h1:n=w
 ·subst h1;by_cases h2:r.g=c
  ·rw[if_pos ⟨rfl,h2.symm⟩,if_pos (by simp[h2])]
  ·rw[if_neg (fun z=>h2 z.2.symm)];by_cases h3:r.h=c
   ·rw[if_pos ⟨rfl,h3.symm⟩,if_pos (by simp[h3])]
   ·rw[if_neg (fun z=>h3 z.2.symm),if_neg (by simp[h2,h3])]
 ·rw[if_neg (fun z=>h1 z.1),if_neg (fun z=>h1 z.1),if_neg (by simp;intro z;exact absurd z.symm h1)]
theorem D6{C:Addr}{H1 H':Hp}{x dx lr ld:Addr}(hx:H1 x=none)(hdx:H1 dx=none)(ne:dx≠x)(k:∀ b o,upd (upd H1 dx (.own x)) x (.ins C dx []) b=some o->b≠x->H' b=some o)
  (h1:upd (upd H1 dx (.own x)) x (.ins C dx []) lr=none) (h2:upd (upd H1 dx (.own x)) x (.ins C dx []) ld=none):Same H1 H'/\H1 lr=none/\H1 ld=none:=by
 have fr:∀ {l:Addr},upd (upd H1 dx (.own x)) x (.ins C dx []) l=none->H1 l=none:=fun {l} q=>by
  have n1:l≠x:=fun z=>by rw[z,Zb] at q;cases q
  have n2:l≠dx:=fun z=>by rw[z,Zg ne,Zb] at q;cases q
  rw[Zg n1,Zg n2] at q;exact q
 refine⟨fun b o e=>k b o ?_ (Zh e hx),fr h1,fr h2⟩;rw[Zg (Zh e hx),Zg (Zh e hdx)];exact e
theorem zch{lr ld:Addr}:putF "meetings" (V.ref ld) [(("rounds":Str),V.ref lr)]=[(("rounds":Str),V.ref lr),(("meetings":Str),V.ref ld)]:=by
 show (if ("rounds":Str)="meetings" then _ else _)=_;rw[if_neg ⋯];rfl
theorem Wf{H H':Hp}{l:Addr}{o:HO}(h:H l=none)(s:Same H H'):Same H (upd H' l o):=fun b u e=>by
 rw[Zg (Zh e h)];exact s b u e
theorem D7{x:V}(h:oneV x):Uw x=true:=by rcases h with rfl|⟨i,rfl⟩<;>rfl
inductive RLs(H:Hp):List Addr->List (List Row)->Prop where
 | nil:RLs H [] []
 | cons {l:Addr} {ts:List V} {ls:List Addr} {r:List Row} {R:List (List Row)} (h:H l=some (.lst ts)) (q:TupL H ts (r.map Qy)) (n:RLs H ls R):RLs H (l :: ls) (r :: R)
structure L1(C:Addr)(H0:Hp)(p lr ld kR:Addr)(ls:List Addr)(R S:List (List Row))(H:Hp):Prop where
 base:Same H0 H
 led:W5 C H p lr ld R
 krs:H kR=some (.lst (ls.map V.ref))
 rls:RLs H ls S
 sep:∀ l∈ls,l≠lr/\l≠kR
structure C1(H0:Hp)(lr ld kR:Addr):Prop where
 fr:H0 lr=none
 fd:H0 ld=none
 fk:H0 kR=none
 rk:lr≠kR
noncomputable def K9(Rs:List (List Row))(n c rest:Int):Bool:=decide ((if (0:Int)>(Rs.length:Nat)-rest then 0 else ((Rs.length:Nat):Int)-rest)<(metS Rs n c:Nat))
inductive Ja(C:Addr)(vs:List V)(H:Hp)(Q:VK)(_:XK):Prop where
 | mk(p)(lr)(ld)(Rs)(n)(c)(rest)(_:vs=[.int n,.int c,.ref p,.int rest])(_:W5 C H p lr ld Rs)(_:∀ H',Same H H'->Q (.bl (K9 Rs n c rest)) H')
noncomputable def bw(b:Bool)(w:Str):List Str:=if b then [w] else []
noncomputable def L6(Rs:List (List Row))(n g c h gu d:Int)(o:Bool)(rest:Int):List Str :=
 bw o "away"++(bw (decide (g<d)) "grade"++(bw (decide (c=h)||decide (c=gu)) "club"++bw (K9 Rs n h rest||K9 Rs n gu rest) "met"))
inductive M7(K:Frag)(C:Addr)(vs:List V)(H:Hp)(Q:VK)(_:XK):Prop where
 | mk(t1 t2 p lr ld:Addr)(Rs:List (List Row))(n g c h gu d rest:Int)(o:Bool)(_:vs=[.ref t1,.ref t2,.bl o,.ref p,.int rest])(_:H t1=some (.tup [.int n,.int g,.int c]))(_:H t2=some (.tup [.int h,.int gu,.int d]))(_:W5 C H p lr ld Rs)(_:∀ l H',H' l=some (.lst ((L6 Rs n g c h gu d o rest).map V.str))->Same H H'->H l=none->Q (.ref l) H')
noncomputable def Gr(c:TT)(σ:L2.St)(H:Hp)(b:Bool):Prop:=∀ Q:Bool->Hp->Prop,(∀ H1,Same H H1->Q b H1)->c σ H Q
theorem D8{t u:TT}{σ:L2.St}{H:Hp}{b c:Bool}(h1:Gr t σ H b)(h2:∀ H1,Same H H1->Gr u σ H1 c):Gr (tOr t u) σ H (b||c):=fun Q h=>by
 refine h1 _ fun H1 s1=>?_;cases b with
 | true=>exact h H1 s1
 | false=>exact h2 H1 s1 _ fun H2 s2=>h H2 (s1.trans s2)
theorem L7{c:TT}{σ:L2.St}{H:Hp}{b:Bool}(h:∀ Q:Bool->Hp->Prop,Q b H->c σ H Q):Gr c σ H b:=fun Q q=>h Q (q H (Same.refl H))
theorem Oi{c:TT}{u:TS}{D:Um}{σ:L2.St}{H0 H:Hp}{b:Bool}{l:Addr}{i:Nat}{xs:List Str}{w:Str}(hc:Gr c σ H b)(h0:H0 l=none)(s:Same H0 H)(hl:H l=some (.lst (xs.map V.str)))(hx:xs.length<=100)(hv:σ[i]?=some (some (.ref l)))
  (h3:∀ H',Same H0 H'->H' l=some (.lst ((xs++bw b w).map V.str))->(∀ b o,H b=some o->b≠l->H' b=some o)->u D σ H'):Z7 (Ez c (zcf (tVar i) (tC (.str w))) Ey) u D σ H:=by
 refine hc _ fun H1 s1=>?_;have hl1:=s1 _ _ hl;cases b with
 | true =>
   rw[if_pos rfl];refine⟨_,hv,l,_,rfl,hl1,_,hl1,Ux (by rw[zqx];omega),?_⟩;refine h3 _ (Wf h0 (s.trans s1)) ?_ fun b o e n=>by rw[Zg n];exact s1 _ _ e
   rw[Zb,zre];rfl
 | false =>
   rw[if_neg ⋯];exact h3 _ (s.trans s1) (by rw[show bw false w=[] from rfl,List.append_nil];exact hl1) fun b o e _=>s1 _ _ e
theorem I9(b:Bool)(w:Str):(bw b w).length<=1:=by cases b<;>simp[bw]
end G
namespace G
open PySem PySem.Spec PyProof.Rows L2
noncomputable abbrev P3:=Int×Int×Int
noncomputable def pV(m:P3):List V:=[.int m.1,.int m.2.1,.int m.2.2]
theorem D9{H:Hp}{ts:List V}{Ms:List P3}{i:Nat}{x:V}(h:TupL H ts (Ms.map pV))(e:ts[i]?=some x):∃ t m,x=.ref t/\Ms[i]?=some m/\H t=some (.tup (pV m)):=by
 obtain⟨t,r,h1,h2,h3⟩:=h.get e;rw[zq7] at h2;cases q:Ms[i]? with
 | none=>rw[q] at h2;cases h2
 | some m=>rw[q] at h2;cases h2;exact⟨t,m,h1,rfl,h3⟩
theorem TupL.reverse{H:Hp}:∀ {ts:List V} {R:List (List V)},TupL H ts R->TupL H ts.reverse R.reverse
 | _,_,.nil=>.nil
 | _,_,.cons h q=>by rw[zse,zse];exact(TupL.reverse q).snoc h
noncomputable def T3(Rs:List (List Row))(h gu d:Int)(os:List V)(rest:Int)(m:P3):Bool:=(L6 Rs m.1 m.2.1 m.2.2 h gu d (inV (.int m.1) os) rest).isEmpty
inductive Jb(K:Frag)(C:Addr)(vs:List V)(H:Hp)(Q:VK)(_:XK):Prop where
 | mk(lp lo tm p lr ld:Addr)(Rs:List (List Row))(ts:List V)(Ms:List P3)(os:List V)(h gu d rest:Int)(_:vs=[.ref lp,.ref tm,.ref lo,.ref p,.int rest])(_:H lp=some (.lst ts))(_:TupL H ts (Ms.map pV))(_:H lo=some (.lst os))(_:(∀ x∈os,oneV x))(_:H tm=some (.tup [.int h,.int gu,.int d]))(_:W5 C H p lr ld Rs)(_:Ms.length<=1000)(_:∀ l H',H' l=some (.lst ((Ms.filter (T3 Rs h gu d os rest)).map fun m=>V.int m.1))->Same H H'->H l=none->Q (.ref l) H')
theorem L8{js:List Nat}{tt:TT}{te:TE}{lo:Int}{n:Nat}{σ:L2.St}{H:Hp}{Q:VK}(p:Nat->Bool)(f:Nat->V)(hz:n<=1000)
  (ht:∀ (i:Nat) (R:Bool->Hp->Prop),i<n->R (p i) H->tt (cs js σ (.int (lo+i))) H R) (hs:∀ (i:Nat) (R:VK),i<n->p i=true->R (f i) H->te (cs js σ (.int (lo+i))) H R)
  (hd:∀ q,H q=none->Q (.ref q) (upd H q (.lst (((List.range n).filter p).map f)))):Gf (Itr lo n) js tt te σ H Q:=by
 refine O1 (fun i ys H'=>H'=H/\ys=((List.range i).filter p).map f) ⟨rfl,rfl⟩ (szN hz) (fun i ys H' ⟨_,e⟩=>by rw[e,zqx];exact zro (zsd _ _) (by rw[zr9];exact zq1 _)) (fun i ys H' hi ⟨e1,e2⟩=>?_) fun ys H' ⟨e1,e2⟩ q hq=>?_
 ·subst e1;refine ht i _ hi ?_;have e3:((List.range (i+1)).filter p).map f=ys++(if p i then [f i] else []):=by
   rw[e2,List.range_succ,List.filter_append,zre];cases hp:p i<;>simp[hp]
  cases hp:p i with
  | true =>
    rw[if_pos rfl];refine hs i _ hi hp ⟨rfl,?_⟩;rw[e3,hp];rfl
  | false =>
    rw[if_neg ⋯];refine⟨rfl,?_⟩;rw[e3,hp];simp
 ·subst e1;rw[e2];exact hd q hq
noncomputable def An(xs:List V):List Nat:=(List.range xs.length).filter fun i=>decide (xs[i]?=some .non)
noncomputable def Wk(xs:List V)(n:Int):Option Nat:=(List.range xs.length).find? fun i=>decide (xs[i]?=some (.int n))
noncomputable def oN:Option Nat->V
 | none=>.non
 | some i=>.int i
inductive M8(K:Frag)(vs:List V)(H:Hp)(Q:VK)(_:XK):Prop where
 | mk(b:Addr)(xs:List V)(n:Int)(_:vs=[.ref b,.int n])(_:H b=some (.lst xs))(_:(∀ x∈xs,oneV x))(_:xs.length<=100)(_:∀ H',Same H H'->Q (oN (Wk xs n)) H')
noncomputable def Yo:List (Nat×Option Int)->List V->List V
 | [],xs=>xs
 | (p,w) :: r,xs=>Yo r (xs.set p (oV w))
noncomputable def W6(s:Nat×Option Int):List V:=[.int (s.1:Nat),oV s.2]
inductive Q0(K:Frag)(vs:List V)(H:Hp)(Q:VK)(_:XK):Prop where
 | mk(b c:Addr)(xs ts:List V)(st:List (Nat×Option Int))(_:vs=[.ref b,.ref c])(_:H b=some (.lst xs))(_:H c=some (.lst ts))(_:TupL H ts (st.map W6))(_:(∀ s∈st,s.1<xs.length))(_:(∀ x∈xs,oneV x))(_:xs.length<=100)(_:st.length<=100)(_:∀ l H',H' l=some (.lst (Yo st xs))->Same H H'->H l=none->Q (.ref l) H')
theorem Xw:∀ (st:List (Nat×Option Int)) (xs:List V),(Yo st xs).length=xs.length
 | [],_=>rfl
 | (p,w) :: r,xs=>by rw[Yo,Xw r,zr5]
end G
namespace G
open PySem PySem.Spec PyProof.Rows L2
inductive ILs(H:Hp):List Addr->List (List Int)->Prop where
 | nil:ILs H [] []
 | cons {l:Addr} {ls:List Addr} {r:List Int} {R:List (List Int)} (h:H l=some (.lst (r.map V.int))) (n:ILs H ls R):ILs H (l :: ls) (r :: R)
theorem ILs.keep{H H':Hp}:∀ {ls:List Addr} {R:List (List Int)},(∀ l∈ls,∀ o,H l=some o->H' l=some o)->ILs H ls R->ILs H' ls R
 | _,_,_,.nil=>.nil
 | _,_,k,.cons h r=>.cons (k _ zrq _ h) (ILs.keep (fun l hl=>k l (zrh _ hl)) r)
theorem ILs.same{H H':Hp}(e:Same H H'){ls:List Addr}{R:List (List Int)}(h:ILs H ls R):ILs H' ls R:=h.keep fun l _ o q=>e _ _ q
theorem ILs.length{H:Hp}:∀ {ls:List Addr} {R:List (List Int)},ILs H ls R->ls.length=R.length
 | _,_,.nil=>rfl
 | _,_,.cons _ r=>by simp[ILs.length r]
theorem ILs.snoc{H:Hp}{l:Addr}{x:List Int}(h:H l=some (.lst (x.map V.int))):∀ {ls:List Addr} {R:List (List Int)},ILs H ls R->ILs H (ls++[l]) (R++[x])
 | _,_,.nil=>.cons h .nil
 | _,_,.cons h' r=>.cons h' (ILs.snoc h r)
theorem ILs.has{H:Hp}:∀ {ls:List Addr} {R:List (List Int)} {l:Addr},ILs H ls R->l∈ls->∃ xs,H l=some (.lst xs)
 | _,_,_,.nil,e=>by simp at e
 | _,_,_,.cons h r,e=>by
   rcases zq0.mp e with rfl|e
   ·exact⟨_,h⟩
   ·exact ILs.has r e
theorem ILs.getR{H:Hp}:∀ {ls:List Addr} {R:List (List Int)} {i:Nat} {r:List Int},ILs H ls R->R[i]?=some r->∃ l,ls[i]?=some l/\H l=some (.lst (r.map V.int))
 | _,_,_,_,.nil,e=>by simp at e
 | _,_,0,_,.cons h _,e=>by simp at e;subst e;exact⟨_,rfl,h⟩
 | _,_,i+1,x,.cons _ r,e=>by
   obtain⟨t,h1,h2⟩:=ILs.getR (i:=i) (r:=x) r (by simpa using e);exact⟨t,by simpa using h1,h2⟩
structure Na(rows:List (List Int))(nu:List Int):Prop where
 few:rows.length<=20
 crowd:nu.length<=30
 inj:nu.Nodup
 rng:∀ n∈nu,1<=n/\n<=999
 sub:∀ r∈rows,r.Nodup/\∀ n∈r,n∈nu
structure Yx(rows:List (List Int))(gs:List V):Prop where
 len:gs.length=rows.length
 one:∀ x∈gs,oneV x
 may:∀ (k:Nat) (n:Int),gs[k]?=some (.int n)->∃ r,rows[k]?=some r/\n∈r
 inj:∀ (j k:Nat) (n:Int),gs[j]?=some (.int n)->gs[k]?=some (.int n)->j=k
noncomputable def Sl(rows:List (List Int))(gs:List V)(p:Nat):Prop:=∃ S:Nat->Prop,S p/\∀ q,S q->q<rows.length/\∀ r,rows[q]?=some r->∀ n∈r,∃ q',q' < p/\gs[q']?=some (.int n)/\S q'
noncomputable def Q3(rows:List (List Int))(gs:List V):Prop:=∀ p,gs[p]?=some .non->Sl rows gs p
inductive Ca(K:Frag)(vs:List V)(H:Hp)(Q:VK)(_:XK):Prop where
 | mk(l:Addr)(ls:List Addr)(rows:List (List Int))(nu:List Int)(_:vs=[.ref l])(_:H l=some (.lst (ls.map V.ref)))(_:ILs H ls rows)(_:Na rows nu)(_:∀ l' gs H',H' l'=some (.lst gs)->Yx rows gs->Q3 rows gs->Same H H'->H l'=none->Q (.ref l') H')
theorem Gs{n:Int}{r:List Int}:inV (.int n) (r.map V.int)=decide (n∈r):=by
 induction r with
 | nil=>rfl
 | cons x r ih =>
   unfold inV at ih ⊢;rw[zq8,zsk,ih];have e:eqV (.int x) (.int n)=decide (n=x):=by
    show (x == n)=_;by_cases h:n=x
    ·subst h;simp
    ·rw[zq5 h];exact zrf.mpr (Ne.symm h)
   rw[e];by_cases h:n=x
   ·subst h;simp
   ·by_cases h2:n∈r<;>simp[h,h2]
theorem Eb(r:List Int):(r.map V.int).all Uw=true:=by
 rw[List.all_map];exact List.all_eq_true.mpr fun _ _=>rfl
end G
namespace G
open PySem PySem.Spec PyProof.Rows L2
noncomputable def newS(st:List (Nat×Option Int))(k:Nat):List V:=(st.filter fun s=>decide (s.1=k)).map fun s=>oV s.2
theorem M9:∀ (st:List (Nat×Option Int)) (xs:List V) (k:Nat),(st.map (·.1)).Nodup->k<xs.length->(Yo st xs)[k]?=some ((newS st k++[xs.getD k .non]).getD 0 .non)
 | [],xs,k,_,hk=>by
   rw[Yo,zqy hk];show _=some (xs.getD k .non);rw[zrp,zqy hk];rfl
 | (p,w) :: r,xs,k,nd,hk=>by
   rw[zq8,zrl] at nd;rw[Yo,M9 r _ k nd.2 (by rw[zr5];exact hk)];by_cases h:p=k
   ·subst h;have e:newS r p=[]:=by
     unfold newS;rw[List.map_eq_nil_iff,List.filter_eq_nil_iff];intro s hs z;exact nd.1 (zrg.mpr ⟨s,hs,of_decide_eq_true z⟩)
    have e2:newS ((p,w) :: r) p=oV w :: newS r p:=by
     unfold newS;rw[zr2,if_pos (zq2 rfl),zq8]
    rw[e2,e];show some ((xs.set p (oV w)).getD p .non)=some (oV w);rw[zrp,zrw hk];rfl
   ·have e2:newS ((p,w) :: r) k=newS r k:=by
     unfold newS;rw[zr2,if_neg (by rw[zq5 h];decide)]
    rw[e2];have e3:(xs.set p (oV w)).getD k .non=xs.getD k .non:=by
     rw[zrp,zrp,zrx h]
    rw[e3]
section
variable{rows:List (List Int)}{gs:List V}
noncomputable def adjN(rows:List (List Int))(gs:List V)(q:Nat)(n:Int)(q':Nat):Prop:=(∃ r,rows[q]?=some r/\n∈r)/\gs[q']?=some (.int n)
noncomputable def Rh(rows:List (List Int))(gs:List V)(q:Nat)(n:Int):Prop:=(∃ r,rows[q]?=some r/\n∈r)/\∀ j:Nat,gs[j]?≠some (V.int n)
noncomputable def Vs(rows:List (List Int))(gs:List V)(q:Nat):Prop:=∃ n,Rh rows gs q n
inductive Walk(rows:List (List Int))(gs:List V)(p:Nat):Nat->Nat->Prop where
 | nil:Walk rows gs p p 0
 | snoc {q q' k:Nat} {n:Int} (h:Walk rows gs p q k) (a:adjN rows gs q n q'):Walk rows gs p q' (k+1)
theorem Walk.cons{p p' q k:Nat}{n:Int}(a:adjN rows gs p n p')(h:Walk rows gs p' q k):Walk rows gs p q (k+1):=by
 induction h with
 | nil=>exact .snoc .nil a
 | snoc _ a' ih=>exact .snoc ih a'
inductive Ch(rows:List (List Int))(gs:List V):Nat->List (Nat×Option Int)->Nat->Option Int->Prop where
 | one (q:Nat) (w:Option Int):Ch rows gs q [(q,w)] q w
 | step {q q' e:Nat} {n:Int} {st:List (Nat×Option Int)} {w:Option Int} (a:adjN rows gs q n q') (h:Ch rows gs q' st e w):Ch rows gs q ((q,some n) :: st) e w
theorem Ch.pos{q e:Nat}{st:List (Nat×Option Int)}{w:Option Int}(h:Ch rows gs q st e w):0<st.length:=by cases h<;>simp
theorem Ch.walk{q e:Nat}{st:List (Nat×Option Int)}{w:Option Int}(h:Ch rows gs q st e w):Walk rows gs q e (st.length-1):=by
 induction h with
 | one q w=>exact .nil
 | step a h ih =>
   have:=h.pos;have e:=Walk.cons a ih;rw[zrc,Nat.add_sub_cancel];rw[Nat.sub_add_cancel this] at e;exact e
theorem Ch.drop{q e:Nat}{st:List (Nat×Option Int)}{w:Option Int}(h:Ch rows gs q st e w):∀ x∈st.map (·.1),∃ st',Ch rows gs x st' e w/\st'.length<=st.length:=by
 induction h with
 | one q w=>intro x hx;simp at hx;subst hx;exact⟨_,.one _ _,zq1 _⟩
 | @step q q' e n st w a h ih =>
   intro x hx;rw[zq8] at hx;rcases zq0.mp hx with z|z
   ·subst z;exact⟨_,.step a h,zq1 _⟩
   ·obtain⟨st',h1,h2⟩:=ih x z;exact⟨st',h1,by rw[zrc];omega⟩
theorem Ch.hd{q e:Nat}{st:List (Nat×Option Int)}{w:Option Int}(h:Ch rows gs q st e w):∃ x r,st=(q,x) :: r:=by cases h<;>exact⟨_,_,rfl⟩
theorem Ch.last{q e:Nat}{st:List (Nat×Option Int)}{w:Option Int}(h:Ch rows gs q st e w):e∈st.map (·.1):=by
 induction h with
 | one q w=>simp
 | step a h ih=>rw[zq8];exact zrh _ ih
theorem Ch.nodup{q e:Nat}{st:List (Nat×Option Int)}{w:Option Int}(h:Ch rows gs q st e w)(hm:∀ k,Walk rows gs q e k->st.length<=k+1):(st.map (·.1)).Nodup:=by
 induction h with
 | one q w=>simp
 | @step q q' e n st w a h ih =>
   rw[zq8,zrl];refine⟨fun hq=>?_,ih fun k hk=>?_⟩
   ·obtain⟨st',h1,h2⟩:=h.drop q hq;have:=hm _ h1.walk;have:=h1.pos;rw[zrc] at *;omega
   ·have:=hm _ (Walk.cons a hk);rw[zrc] at this;omega
theorem Ch.mem{q e:Nat}{st:List (Nat×Option Int)}{w:Option Int}(h:Ch rows gs q st e w):∀ (k:Nat) (n:Int),(k,some n)∈st->(adjN rows gs k n k\/True)/\(((∃ r,rows[k]?=some r/\n∈r)/\∃ k',gs[k']?=some (V.int n)/\k'∈st.tail.map (·.1))\/(w=some n/\k=e)):=by
 induction h with
 | one q w =>
   intro k n hk;simp at hk;exact⟨.inr trivial,.inr ⟨hk.2.symm,hk.1⟩⟩
 | @step q q' e n' st w a h ih =>
   intro k n hk;refine⟨.inr trivial,?_⟩;rcases zq0.mp hk with z|z
   ·cases z;refine .inl ⟨a.1,q',a.2,?_⟩;obtain⟨x,r,e⟩:=h.hd;rw[e];simp
   ·rcases(ih k n z).2 with ⟨h1,k',h2,h3⟩|h1
    ·refine .inl ⟨h1,k',h2,?_⟩;show k'∈st.map (·.1);obtain⟨x,r,e⟩:=h.hd;rw[e] at h3 ⊢;exact zrh _ h3
    ·exact .inr h1
theorem Ch.inj{q e:Nat}{st:List (Nat×Option Int)}{w:Option Int}(FP:Yx rows gs)(h:Ch rows gs q st e w)(hw:∀ n,w=some n->∀ j:Nat,gs[j]?≠some (V.int n))(nd:(st.map (·.1)).Nodup):∀ (j k:Nat) (n:Int),(j,some n)∈st->(k,some n)∈st->j=k:=by
 induction h with
 | one q w=>intro j k n h1 h2;simp at h1 h2;rw[h1.1,h2.1]
 | @step q q' e n' st w a h ih =>
   intro j k n h1 h2;rw[zq8,zrl] at nd;have key:∀ k,(k,some n')∈st->False:=fun k hk=>by
    rcases(h.mem k n' hk).2 with ⟨_,k',h2,h3⟩|⟨h1,_⟩
    ·have e:k'=q':=FP.inj k' q' n' h2 a.2;subst e;obtain⟨x,r,e⟩:=h.hd;have nd2:=nd.2;rw[e] at nd2 h3;rw[zq8,zrl] at nd2;exact nd2.1 h3
    ·exact hw n' h1 q' a.2
   rcases zq0.mp h1 with z1|z1<;>rcases zq0.mp h2 with z2|z2
   ·cases z1;cases z2;rfl
   ·cases z1;exact(key k z2).elim
   ·cases z2;exact(key j z1).elim
   ·exact ih hw nd.2 j k n z1 z2
theorem Cb{st:List (Nat×Option Int)}{k:Nat}(nd:(st.map (·.1)).Nodup):(k∉st.map (·.1)/\newS st k=[])\/∃ w,(k,w)∈st/\newS st k=[oV w]:=by
 induction st with
 | nil=>exact .inl ⟨by simp,rfl⟩
 | cons s r ih =>
   obtain⟨p,w⟩:=s;rw[zq8,zrl] at nd;by_cases h:p=k
   ·subst h;refine .inr ⟨w,zrq,?_⟩;rcases ih nd.2 with ⟨_,e⟩|⟨w',h1,_⟩
    ·have e2:newS ((p,w) :: r) p=oV w :: newS r p:=by
      unfold newS;rw[zr2,if_pos (zq2 rfl),zq8]
     rw[e2,e]
    ·exact absurd (zrg.mpr ⟨_,h1,rfl⟩) nd.1
   ·have e2:newS ((p,w) :: r) k=newS r k:=by
     unfold newS;rw[zr2,if_neg (by rw[zq5 h];decide)]
    rw[e2];rcases ih nd.2 with ⟨h1,e⟩|⟨w',h1,e⟩
    ·exact .inl ⟨fun z=>by rcases zq0.mp z with q|q;exact h q.symm;exact h1 q,e⟩
    ·exact .inr ⟨w',zrh _ h1,e⟩
theorem T4{st:List (Nat×Option Int)}{xs:List V}{k:Nat}(nd:(st.map (·.1)).Nodup)(hk:k<xs.length):(k∉st.map (·.1)/\(Yo st xs)[k]?=xs[k]?)\/∃ w,(k,w)∈st/\(Yo st xs)[k]?=some (oV w):=by
 rw[M9 st xs k nd hk];rcases Cb (k:=k) nd with ⟨h,e⟩|⟨w,h,e⟩
 ·refine .inl ⟨h,?_⟩;rw[e];show some (xs.getD k .non)=_;rw[zrp,zqy hk];rfl
 ·exact .inr ⟨w,h,by rw[e];rfl⟩
theorem Ch.lt{q e:Nat}{st:List (Nat×Option Int)}{w:Option Int}(FP:Yx rows gs)(h:Ch rows gs q st e w)(hq:q<rows.length):∀ s∈st,s.1<rows.length:=by
 induction h with
 | one q w=>intro s hs;simp at hs;subst hs;exact hq
 | @step q q' e n st w a h ih =>
   intro s hs;rcases zq0.mp hs with z|z
   ·subst z;exact hq
   ·refine ih ?_ s z;have:=(zqz.mp a.2).1;rw[FP.len] at this;exact this
theorem Ch.fill{q e:Nat}{st:List (Nat×Option Int)}{w:Option Int}(FP:Yx rows gs)(h:Ch rows gs q st e w)(hq:q<rows.length)(hw:∀ n,w=some n->Rh rows gs e n)(nd:(st.map (·.1)).Nodup):Yx rows (Yo st gs):=by
 have hlt:=h.lt FP hq;have hinj:=h.inj FP (fun n hn=>(hw n hn).2) nd;have src:∀ (k:Nat) (n:Int),(k,some n)∈st->(∃ r,rows[k]?=some r/\n∈r)/\∀ j:Nat,gs[j]?=some (V.int n)->j∈st.map (·.1):=fun k n hk=>by
  rcases(h.mem k n hk).2 with ⟨h1,k',h2,h3⟩|⟨h1,rfl⟩
  ·refine⟨h1,fun j hj=>?_⟩;rw[FP.inj j k' n hj h2];obtain⟨x,r,e⟩:=h.hd;rw[e] at h3 ⊢;exact zrh _ h3
  ·exact⟨(hw n h1).1,fun j hj=>absurd hj ((hw n h1).2 j)⟩
 have cs:∀ k,k<gs.length->(k∉st.map (·.1)/\(Yo st gs)[k]?=gs[k]?)\/∃ w,(k,w)∈st/\(Yo st gs)[k]?=some (oV w):=fun k hk=>T4 nd hk;have at_:∀ (k:Nat) (n:Int),(Yo st gs)[k]?=some (V.int n)->(k∉st.map (·.1)/\gs[k]?=some (V.int n))\/(k,some n)∈st:=fun k n hk=>by
  have hkl:k<gs.length:=by
   have:=(zqz.mp hk).1;rw[Xw] at this;exact this
  rcases cs k hkl with ⟨h1,e⟩|⟨w',h1,e⟩
  ·exact .inl ⟨h1,by rw[<- e];exact hk⟩
  ·rw[e] at hk;cases w' with
   | none=>cases hk
   | some m=>cases hk;exact .inr h1
 refine⟨by rw[Xw];exact FP.len,fun x hx=>?_,fun k n hk=>?_,fun j k n hj hk=>?_⟩
 ·obtain⟨k,hk,rfl⟩:=zr6 hx;have hkl:k<gs.length:=by rw[Xw] at hk;exact hk
  have e0:=zqy hk;rcases cs k hkl with ⟨_,e⟩|⟨w',_,e⟩
  ·rw[e,zqy hkl] at e0;rw[<- Option.some.inj e0];exact FP.one _ (zr3 hkl)
  ·rw[e] at e0;rw[<- Option.some.inj e0];exact za1 w'
 ·rcases at_ k n hk with ⟨_,h1⟩|h1
  ·exact FP.may k n h1
  ·exact(src k n h1).1
 ·rcases at_ j n hj with ⟨a1,a2⟩|a1<;>rcases at_ k n hk with ⟨b1,b2⟩|b1
  ·exact FP.inj j k n a2 b2
  ·exact absurd ((src k n b1).2 j a2) a1
  ·exact absurd ((src j n a1).2 k b2) b1
  ·exact hinj j k n a1 b1
theorem Ch.out{p0 q e:Nat}{n0:Int}{w:Option Int}{st:List (Nat×Option Int)}{S:Nat->Prop}(FP:Yx rows gs)(hS:∀ q,S q->q<rows.length/\∀ r,rows[q]?=some r->∀ n∈r,∃ q',q' < p0/\gs[q']?=some (.int n)/\S q')(h:Ch rows gs q st e w):w=some n0->Rh rows gs e n0->¬ S q:=by
 induction h with
 | one q w =>
   intro hw hf hs;obtain⟨r,h1,h2⟩:=hf.1;obtain⟨q',_,h3,_⟩:=(hS _ hs).2 r h1 n0 h2;exact hf.2 q' h3
 | @step q q' e n st w a h ih =>
   intro hw hf hs;obtain⟨r,h1,h2⟩:=a.1;obtain⟨q'',_,h3,h4⟩:=(hS q hs).2 r h1 n h2;have:q''=q':=FP.inj q'' q' n h3 a.2;subst this;exact ih hw hf h4
theorem Sl.behind{p0 q e:Nat}{n0:Int}{st:List (Nat×Option Int)}(FP:Yx rows gs)(S0:Sl rows gs p0)(h:Ch rows gs q st e (some n0))(hf:Rh rows gs e n0)(hq:q<rows.length)(nd:(st.map (·.1)).Nodup):Sl rows (Yo st gs) p0:=by
 obtain⟨S,hp,hS⟩:=S0;have outAll:∀ x∈st.map (·.1),¬ S x:=fun x hx=>by
  obtain⟨st',h1,_⟩:=h.drop x hx;exact h1.out FP hS rfl hf
 refine⟨S,hp,fun q1 h1=>⟨(hS q1 h1).1,fun r hr n hn=>?_⟩⟩;obtain⟨q',h2,h3,h4⟩:=(hS q1 h1).2 r hr n hn;refine⟨q',h2,?_,h4⟩;have hkl:q' < gs.length:=(zqz.mp h3).1;rcases T4 nd hkl with ⟨_,e⟩|⟨w,h5,_⟩
 ·rw[e];exact h3
 ·exact absurd h4 (outAll q' (zrg.mpr ⟨_,h5,rfl⟩))
structure Yz(rows:List (List Int))(gs:List V)(p:Nat)(st:List (Nat×Option Int))(e:Nat)(w:Option Int):Prop where
 ch:Ch rows gs p st e w
 free:∀ n,w=some n->Rh rows gs e n/\∀ q k,Walk rows gs p q k->Vs rows gs q->st.length<=k+1
 none:w=none->(∀ q k,Walk rows gs p q k->¬ Vs rows gs q)/\(∀ q k,Walk rows gs p q k->q<=e)/\∀ k,Walk rows gs p e k->st.length<=k+1
theorem Yz.nodup{p e:Nat}{st:List (Nat×Option Int)}{w:Option Int}(c:Yz rows gs p st e w):(st.map (·.1)).Nodup:=by
 refine c.ch.nodup fun k hk=>?_;cases h:w with
 | none=>exact(c.none h).2.2 k hk
 | some n=>exact(c.free n h).2 e k hk ⟨n,(c.free n h).1⟩
theorem Yz.fill{p e:Nat}{st:List (Nat×Option Int)}{w:Option Int}(FP:Yx rows gs)(c:Yz rows gs p st e w)(hp:p<rows.length):Yx rows (Yo st gs):=c.ch.fill FP hp (fun n hn=>(c.free n hn).1) c.nodup
theorem Cc{p:Nat}(FP:Yx rows gs)(hp:p<rows.length)(ha:∀ q n,gs[q]?=some (V.int n)->q<p)(hn:∀ q k,Walk rows gs p q k->¬ Vs rows gs q):Sl rows gs p:=by
 refine⟨fun q=>∃ k,Walk rows gs p q k,⟨0,.nil⟩,fun q ⟨k,hk⟩=>⟨?_,fun r hr n hnr=>?_⟩⟩
 ·cases hk with
  | nil=>exact hp
  | snoc _ a =>
    have:=(zqz.mp a.2).1;rw[FP.len] at this;exact this
 ·by_cases hx:∃ j:Nat,gs[j]?=some (V.int n)
  ·obtain⟨j,hj⟩:=hx;exact⟨j,ha j n hj,hj,k+1,.snoc hk ⟨⟨r,hr,hnr⟩,hj⟩⟩
  ·exact absurd ⟨n,⟨r,hr,hnr⟩,fun j hj=>hx ⟨j,hj⟩⟩ (hn q k hk)
end
section
variable{rows:List (List Int)}{gs:List V}{p:Nat}
structure Bfs(rows:List (List Int))(gs:List V)(p:Nat)(line:List Nat)(dep:Nat->Nat):Prop where
 nodup:line.Nodup
 memp:p∈line
 d0:dep p=0
 walk:∀ q∈line,Walk rows gs p q (dep q)
 sorted:∀ (i j q q':Nat),i<=j->line[i]?=some q->line[j]?=some q'->dep q<=dep q'
noncomputable def Done(rows:List (List Int))(gs:List V)(line:List Nat)(dep:Nat->Nat)(dn:Nat):Prop:=∀ (i q:Nat),i<dn->line[i]?=some q->∀ n q',adjN rows gs q n q'->q'∈line/\dep q'<=dep q+1
theorem Ec(rows:List (List Int))(gs:List V)(p:Nat):Bfs rows gs p [p] (fun _=>0):=by
 refine⟨by simp,by simp,rfl,fun q hq=>?_,fun i j q q' _ _ _=>zq1 _⟩;simp at hq;subst hq;exact .nil
variable{line:List Nat}{dep:Nat->Nat}{dn:Nat}
theorem Bfs.reach(B:Bfs rows gs p line dep)(D:Done rows gs line dep dn){q k:Nat}(h:Walk rows gs p q k):(q∈line/\dep q<=k)\/∃ j q',dn<=j/\line[j]?=some q'/\dep q' < k:=by
 induction h with
 | nil=>exact .inl ⟨B.memp,by rw[B.d0];exact zq1 _⟩
 | @snoc q q' k n h a ih =>
   rcases ih with ⟨h1,h2⟩|⟨j,x,h1,h2,h3⟩
   ·obtain⟨i,hi,e⟩:=zr6 h1;have e':line[i]?=some q:=by rw[zqy hi,e]
    by_cases hd:i<dn
    ·obtain⟨a1,a2⟩:=D i q hd e' n q' a;exact .inl ⟨a1,by omega⟩
    ·exact .inr ⟨i,q,by omega,e',by omega⟩
   ·exact .inr ⟨j,x,h1,h2,by omega⟩
theorem Bfs.full(B:Bfs rows gs p line dep)(D:Done rows gs line dep line.length){q k:Nat}(h:Walk rows gs p q k):q∈line/\dep q<=k:=by
 rcases B.reach D h with z|⟨j,x,h1,h2,_⟩
 ·exact z
 ·have:=(zqz.mp h2).1;omega
theorem Bfs.early(B:Bfs rows gs p line dep)(D:Done rows gs line dep dn){here q k:Nat}(hh:line[dn]?=some here)(h:Walk rows gs p q k)(hk:k<dep here):∃ i,i<dn/\line[i]?=some q:=by
 rcases B.reach D h with ⟨h1,h2⟩|⟨j,x,h1,h2,h3⟩
 ·obtain⟨i,hi,e⟩:=zr6 h1;have e':line[i]?=some q:=by rw[zqy hi,e]
  refine⟨i,?_,e'⟩;by_cases hd:i<dn
  ·exact hd
  ·have:=B.sorted dn i here q ⋯ hh e';omega
 ·have:=B.sorted dn j here x h1 hh h2;omega
theorem Bfs.fewest(B:Bfs rows gs p line dep)(D:Done rows gs line dep dn){here:Nat}(hh:line[dn]?=some here)(hno:∀ (i q:Nat),i<dn->line[i]?=some q->¬ Vs rows gs q){q k:Nat}(h:Walk rows gs p q k)(hf:Vs rows gs q):dep here+1<=k+1:=by
 by_cases hk:k<dep here
 ·obtain⟨i,hi,e⟩:=B.early D hh h hk;exact absurd hf (hno i q hi e)
 ·omega
noncomputable def Wl(dep:Nat->Nat)(q d:Nat):Nat->Nat:=fun x=>if x=q then d else dep x
theorem Bfs.app(B:Bfs rows gs p line dep){here q':Nat}{n:Int}(hh:line[dn]?=some here)(near:∀ x∈line,dep x<=dep here+1)(a:adjN rows gs here n q')(hn:q'∉line) :
  Bfs rows gs p (line++[q']) (Wl dep q' (dep here+1))/\(∀ x∈line,Wl dep q' (dep here+1) x=dep x)/\∀ x∈line++[q'],Wl dep q' (dep here+1) x<=dep here+1:=by
 have old:∀ x∈line,Wl dep q' (dep here+1) x=dep x:=fun x hx=>by
  unfold Wl;rw[if_neg (fun (z:x=q')=>hn (by rw[<- z];exact hx))]
 have new:Wl dep q' (dep here+1) q'=dep here+1:=by unfold Wl;rw[if_pos rfl]
 have hhm:=zq9 hh;have all:∀ x∈line++[q'],Wl dep q' (dep here+1) x<=dep here+1:=fun x hx=>by
  rcases zrd.mp hx with z|z
  ·rw[old x z];exact near x z
  ·rw[zq3.mp z,new];exact zq1 _
 refine⟨⟨Lu B.nodup hn,zrn _ B.memp,by rw[old p B.memp];exact B.d0,fun q hq=>?_,fun i j x y hij hx hy=>?_⟩,old,all⟩
 ·rcases zrd.mp hq with z|z
  ·rw[old q z];exact B.walk q z
  ·rw[zq3.mp z,new];exact .snoc (B.walk here hhm) a
 ·by_cases hj:j<line.length
  ·rw[zrv hj] at hy;rw[zrv ⋯] at hx;rw[old x (zq9 hx),old y (zq9 hy)];exact B.sorted i j x y hij hx hy
  ·rw[zrt ⋯] at hy;have:y=q':=by
    cases e:j-line.length with
    | zero=>rw[e] at hy;simpa using hy.symm
    | succ m=>rw[e] at hy;simp at hy
   subst this;rw[new];exact all x (zq9 hx)
theorem Done.app{line':List Nat}{dep':Nat->Nat}(D:Done rows gs line dep dn)(hd:dn<=line.length)(hl:∃ r,line'=line++r)(he:∀ x∈line,dep' x=dep x):Done rows gs line' dep' dn:=fun i q hi e n q' a=>by
 obtain⟨r,rfl⟩:=hl;rw[zrv ⋯] at e;obtain⟨h1,h2⟩:=D i q hi e n q' a;exact⟨zrn _ h1,by rw[he q' h1,he q (zq9 e)];exact h2⟩
noncomputable def Ua(rows:List (List Int))(gs:List V)(p:Nat)(line:List Nat)(dep:Nat->Nat)(fr:Nat->Option (Nat×Int)):Prop:=fr p=none/\∀ q∈line,q≠p->∃ par n,fr q=some (par,n)/\par∈line/\adjN rows gs par n q/\dep q=dep par+1
theorem Ua.back{fr:Nat->Option (Nat×Int)}(d0:dep p=0)(F:Ua rows gs p line dep fr):∀ (d q e:Nat) (w:Option Int) (st:List (Nat×Option Int)),dep q=d->q∈line->Ch rows gs q st e w->∃ pre,Ch rows gs p (pre++st) e w/\pre.length=d:=fun d=>by
 induction d with
 | zero =>
   intro q e w st hd hq h;by_cases hp:q=p
   ·subst hp;exact⟨[],h,rfl⟩
   ·obtain⟨par,n,_,_,_,h4⟩:=F.2 q hq hp;omega
 | succ d ih =>
   intro q e w st hd hq h;by_cases hp:q=p
   ·subst hp;rw[d0] at hd;cases hd
   ·obtain⟨par,n,h1,h2,h3,h4⟩:=F.2 q hq hp;obtain⟨pre,h5,h6⟩:=ih par e w _ ⋯ h2 (.step h3 h);exact⟨pre++[(par,some n)],by rw[List.append_assoc];exact h5,by rw[zq4,h6];rfl⟩
theorem Hb{here:Nat}{n:Int}{st:List (Nat×Option Int)}(B:Bfs rows gs p line dep)(D:Done rows gs line dep dn)(hh:line[dn]?=some here)(hno:∀ (i q:Nat),i<dn->line[i]?=some q->¬ Vs rows gs q)(hf:Rh rows gs here n)(c:Ch rows gs p st here (some n))(hl:st.length=dep here+1):Yz rows gs p st here (some n) :=
 ⟨c,fun m e=>by cases e;exact⟨hf,fun q k hk hq=>by rw[hl];exact B.fewest D hh hno hk hq⟩,(fun z=>nomatch z)⟩
theorem Hc{e:Nat}{st:List (Nat×Option Int)}(B:Bfs rows gs p line dep)(D:Done rows gs line dep line.length)(hno:∀ q∈line,¬ Vs rows gs q)(he:∀ q∈line,q<=e)(c:Ch rows gs p st e none)(hl:st.length=dep e+1):Yz rows gs p st e none :=
 ⟨c,(fun m z=>nomatch z),fun _=>⟨fun q k hk=>hno q (B.full D hk).1,fun q k hk=>he q (B.full D hk).1,fun k hk=>by rw[hl];have:=(B.full D hk).2;omega⟩⟩
end
end G
namespace L2
open PySem PySem.Spec PyProof.Rows
inductive za3(x:V)(vs:List V)(H:Hp)(Q:VK):Prop where
 | mk(l:Addr)(xs:List V)(y:V)(j:Nat)(_:x=.ref l)(_:vs=[y])(_:H l=some (.lst xs))(_:Uw y=true)(_:xs.all Uw=true)(_:(∃ z,xs[j]?=some z/\eqV z y=true))(_:(∀ m z,m<j->xs[m]?=some z->eqV z y=false))(_:Q (.int (j:Nat)) H)
theorem Cd{X:Cx}:MtM X "list.index" za3:=by
 intro pins s σ H x vs v us Q I rx rv h;obtain⟨l,xs,y,j,rfl,rfl,hH,fy,fs,⟨zj,hzj,hej⟩,hno,q⟩:=h;cases rx;obtain⟨u,rfl,ru⟩:=rv.one;obtain⟨z,its,n,r,hl,e⟩:=I.lstM hH;have hjx:j<xs.length:=(zqz.mp hzj).1;have hj:j<its.toArray.size:=by rw[zq6];omega
 have hline:=Rc;have ev:∀ (m:Nat) (hm:m<its.toArray.size) (w:V),xs[m]?=some w->eqU y (its.toArray[m]'hm)=eqV w y:=fun m hm w hw=>by
  obtain⟨uu,hu,ruu⟩:=r.get hw;have:its.toArray[m]'hm=uu:=by
   have h1:its[m]?=some (its.toArray[m]'hm):=by simp
   rw[h1] at hu;exact Option.some.inj hu
  rw[this];refine Ir ruu ?_;exact List.all_eq_true.mp fs w (zq9 hw)
 refine call_meets PySem.F.slot_list_index ⟨_,e,rfl⟩ PySem.F.entry_list_index (PySem.F.args_list_index_2 _ _) (SeqAt.list_indexAt l its.toArray n none #[] u (eqU y) j hj ⋯ (by rw[ev j hj zj hzj];exact hej) (fun m hm hmj=>?_)) ⟨e,fun w hw=>R7 ru fy r fs w (by simpa using hw),?_⟩
 ·have hmx:m<xs.length:=by rw[zq6] at hm;omega
  have hw:xs[m]?=some (xs[m]'hmx):=zqy hmx;rw[ev m hm _ hw];exact hno m _ hmj hw
 ·exact⟨.int (j:Nat),H,I.tok _,⟨_,rfl⟩,q⟩
end L2
namespace G
open PySem PySem.Spec PyProof.Rows L2
theorem zci{H:Hp}{ts:List V}{st:List (Nat×Option Int)}{i:Nat}{s:Nat×Option Int}(h:TupL H ts (st.map W6))(e:st[i]?=some s):∃ t,ts[i]?=some (.ref t)/\H t=some (.tup (W6 s)):=by
 have e':(st.map W6)[i]?=some (W6 s):=by rw[zq7,e];rfl
 exact h.getR e'
theorem Oj{z:V}{n:Int}(ho:oneV z):eqV z (.int n)=true↔z=.int n:=by
 rcases ho with rfl|⟨i,rfl⟩
 ·constructor
  ·intro h;cases h
  ·intro h;cases h
 ·show (i == n)=true↔_;constructor
  ·intro h;rw[beq_iff_eq.mp h]
  ·intro h;cases h;simp
theorem Ce{gs:List V}{n:Int}(ho:∀ x∈gs,oneV x):inV (.int n) gs=true↔∃ j:Nat,gs[j]?=some (V.int n):=by
 unfold inV;rw[List.any_eq_true];constructor
 ·rintro⟨z,hz,e⟩;obtain⟨j,hj,rfl⟩:=zr6 hz;exact⟨j,by rw[zqy hj,(Oj (ho _ hz)).mp e]⟩
 ·rintro⟨j,hj⟩;have:=zq9 hj;exact⟨_,this,(Oj (ho _ this)).mpr rfl⟩
theorem By(r:List Int):PyData.canLayAll0 (Wj (r.map Dt.int))=true/\PyData.depthAll (Wj (r.map Dt.int))<=1:=by
 induction r with
 | nil=>exact⟨rfl,by decide⟩
 | cons x r ih =>
   obtain⟨h1,h2⟩:=ih;refine⟨by rw[zq8,Wj,PyData.canLayAll0,h1];rfl,?_⟩;rw[zq8,Wj,PyData.depthAll];have:PyData.depth (toPy (Dt.int x))<=1:=by simp[toPy,PyData.depth]
   omega
theorem L9(r:List Int):shD (.lst (r.map Dt.int)):=by
 obtain⟨a1,a2⟩:=By r;unfold shD SeqAt.shaped;rw[toPy,PyData.canLay0,a1,Bool.true_and];refine zq2 ?_;rw[PyData.depth];omega
theorem Ol:shD (.lst []):=L9 []
theorem Gu{α:Type}(f:α->Dt)(xs:List α):eqD (.lst (xs.map f)) (.lst [])=xs.isEmpty:=by
 cases xs with
 | nil=>simp[eqD,Qv]
 | cons x xs=>simp[eqD,Qv]
structure zdk(rows:List (List Int))(gs:List V)(i:Nat):Prop where
 len:gs.length=i
 one:∀ x∈gs,oneV x
 may:∀ (k:Nat) (n:Int),gs[k]?=some (.int n)->∃ r,rows[k]?=some r/\n∈r
 inj:∀ (j k:Nat) (n:Int),gs[j]?=some (.int n)->gs[k]?=some (.int n)->j=k
theorem Yx.drop{rows:List (List Int)}{gs:List V}(F:Yx rows gs)(p:Nat):Yx rows (gs.set p .non):=by
 have cs:∀ (k:Nat) (n:Int),(gs.set p .non)[k]?=some (.int n)->k≠p/\gs[k]?=some (.int n):=fun k n h=>by
  by_cases e:k=p
  ·subst e;by_cases hk:k<gs.length
   ·rw[zrw hk] at h;cases h
   ·rw[List.getElem?_eq_none (by rw[zr5];omega)] at h;cases h
  ·rw[zrx (Ne.symm e)] at h;exact⟨e,h⟩
 refine⟨by rw[zr5];exact F.len,fun x hx=>?_,fun k n h=>F.may k n (cs k n h).2,fun j k n h1 h2=>F.inj j k n (cs j n h1).2 (cs k n h2).2⟩;rcases List.mem_or_eq_of_mem_set hx with z|z
 ·exact F.one x z
 ·exact .inl z
theorem Yx.without{rows:List (List Int)}{gs:List V}{p:Nat}{x:V}(F:Yx rows gs)(hx:gs[p]?=some x)(f:Int->Bool)(hf:∀ n,f n=false->x=.int n):Yx (rows.map fun r=>r.filter f) (gs.set p .non):=by
 have D:=F.drop p;refine⟨by rw[zqx];exact D.len,D.one,fun k n h=>?_,D.inj⟩;obtain⟨r,h1,h2⟩:=D.may k n h;refine⟨r.filter f,by rw[zq7,h1];rfl,zsb.mpr ⟨h2,?_⟩⟩;cases e:f n with
 | true=>rfl
 | false =>
   have hx':=hf n e;subst hx';have hk:k≠p:=fun z=>by
    subst z;rw[zrw (zqz.mp hx).1] at h;cases h
   rw[zrx (Ne.symm hk)] at h;exact absurd (F.inj k p n h hx) hk
theorem Ka{c:TT}{t e u:TS}{D:Um}{σ:L2.St}{H:Hp}{b:Bool}(J:L2.St->Hp->Prop)(hc:Gr c σ H b)(h1:b=true->∀ H1,Same H H1->∀ N:L2.St->Hp->Prop,(∀ σ' H',J σ' H'->N σ' H')->t { D with nx:=N } σ H1)
  (h2:b=false->∀ H1,Same H H1->∀ N:L2.St->Hp->Prop,(∀ σ' H',J σ' H'->N σ' H')->e { D with nx:=N } σ H1) (h3:∀ σ' H',J σ' H'->u D σ' H'):Z7 (Ez c t e) u D σ H:=by
 refine hc _ fun H1 s1=>?_;cases b with
 | true=>rw[if_pos rfl];exact h1 rfl H1 s1 _ h3
 | false=>rw[if_neg ⋯];exact h2 rfl H1 s1 _ h3
noncomputable def Tj(xs:List Nat):List V:=xs.map fun k=>V.int (k:Nat)
end G
namespace G
open PySem PySem.Spec PyProof.Rows L2
inductive Kb(K:Frag)(vs:List V)(H:Hp)(Q:VK)(_:XK):Prop where
 | mk(l lg:Addr)(ls:List Addr)(rows:List (List Int))(nu:List Int)(gs:List V)(p:Nat)(_:vs=[.ref l,.ref lg,.int p])(_:H l=some (.lst (ls.map V.ref)))(_:ILs H ls rows)(_:Na rows nu)(_:H lg=some (.lst gs))(_:Yx rows gs)(_:p<rows.length)(_:gs[p]?=some .non)(_:∀ lt ts st e w H',H' lt=some (.lst ts)->TupL H' ts (st.map W6)->Yz rows gs p st e w->Same H H'->H lt=none->Q (.ref lt) H')
theorem Yz.len{rows:List (List Int)}{gs:List V}{p e:Nat}{st:List (Nat×Option Int)}{w:Option Int}(FP:Yx rows gs)(hp:p<rows.length)(c:Yz rows gs p st e w):st.length<=rows.length:=by
 have hlt:=c.ch.lt FP hp;have:=c.nodup.length_le_of_subset (l₂:=List.range rows.length) fun x hx=>by
  obtain⟨s,hs,rfl⟩:=zrg.mp hx;exact zsh.mpr (hlt s hs)
 rw[zqx,zr9] at this;exact this
end G
namespace L2
open PySem PySem.Spec PyProof.Rows
section
variable{X:Cx}{pins:List (Addr×Obj)}{σ:List (Option V)}{H H':Hp}{s:Shared}{h':Heap}
theorem Inv.turnedL{t':Nat}{fp:List Addr}(I:Inv X pins σ H s)(hf:∀ b∈fp,FpOk X pins H b)(k:∀ b o,b∉fp->s.heap.get? b=some o->h'.get? b=some o):Inv X pins σ H { s with heap:=h',toks:=t' }:=by
 have nit:∀ b u,H b=some u->b∉fp:=fun b u e z=>by rw[(hf b z).1] at e;cases e
 refine I.step (g':=s.gens) (d':=s.drawn) (ch:=fp) (fun b hb=>?_) (fun b o _ _ hc e _=>k b o hc e) (fun b o _ _ hc e _=>⟨o.slots,k b o hc e⟩) (fun _ _ _ _ n=>n)
  (fun b o hc e=>⟨o,k b o hc e⟩) (fun _ _ e=>e) (fun _ _ _ e=>e) (fun b ps e=>⟨#[],by rw[e];simp⟩) (fun m hm=>?_) (fun b u e=>?_) I.bare
 ·obtain⟨f0,f1,f2,f3,f4,f5⟩:=hf b hb;exact⟨f3,f1,f4,f5⟩
 ·obtain⟨o,es,ep,ho,r⟩:=hm;exact⟨o,es,ep,k _ o (fun z=>(hf _ z).2.1 rfl) ho,r⟩
 ·refine(I.hok b u e).stay (fun c v hc q=>k c v ?_ q) (fun _ q=>q) fun _ _ q=>q;rcases hc with z|z
  ·rw[z];exact nit b u e
  ·exact nit c _ z
theorem Inv.turnLay{t':Nat}{fp:List Addr}{a:Addr}{o:HO}(I:Inv X pins σ H s)(hf:∀ b∈fp,FpOk X pins H b)(k:∀ b o,b∉fp->s.heap.get? b=some o->h'.get? b=some o)(hp:s.heap.objs.size<=a)(new:Yh X.prog X.w (upd H a o) h' a o):Inv X pins σ (upd H a o) { s with heap:=h',toks:=t' }:=by
 have nit:∀ b u,H b=some u->b∉fp:=fun b u e z=>by rw[(hf b z).1] at e;cases e
 have hn:H a=none:=I.hok.fresh hp;have ne:∀ b u,s.heap.get? b=some u->b≠a:=fun b u e=>zrk (zra (Heap.lt_size e) hp);refine I.step (g':=s.gens) (d':=s.drawn) (ch:=fp) (fun b hb=>?_) (fun b o _ _ hc e _=>k b o hc e) (fun b o _ _ hc e _=>⟨o.slots,k b o hc e⟩) (fun b u _ e n=>by rw[Zg (ne b u e)];exact n)
  (fun b o hc e=>⟨o,k b o hc e⟩) (fun b _ e=>by rw[Zg (Zh e hn)];exact e) (fun b _ _ e=>by rw[Zg (Zh e hn)];exact e) (fun b ps e=>⟨#[],by rw[Zg (Zh e hn),e];simp⟩) (fun m hm=>?_) (fun b u e=>?_) I.bare
 ·obtain⟨f0,f1,f2,f3,f4,f5⟩:=hf b hb;exact⟨f3,f1,f4,f5⟩
 ·obtain⟨o,es,ep,ho,r⟩:=hm;exact⟨o,es,ep,k _ o (fun z=>(hf _ z).2.1 rfl) ho,r⟩
 ·by_cases hb:b=a
  ·subst hb;rw[Zb] at e;cases e;exact new
  ·rw[Zg hb] at e;refine(I.hok b u e).stay (fun c v hc q=>k c v ?_ q) (fun c q=>by rw[Zg (Zh q hn)];exact q) fun c _ q=>by rw[Zg (Zh q hn)];exact q
   rcases hc with z|z
   ·rw[z];exact nit b u e
   ·exact nit c _ z
end
noncomputable def Ite(K:Frag)(a:Addr):It :=
 ⟨fun i H=>∃ xs x,SqL K H a xs/\xs[i]?=some x,fun i H x H'=>∃ p y,H p=none/\(∀ xs,SqL K H a xs->xs[i]?=some y)/\x=.ref p/\H'=upd H p (.tup [.int (i:Nat),y]),fun i H=>∃ xs,SqL K H a xs/\xs.length<=i⟩
theorem Ed{P:Program}{w:World}{K:Frag}{elts:List Expr}{k:Nat}{tp:Pos}(a e it:Addr)(hne:e≠it):Ks P w K (.Tuple elts k tp) (Ite K a) [e,it] e (fun i h=>(∃ old,IsEnum h e it (i:Nat) old)/\h.IsListIter it a i) where
 mem:=by simp
 obj:=fun i h st b hb=>by
  obtain⟨⟨old,h1⟩,h2⟩:=st;have e:b=e\/b=it:=by simpa using hb
  rcases e with rfl|rfl
  ·exact⟨_,h1,fun v z=>by cases z⟩
  ·obtain⟨o,e,c,d⟩:=h2;exact⟨o,e,fun v z=>by rw[d] at z;cases z⟩
 keep:=fun i h h' st k=>⟨let ⟨old,h1⟩:=st.1;⟨old,k e (by simp) _ h1⟩,st.2.at fun o q=>k it (by simp) o q⟩
 item:=by
  intro X hP hw hK hc i pins s σ H E I hf st hg;subst hP hw hK;obtain⟨xs,x,hq,hx⟩:=hg;obtain⟨its,rv,p,hz⟩:=I.list hq;obtain⟨u,hu,ru⟩:=rv.get hx;obtain⟨⟨old,h1⟩,h2⟩:=st;refine wpAny_pyNext_enum_item h1 h2 p.isList (x:=u) (by simpa using hu) hne fun h' o1 o2 o3 o4 o5=>?_;refine⟨_,rfl,wpAny_letOwnedTupleGo_enum o1 fun h'' e1 sb=>?_⟩;have hes:e≠s.heap.objs.size:=fun z=>by
   exact zr7 _ (z▸Heap.lt_size h1)
  have kk:∀ b o,b∉[e,it]->s.heap.get? b=some o->h''.get? b=some o:=fun b o hb q=>by
   have hb':b≠e/\b≠it:=by simpa using hb
   exact(sb.2 b hb'.1).trans (o5 b o hb'.1 hb'.2 q)
  have new:h''.get? s.heap.objs.size=some { cls:=Value.type "tuple",data:=Data.seq #[Value.int (i:Nat) s.toks,u] }:=(sb.2 _ (Ne.symm hes)).trans o3;have line:=Rc;refine⟨.ref s.heap.objs.size,_,I.turnLay (t':=s.toks+1) (o:=.tup [.int (i:Nat),x]) hf kk (zq1 _) ⟨?_,_,.cons ⟨s.toks,rfl⟩ (.cons ru .nil),⟨_,new,rfl,_,rfl⟩⟩,rfl,⟨_,x,I.hok.fresh (zq1 _),fun ys hy=>by rw[I.list_inj hy hq];exact hx,rfl,rfl⟩,⟨⟨u,e1⟩,o2.at fun o q=>(sb.2 it (Ne.symm hne)).trans q⟩,fun b hb=>?_⟩
  ·show 2<=sizeLine;rw[sizeLine_eq];decide
  ·have hb':b=e\/b=it:=by simpa using hb
   have hlt:b<s.heap.objs.size:=by
    rcases hb' with rfl|rfl
    ·exact Heap.lt_size h1
    ·obtain⟨o,q,_⟩:=h2;exact Heap.lt_size q
   rw[Zg (zrk hlt)];exact(hf b hb).1
 done:=by
  intro X hP hw hK hc i pins s σ H E I hf st hg;subst hP hw hK;obtain⟨xs,hq,hx⟩:=hg;obtain⟨its,rv,p,hz⟩:=I.list hq;obtain⟨⟨old,h1⟩,h2⟩:=st;have hl:=rv.length;exact wpAny_pyNext_enum_end (I.ok.hd hc) h1 h2 p.isList (by simp;omega) fun h' eb=>⟨rfl,I.turnedL (t':=s.toks) hf fun b o hb q=>eb b o (fun z=>hb (by simp[z])) q⟩
 self:=fun _ _ _ _ _ st h=>by
  obtain⟨⟨old,h1⟩,h2⟩:=st;exact wpAny_pyIter_enum h1 h
inductive za4(K:Frag)(R:It->Hp->Prop)(vs:List V)(H1:Hp):Prop where
 | mk(a)(_:vs=[.ref a])(_:(∃ xs,SqL K H1 a xs))(_:R (Ite K a) H1)
noncomputable def zcj(K:Frag)(ta:TA):TI:=fun σ H R=>ta σ H fun vs H1=>za4 K R vs H1
theorem Bz{X:Cx}{K:Frag}{elts:List Expr}{k:Nat}{tp:Pos}{a:Expr}{ta:TA}{p pos:Pos}(hK:X.K=K)(hg:Gl X "enumerate")(hm:X.mg "enumerate"=none)(ha:PA X [a] ta)(hs:starEach [a] X.env=[(false,eval a X.env)]:=by rfl):PI X (.Tuple elts k tp) (.Call (.Name "enumerate" p) [a] [] pos) (zcj K ta):=by
 subst hK;intro pins s σ H R I h;refine Call_ (S9 I hg hm boot_enumerate (PyProof.Rows.callWith_type1 (thn (ha pos pins s σ H _ I h) fun us s1 ⟨vs,H1,I1,r1,q1⟩=>?_) hs rfl));obtain⟨a,e,⟨xs,hq⟩,q⟩:=q1;subst e;obtain⟨u,rfl,ru⟩:=S4 r1;cases ru;obtain⟨its,rv,pl,hz⟩:=I1.list hq;refine call_enumerate_list pl.isList fun h' e1 e2 e3 e4=>?_;refine wpAny_pyIter_enum e1 ?_;refine⟨_,[s1.heap.objs.size+1,s1.heap.objs.size],_,_,H1,rfl,I1.kept (t':=s1.toks) e4,Ed a _ _ (Nat.succ_ne_self _),⟨⟨_,e1⟩,e2⟩,fun b hb=>?_,q⟩;have e:b=s1.heap.objs.size+1\/b=s1.heap.objs.size:=by simpa using hb
 rcases e with rfl|rfl
 ·exact I1.fpOk (Nat.le_succ _) (I1.hok.fresh (Nat.le_succ _))
 ·exact I1.fpOk (zq1 _) (I1.hok.fresh (zq1 _))
theorem Cf{K:Frag}{a:Addr}{xs:List V}{g:TG}{tb:TS}{D:Um}{σ:St}{H:Hp}(Pv:Nat->St->Hp->Prop)(h0:Pv 0 σ H)(hl:∀ i σ H,i<=xs.length->Pv i σ H->SqL K H a xs)
  (hs:∀ i x p σ H,xs[i]?=some x->Pv i σ H->H p=none->g (.ref p) σ (upd H p (.tup [.int (i:Nat),x])) fun σ2 H2=>tb { D with nx:=Pv (i+1),ct:=Pv (i+1),bk:=D.nx } σ2 H2) (hd:∀ σ H,Pv xs.length σ H->D.nx σ H) :
  ∃ W:Nat->Nat->St->Hp->Prop,(∃ m,W 0 m σ H)/\∀ i m σ H,W i m σ H ->
    ((Ite K a).stop i H/\D.nx σ H)\/((Ite K a).go i H/\∃ N:St->Hp->Prop,(∀ σ' H',N σ' H'->∃ m',m' < m/\W (i+1) m' σ' H')/\∀ x H',(Ite K a).yld i H x H'->g x σ H' fun σ2 H2=>tb { D with nx:=N,ct:=N,bk:=D.nx } σ2 H2):=by
 refine⟨fun i m σ H=>m=xs.length-i/\i<=xs.length/\Pv i σ H,⟨xs.length,by simp,zrj _,h0⟩,?_⟩;rintro i m σ H ⟨rfl,hi,p⟩;have q:=hl i σ H hi p;by_cases hlt:i<xs.length
 ·refine .inr ⟨⟨xs,xs[i],q,by simp[hlt]⟩,Pv (i+1),fun σ' H' p'=>⟨xs.length-(i+1),by omega,rfl,hlt,p'⟩,fun x H' y=>?_⟩;obtain⟨t,y,h1,h2,rfl,rfl⟩:=y;exact hs i y t σ _ (h2 xs q) p h1
 ·have e:i=xs.length:=by omega
  subst e;exact .inl ⟨⟨xs,q,zq1 _⟩,hd σ H p⟩
noncomputable def Itz(K:Frag)(a b:Addr):It :=
 ⟨fun i H=>∃ xs ys x y,SqL K H a xs/\SqL K H b ys/\xs[i]?=some x/\ys[i]?=some y,fun i H x H'=>∃ p y z,H p=none/\(∀ xs,SqL K H a xs->xs[i]?=some y)/\(∀ ys,SqL K H b ys->ys[i]?=some z)/\x=.ref p/\H'=upd H p (.tup [y,z]),
  fun i H=>∃ xs ys,SqL K H a xs/\SqL K H b ys/\(xs.length<=i\/ys.length<=i)⟩
theorem Cg{P:Program}{w:World}{K:Frag}{elts:List Expr}{k:Nat}{tp:Pos}(l1 l2 z TI TO i1 i2:Addr)(hz:ZipApart z TI TO i1 i2 l1 l2):Ks P w K (.Tuple elts k tp) (Itz K l1 l2) [z,TO,i1,i2,TI] z
  (fun i h=>IsZip h z TI TO Value.none/\IsPair h TI (Value.ref i1) (Value.ref i2)/\(∃ a b,IsPair h TO a b)/\h.IsListIter i1 l1 i/\h.IsListIter i2 l2 i) where
 mem:=by simp
 obj:=fun i h st b hb=>by
  obtain⟨h1,h2,⟨a,b',h3⟩,h4,h5⟩:=st;have e:b=z\/b=TO\/b=i1\/b=i2\/b=TI:=by simpa using hb
  rcases e with rfl|rfl|rfl|rfl|rfl
  ·exact⟨_,h1,fun v z=>by cases z⟩
  ·exact⟨_,h3,fun v z=>by cases z⟩
  ·obtain⟨o,e,c,d⟩:=h4;exact⟨o,e,fun v z=>by rw[d] at z;cases z⟩
  ·obtain⟨o,e,c,d⟩:=h5;exact⟨o,e,fun v z=>by rw[d] at z;cases z⟩
  ·exact⟨_,h2,fun v z=>by cases z⟩
 keep:=fun i h h' st k=>by
  obtain⟨h1,h2,⟨a,b',h3⟩,h4,h5⟩:=st;exact⟨k z (by simp) _ h1,k TI (by simp) _ h2,⟨a,b',k TO (by simp) _ h3⟩,h4.at fun o q=>k i1 (by simp) o q,h5.at fun o q=>k i2 (by simp) o q⟩
 item:=by
  intro X hP hw hK hc i pins s σ H E I hf st hg;subst hP hw hK;obtain⟨xs,ys,x,y,hq,hq2,hx,hy⟩:=hg;obtain⟨its,rv,p,_⟩:=I.list hq;obtain⟨its2,rv2,p2,_⟩:=I.list hq2;obtain⟨u,hu,ru⟩:=rv.get hx;obtain⟨u2,hu2,ru2⟩:=rv2.get hy;obtain⟨h1,h2,⟨a,b',h3⟩,h4,h5⟩:=id st;refine wpAny_pyNext_zip_item hz h1 h2 h3 h4 h5 p.isList p2.isList (x:=u) (y:=u2) (by simpa using hu) (by simpa using hu2) fun h' o1 o2 o3 o4 o5 o6 o7=>?_;refine⟨_,rfl,wpAny_letOwnedTupleGo_zip o1 fun h'' e1 sb=>?_⟩;have lt:∀ b o,s.heap.get? b=some o->b≠s.heap.objs.size:=fun b o q=>zrk (Heap.lt_size q);have kk:∀ b o,b∉[z,TO,i1,i2,TI]->s.heap.get? b=some o->h''.get? b=some o:=fun b o hb q=>by
   have hb':b≠z/\b≠TO/\b≠i1/\b≠i2/\b≠TI:=by simpa using hb
   exact(sb.2 b hb'.1).trans (o7 b o hb'.1 hb'.2.1 hb'.2.2.1 hb'.2.2.2.1 q)
  have new:h''.get? s.heap.objs.size=some { cls:=Value.type "tuple",data:=Data.seq #[u,u2] }:=(sb.2 _ (Ne.symm (lt _ _ h1))).trans o5;refine⟨.ref s.heap.objs.size,_,I.turnLay (t':=s.toks) (o:=.tup [x,y]) hf kk (zq1 _) ⟨?_,_,.cons ru (.cons ru2 .nil),⟨_,new,rfl,_,rfl⟩⟩,rfl,⟨_,x,y,I.hok.fresh (zq1 _),fun zs hy'=>by rw[I.list_inj hy' hq];exact hx,fun zs hy'=>by rw[I.list_inj hy' hq2];exact hy,rfl,rfl⟩,
   ⟨e1,(sb.2 _ hz.TIz).trans (o7 _ _ hz.TIz hz.TITO hz.TIi1 hz.TIi2 h2),⟨_,_,(sb.2 _ hz.TOz).trans o2⟩,o3.at fun o q=>(sb.2 _ hz.i1z).trans q,o4.at fun o q=>(sb.2 _ hz.i2z).trans q⟩,fun b hb=>?_⟩
  ·show 2<=sizeLine;rw[sizeLine_eq];decide
  ·have hne:b≠s.heap.objs.size:=by
    have e:b=z\/b=TO\/b=i1\/b=i2\/b=TI:=by simpa using hb
    rcases e with rfl|rfl|rfl|rfl|rfl
    ·exact lt _ _ h1
    ·exact lt _ _ h3
    ·obtain⟨o,q,_⟩:=h4;exact lt _ _ q
    ·obtain⟨o,q,_⟩:=h5;exact lt _ _ q
    ·exact lt _ _ h2
   rw[Zg hne];exact(hf b hb).1
 done:=by
  intro X hP hw hK hc i pins s σ H E I hf st hg;subst hP hw hK;obtain⟨xs,ys,hq,hq2,hx⟩:=hg;obtain⟨its,rv,p,_⟩:=I.list hq;obtain⟨its2,rv2,p2,_⟩:=I.list hq2;obtain⟨h1,h2,⟨a,b',h3⟩,h4,h5⟩:=st;have hl:=rv.length;have hl2:=rv2.length;exact wpAny_pyNext_zip_end (I.ok.hd hc) hz h1 h2 h3 h4 h5 p.isList p2.isList (hx.imp (fun z=>by simp;omega) fun z=>by simp;omega) fun h' eb=>⟨rfl,I.turnedL (t':=s.toks) hf fun b o hb q=>by
   have hb':b≠z/\b≠TO/\b≠i1/\b≠i2/\b≠TI:=by simpa using hb
   exact eb b o hb'.1 hb'.2.1 hb'.2.2.1 hb'.2.2.2.1 q⟩
 self:=fun _ _ _ _ _ st h=>wpAny_pyIter_zip st.1 h
inductive zck(K:Frag)(R:It->Hp->Prop)(vs:List V)(H1:Hp):Prop where
 | mk(a)(b)(_:vs=[.ref a,.ref b])(_:(∃ xs,SqL K H1 a xs))(_:(∃ ys,SqL K H1 b ys))(_:R (Itz K a b) H1)
noncomputable def zdc(K:Frag)(ta:TA):TI:=fun σ H R=>ta σ H fun vs H1=>zck K R vs H1
theorem za5{X:Cx}{K:Frag}{elts:List Expr}{k:Nat}{tp:Pos}{a b:Expr}{ta:TA}{p pos:Pos}(hK:X.K=K)(hg:Gl X "zip")(hm:X.mg "zip"=none)(ha:PA X [a,b] ta)(hs:starEach [a,b] X.env=[(false,eval a X.env),(false,eval b X.env)]:=by rfl)(hs2:starEach [b] X.env=[(false,eval b X.env)]:=by rfl):PI X (.Tuple elts k tp) (.Call (.Name "zip" p) [a,b] [] pos) (zdc K ta):=by
 subst hK;intro pins s σ H R I h;refine Call_ (S9 I hg hm boot_zip (PyProof.Rows.callWith_type1 (thn (ha pos pins s σ H _ I h) fun us s1 ⟨vs,H1,I1,r1,q1⟩=>?_) (by rw[hs,hs2]) (by rw[hs2];rfl)));obtain⟨a,b,e,⟨xs,hq⟩,⟨ys,hq2⟩,q⟩:=q1;subst e;cases r1 with
 | cons r rr =>
   obtain⟨u,rfl,ru⟩:=S4 rr;cases r;cases ru;obtain⟨its,rv,pl,hz⟩:=I1.list hq;obtain⟨its2,rv2,pl2,hz2⟩:=I1.list hq2;have lt1:@LT.lt Nat _ a s1.heap.objs.size:=by obtain⟨_,e,_⟩:=pl.isList;exact Heap.lt_size e
   have lt2:@LT.lt Nat _ b s1.heap.objs.size:=by obtain⟨_,e,_⟩:=pl2.isList;exact Heap.lt_size e
   refine call_zip_2 pl.isList pl2.isList fun h' e1 e2 e3 e4 e5 e6 e7=>?_;refine wpAny_pyIter_zip e1 ?_;refine⟨_,[s1.heap.objs.size+4,s1.heap.objs.size+3,s1.heap.objs.size,s1.heap.objs.size+1,s1.heap.objs.size+2],_,_,H1,rfl,I1.kept (t':=s1.toks) e7,Cg a b _ _ _ _ _ ?_,⟨e1,e2,⟨_,_,e3⟩,e4,e5⟩,fun c hb=>?_,q⟩
   ·refine⟨?_,?_,?_,?_,?_,?_,?_,?_,?_,?_,?_,?_,?_,?_,?_,?_,?_,?_⟩<;>(show @Ne Nat _ _;omega)
   have e:c=s1.heap.objs.size+4\/c=s1.heap.objs.size+3\/c=s1.heap.objs.size\/c=s1.heap.objs.size+1\/c=s1.heap.objs.size+2:=by simpa using hb
   have hle:s1.heap.objs.size<=c:=by rcases e with rfl|rfl|rfl|rfl|rfl<;>omega
   exact I1.fpOk hle (I1.hok.fresh hle)
section
variable{X:Cx}{pins:List (Addr×Obj)}{σ:List (Option V)}{H H':Hp}{s:Shared}{h':Heap}
theorem Inv.freeze{a:Addr}{o:Obj}{kvs:List (Key×V)}(I:Inv X pins σ H s)(e:H a=some (.dK kvs))(ho:s.heap.get? a=some o):Inv X pins σ (upd H a (.frz o (.dK kvs))) s:=by
 have na:∀ b u,H b=some u->u≠.dK kvs->b≠a:=fun b u q n z=>by subst z;rw[q] at e;exact n (Option.some.inj e)
 refine I.un (h':=s.heap) (t':=s.toks) ⟨fun b o q _ _ _=>q,fun b o q _ _ _=>⟨o.slots,q⟩,fun b o q n _=>?_,fun b o q _=>⟨o,q⟩,fun b ys q=>?_,fun b o v q=>?_,fun b ps q=>⟨#[],?_⟩⟩ fun b u q=>?_
 ·rw[Zg (fun z=>by subst z;rw[n] at e;cases e)];exact n
 ·rw[Zg (na b _ q fun z=>nomatch z)];exact q
 ·rw[Zg (na b _ q fun z=>nomatch z)];exact q
 ·rw[Zg (na b _ q fun z=>nomatch z),q];simp
 ·have stay:∀ {b u},Yh X.prog X.w H s.heap b u->Yh X.prog X.w (upd H a (.frz o (.dK kvs))) s.heap b u:=fun {b u} k=>k.stay (fun _ _ _ q=>q) (fun c q=>by rw[Zg (na c _ q fun z=>nomatch z)];exact q) fun c _ q=>by rw[Zg (na c _ q fun z=>nomatch z)];exact q
  by_cases hb:b=a
  ·subst hb;rw[Zb] at q;cases q;exact⟨ho,stay (I.hok b _ e)⟩
  ·rw[Zg hb] at q;exact stay (I.hok b u q)
end
noncomputable def Itk(a:Addr)(o:Obj)(kvs:List (Key×V)):It :=
 ⟨fun i H=>H a=some (.frz o (.dK kvs))/\i<kvs.length,fun i H x H'=>H'=H/\∃ p,kvs[i]?=some p/\x=kV p.1,fun i H=>H a=some (.frz o (.dK kvs))/\kvs.length<=i⟩
theorem Ci{X:Cx}{pins:List (Addr×Obj)}{σ:List (Option V)}{H:Hp}{s:Shared}{a:Addr}{o:Obj}{kvs:List (Key×V)}(I:Inv X pins σ H s)(e:H a=some (.frz o (.dK kvs))):∃ vs,KV kvs vs/\∃ es ep,o.data=.dict es ep/\s.heap.DictAt (Yb X.prog X.w) a vs ep:=by
 obtain⟨h1,hz,hm,vs,kv,o',es,ep,h2,h3,h4,h5⟩:=(show Yh X.prog X.w H s.heap a (.frz o (.dK kvs)) from I.hok a _ e);rw[h1] at h2;cases h2;exact⟨vs,kv,es,ep,h4,o,es,h1,h3,h4,h5⟩
theorem Ee{P:Program}{w:World}{K:Frag}{tg:Expr}(a it:Addr)(o:Obj)(kvs:List (Key×V))(es:Array DictEntry)(ep:Nat)(ho:o.data=.dict es ep):Ks P w K tg (Itk a o kvs) [it] it (fun i h=>h.IsKeyIter it a i kvs.length ep) where
 mem:=by simp
 obj:=fun i h st b hb=>by
  have e:b=it:=by simpa using hb
  subst e;obtain⟨o,e,c,d⟩:=st;exact⟨o,e,fun v z=>by rw[d] at z;cases z⟩
 keep:=fun i h h' st k=>by
  obtain⟨o,e,c,d⟩:=st;exact⟨o,k it (by simp) o e,c,d⟩
 item:=by
  intro X hP hw hK hc i pins s σ H E I hf st hg;subst hP hw hK;obtain⟨hq,hi⟩:=hg;obtain⟨vs,kv,es',ep',h1,h2⟩:=Ci I hq;rw[ho] at h1;cases h1;obtain⟨f0,f1,f2,f3,f4,f5⟩:=hf it (by simp);have hl:kvs.length=vs.length:=KV.length kv;have hv:i<vs.length:=by omega
  obtain⟨⟨k,v⟩,hkv⟩:∃ kv,vs[i]'hv=kv:=⟨_,rfl⟩;rw[hl] at st;refine wpAny_pyNext_dict_item st h2 (k:=k) (v:=v) (by rw[zqy hv,hkv]) fun key h' hk st' sb=>?_;have I1:Inv X pins σ H { s with heap:=h' }:=I.turned (t':=s.toks) (fun b o hb e=>(sb.2 b hb).trans e) f0 f1 f3 f4 f5;obtain⟨o2,e2,c2,d2⟩:=id st';have ek:=congrArg (·[i]?) (KV.keys kv);simp only[zq7,zqy hv,zqy hi,hkv,zrz] at ek;refine⟨key,rfl,E3 (s:={ s with heap:=h' }) e2 c2 d2 ⋯ ⟨kV (kvs[i]'hi).1,H,I1,?_,⟨rfl,_,zqy hi,rfl⟩,by rw[hl];exact st',fun b hb=>(hf b hb).1⟩⟩;have e3:(kvs[i]'hi).1=k:=Option.some.inj ek;rw[e3];rcases Yf hk with ⟨j,t,rfl,rfl⟩|⟨z,t,rfl,rfl⟩
  ·exact⟨t,rfl⟩
  ·exact⟨t,rfl⟩
 done:=by
  intro X hP hw hK hc i pins s σ H E I hf st hg;subst hP hw hK;obtain⟨hq,hi⟩:=hg;obtain⟨vs,kv,es',ep',h1,h2⟩:=Ci I hq;rw[ho] at h1;cases h1;obtain⟨f0,f1,f2,f3,f4,f5⟩:=hf it (by simp);have hl:kvs.length=vs.length:=KV.length kv;rw[hl] at st;exact wpAny_pyNext_dict_end (I.ok.hd hc) st h2 (List.getElem?_eq_none ⋯) fun h' eb=>⟨rfl,I.turned (t':=s.toks) (fun b o hb e=>eb b o hb e) f0 f1 f3 f4 f5⟩
 self:=fun _ _ _ _ _ st h=>wpAny_pyIter_keyiter st h
inductive za6(R:It->Hp->Prop)(x:V)(H1:Hp):Prop where
 | mk(a)(kvs)(_:x=.ref a)(_:H1 a=some (.dK kvs))(_:∀ o,R (Itk a o kvs) (upd H1 a (.frz o (.dK kvs))))
noncomputable def zcl(tl:TE):TI:=fun σ H R=>tl σ H fun x H1=>za6 R x H1
theorem B0{X:Cx}{tg:Expr}{l:Expr}{tl:TE}(hl:PE X l tl):PI X tg l (zcl tl):=by
 intro pins s σ H R I h;refine thn (hl pins s σ H _ I h) fun v s1 ⟨x,H1,I1,r1,q1⟩=>?_;obtain⟨a,kvs,e,hq,q⟩:=q1;subst e;cases r1;obtain⟨hz,hm,vs,kv,o,es,ep,h2,h3,h4,h5⟩:=(show Yh X.prog X.w H1 s1.heap a (.dK kvs) from I1.hok a _ hq);have hl:kvs.length=vs.length:=KV.length kv;have I2:=I1.freeze hq h2;refine wpAny_pyIter_dict hm ⟨o,es,h2,h3,h4,h5⟩ ?_;refine⟨s1.heap.objs.size,[s1.heap.objs.size],_,_,_,rfl,I2.kept (t':=s1.toks) fun b o e=>Heap.get?_push_of_some _ e,Ee a _ o kvs es ep h4,⟨_,Heap.get?_push_size _ rfl,rfl,by rw[hl];rfl⟩,fun b hb=>?_,q o⟩;have e:b=s1.heap.objs.size:=by simpa using hb
 subst e;exact I2.fpOk (zq1 _) (I2.hok.fresh (zq1 _))
theorem Cj{a:Addr}{o:Obj}{kvs:List (Key×V)}{g:TG}{tb:TS}{D:Um}{σ:St}{H:Hp}(Pv:Nat->St->Hp->Prop)(h0:Pv 0 σ H)(hl:∀ i σ H,i<=kvs.length->Pv i σ H->H a=some (.frz o (.dK kvs)))
  (hs:∀ i k v σ H,kvs[i]?=some (k,v)->Pv i σ H->g (kV k) σ H fun σ2 H2=>tb { D with nx:=Pv (i+1),ct:=Pv (i+1),bk:=D.nx } σ2 H2) (hd:∀ σ H,Pv kvs.length σ H->D.nx σ H) :
  ∃ W:Nat->Nat->St->Hp->Prop,(∃ m,W 0 m σ H)/\∀ i m σ H,W i m σ H ->
    ((Itk a o kvs).stop i H/\D.nx σ H)\/((Itk a o kvs).go i H/\∃ N:St->Hp->Prop,(∀ σ' H',N σ' H'->∃ m',m' < m/\W (i+1) m' σ' H')/\∀ x H',(Itk a o kvs).yld i H x H'->g x σ H' fun σ2 H2=>tb { D with nx:=N,ct:=N,bk:=D.nx } σ2 H2):=by
 refine⟨fun i m σ H=>m=kvs.length-i/\i<=kvs.length/\Pv i σ H,⟨kvs.length,by simp,zrj _,h0⟩,?_⟩;rintro i m σ H ⟨rfl,hi,p⟩;have q:=hl i σ H hi p;by_cases hlt:i<kvs.length
 ·refine .inr ⟨⟨q,hlt⟩,Pv (i+1),fun σ' H' p'=>⟨kvs.length-(i+1),by omega,rfl,hlt,p'⟩,fun x H' y=>?_⟩;obtain⟨e,⟨k,v⟩,y,rfl⟩:=y;subst e;exact hs i k v σ _ y p
 ·have e:i=kvs.length:=by omega
  subst e;exact .inl ⟨⟨q,zq1 _⟩,hd σ H p⟩
theorem Ef{X:Cx}(hc:X.calm=true):Vo X (.builtin "max") (fun xs H Q=>∃ (l:Addr) (kvs:List (Key×V)) (ns:List Int),xs=[.ref l]/\Rd H l (.dK kvs)/\kvs.map (·.1)=ns.map inl/\0<ns.length/\∀ M,M∈ns->(∀ a∈ns,a<=M)->Q (.int M) H):=by
 intro pins s σ H xs us Q I r h;obtain⟨l,kvs,ns,rfl,hl,hns,hpos,q⟩:=h;obtain⟨u,rfl,ru⟩:=S4 r;cases ru;obtain⟨hz,hm,vs,kv,o,es,ep,h2,h3,h4,h5⟩:=S5 I.hok hl;have hlen:vs.length=ns.length:=by
  have e1:=KV.length kv;have e2:=congrArg List.length hns;rw[zqx,zqx] at e2;omega
 have hlt:l<s.heap.objs.size:=Heap.lt_size h2;have da:s.heap.DictAt (Yb X.prog X.w) l vs ep:=⟨o,es,h2,h3,h4,h5⟩;have val:∀ (i:Nat) (v:Value),(∃ k y,vs[i]?=some (k,y)/\(Yb X.prog X.w).is k v=true)->∃ t,v=.int (ns.getD i 0) t:=fun i v ⟨k,y,hk,hv⟩=>by
  have e1:=congrArg (·[i]?) (KV.keys kv);have e2:=congrArg (·[i]?) hns;simp only[zq7,hk,zrz] at e1 e2;rw[e1] at e2;have hi:i<ns.length:=by
   rw[<- hlen];exact(zqz.mp hk).1
  rw[zqy hi] at e2;have e3:k=inl (ns[i]'hi):=Option.some.inj e2;have e4:ns.getD i 0=ns[i]'hi:=by rw[zrp,zqy hi];rfl
  rw[e4];rcases Yf hv with ⟨j,t,rfl,rfl⟩|⟨z,t,rfl,rfl⟩
  ·cases e3;exact⟨t,rfl⟩
  ·cases e3
 refine call_max_walk (wpAny_pyIter_dict hm da ?_);refine⟨s.heap.objs.size,[s.heap.objs.size,l],[s.heap.objs.size],vs.length,_,_,_,rfl,Walks.dictKeys (knd:=Yb X.prog X.w) (A:=X.A.in1) (I.ok.hd hc) _ l (zrk hlt) vs ep,⟨⟨_,Heap.get?_push_size _ rfl,rfl,rfl⟩,da.push _⟩,fun b hb=>?_,by omega,CmpOf.ints_gt (fun i=>ns.getD i 0) (fun i v hv=>val i v hv),fun v h' tk hP hk=>?_⟩
 ·show b<(s.heap.push _).objs.size;rw[Heap.size_push];rcases zq0.mp hb with rfl|hb
  ·exact Nat.lt_succ_self _
  ·rcases zq0.mp hb with rfl|hb
   ·exact zsf hlt
   ·cases hb
 ·obtain⟨h1,h2⟩:=argBest_gt (fun i=>ns.getD i 0) (vs.length-1);obtain⟨t,rfl⟩:=val _ v hP;rw[hlen] at h1 h2 ⊢;generalize argBest (fun i j=>decide ((fun i=>ns.getD i 0) i>(fun i=>ns.getD i 0) j)) (ns.length-1)=b at h1 h2 ⊢;have hb:b<ns.length:=by omega
  have eg:∀ (k:Nat) (hk:k<ns.length),ns.getD k 0=ns[k]'hk:=fun k hk=>by rw[zrp,zqy hk];rfl
  refine⟨.int (ns.getD b 0),H,I.kept fun c o e=>?_,⟨_,rfl⟩,q _ (by rw[eg b hb];exact zr3 hb) fun x hx=>?_⟩
  ·refine hk c o (fun hm=>?_) (Heap.get?_push_of_some _ e);rw[zq3.mp hm] at e;exact zr7 _ (Heap.lt_size e)
  ·obtain⟨k,hk',rfl⟩:=zr6 hx;have:=h2 k ⋯;show ns[k]<=_;rw[<- eg k hk'];exact this
theorem Ri{prog:Program}{w:World}{A:Around}{R:Result->Shared->Prop}{s:Shared}{elt target iter:Expr}{ifs:List Expr}{scope:Scope}{pos:Pos}{it acc:Value}{env:Env}(I:Nat->Shared->Prop)
  (turn:∀ (n:Nat) (s:Shared),I n s->wpAny (model prog w) A (pyNext it) (fun r s₁=>match r with
   | none=>R (.ok .next) s₁
   | some v=>wpAny (model prog w) A (letOwnedTupleGo target it v) (fun _ s₁'=>wpAny (model prog w) A (assign target env v) (fun _ s₂=>wpAny (model prog w) A (forIn ifs true fun c r=>if r=true then do let ok <- isTrue c env (eval c env);pure (ForInStep.yield ok) else pure (ForInStep.yield r)) (fun ok s₃=>if ok=true then wpAny (model prog w) A (eval elt env) (fun x s₄=>wpAny (model prog w) A (call (.builtin "list.append") [acc,x]) (fun _ s₅=>∃ m,m<n/\I m s₅) (notedBy (model prog w) A env fun e s'=>R (.error e) s') s₄) (notedBy (model prog w) A env fun e s'=>R (.error e) s') s₃ else ∃ m,m<n/\I m s₃) (notedBy (model prog w) A env fun e s'=>R (.error e) s') s₂) (notedBy (model prog w) A env fun e s'=>R (.error e) s') s₁') (notedBy (model prog w) A env fun e s'=>R (.error e) s') s₁) (notedBy (model prog w) A env fun e s'=>R (.error e) s') s)
  (n:Nat) (h:I n s):codeAny (model prog w) A (.compLoop (.ListComp elt [⟨target,iter,ifs,0⟩] scope pos) 0 it acc env) R s:=by
 refine codeAny_loop rfl I (fun n s hI=>?_) n h;refine wpAny_noted ?_;rw[compTurn_list];refine wpAny_bind (wpAny_standAt (wpAny_bind (wpAny_mono (turn n s hI) (fun r s₁ h₁=>?_) fun _ _ z=>z)));cases r with
 | none=>exact wpAny_pure h₁
 | some v =>
   refine wpAny_bind (wpAny_mono h₁ (fun _ s₁' h₂=>wpAny_bind (wpAny_mono h₂ (fun _ s₂ h₃=>wpAny_bind (wpAny_mono h₃ (fun ok s₃ h₄=>?_) fun _ _ z=>z)) fun _ _ z=>z)) fun _ _ z=>z);cases ok with
   | false =>
     simp only[zr0,if_false] at h₄ ⊢;exact wpAny_pure ⟨rfl,h₄⟩
   | true =>
     simp only[if_true] at h₄ ⊢;refine wpAny_bind (wpAny_bind (wpAny_mono h₄ (fun x s₄ h₅=>wpAny_bind (wpAny_mono h₅ (fun _ s₅ h₆=>wpAny_pure (wpAny_pure ⟨rfl,h₆⟩)) fun _ _ z=>z)) fun _ _ z=>z))
noncomputable def cs0(xo:List Str)(js:List Nat)(σ:St):St:=(xo.map fun _=>none)++js.map fun j=>(σ[j]?).getD none
noncomputable def Sm(xo:List Str)(js:List Nat)(σ σ2:St):Prop:=∃ os:St,os.length=xo.length/\σ2=os++js.map fun j=>(σ[j]?).getD none
theorem Sm.weak{X:Cx}{pins:List (Addr×Obj)}{H:Hp}{s:Shared}{xo:List Str}{js:List Nat}{σ σ2:St}(o:Sm xo js σ σ2)(I:Inv X pins σ2 H s):Inv X pins (cs0 xo js σ) H s:=by
 obtain⟨os,hl,rfl⟩:=o;refine I.weak (by unfold cs0;simp[hl]) fun i v e=>?_;unfold cs0 at e;by_cases hi:i<xo.length
 ·rw[zrv (by rw[zqx];exact hi),zq7,zqy hi] at e;cases e
 ·rw[zrt (by rw[zqx];omega),zqx] at e;rw[zrt ⋯,hl];exact e
noncomputable def He(J:It)(xo:List Str)(js:List Nat)(g:TG)(tt:TT)(te:TE)(σ:St)(H:Hp)(Q:VK):Prop:=∃ W:Nat->Nat->List V->Hp->Prop,(∃ m,W 0 m [] H)/\∀ i m ys H,W i m ys H ->
 (J.stop i H/\ys.length<=sizeLine/\∀ p,H p=none->Q (.ref p) (upd H p (.lst ys))) \/
 (J.go i H/\ys.length<sizeLine/\∃ N:List V->Hp->Prop,(∀ ys' H',N ys' H'->∃ m',m' < m/\W (i+1) m' ys' H')/\∀ x H',J.yld i H x H'->g x (cs0 xo js σ) H' fun σ2 H1=>Sm xo js σ σ2/\tt σ2 H1 fun b H2=>if b=true then te σ2 H2 fun y H3=>N (ys++[y]) H3 else N ys H2)
noncomputable def za7(wi:TI)(xo:List Str)(js:List Nat)(g:TG)(tt:TT)(te:TE):TE:=fun σ H Q=>wi σ H fun J H1=>He J xo js g tt te σ H1 Q
section
variable{X:Cx}{elt iter tg:Expr}{xo:List Str}{pos:Pos}{ifs:List Expr}{scope:Scope}{cl:List (Str×Addr)}{ys:List Str}{js:List Nat}{g:TG}
structure Qa(X:Cx)(xo:List Str)(scope:Scope)(cl:List (Str×Addr))(ys:List Str)(js:List Nat):Prop where
 clos:closureFor scope X.env=pure cl
 kind:scope.kind=.function
 names:∀ y∈scope.names,y.2=.local->scope.names.lookup y.1=some .local
 nocell:∀ y∈scope.names,y.2≠.cell
 at_:js.map (X.N[·]?)=ys.map some
 free:N9 (fun y=>X.env.kindOf y=some .cell/\(relabel scope X.env).names.lookup y=some .cell/\cl.lookup y=X.env.cells.lookup y) ys
 only:N9 (fun p=>X.env.cells.lookup p.1=some p.2) cl
 vis:∀ y∈scope.names,y.2=.free->y.1∈ys
theorem Qa.same(c:Qa X xo scope cl ys js){y:Str}{a:Addr}(h:cl.lookup y=some a):X.env.cells.lookup y=some a:=c.only.get (PySem.mem_of_lookup h)
theorem Ck{pins:List (Addr×Obj)}{σ:St}{H:Hp}{s:Shared}{fp:List Addr}{C:Addr}{pn:List (Addr×Obj)}{Nc:List Str}(c:Qa X xo scope cl ys js)(I:Inv X pins σ H s)(hf:∀ b∈fp,FpOk X pins H b)(hex:∀ b∈fp,b<s.heap.objs.size)(hC:s.heap.objs.size<=C) :
  (Ye X pn Nc scope cl s H fp C).Ok where
 mod:=I.ok.mod
 kind:=c.kind
 glob:=I.ok.glob
 blt:=I.ok.blt
 above:=hC
 inj:=fun y z a h1 h2=>I.ok.inj y z a (c.same h1) (c.same h2)
 has:=fun y h=>by
  obtain⟨k,m,q⟩:=R8 h;rcases q with rfl|rfl
  ·exact absurd rfl (c.nocell _ m)
  ·obtain⟨a1,a2,a3⟩:=c.free.get (c.vis _ m rfl);obtain⟨a,ha⟩:=I.ok.has y (.inl a1);exact⟨a,a3.trans ha⟩
 cab:=fun _ _ h=>by cases h
 hd:=I.ok.hd
 frames:=I.ok.frames
 stk:=.inl rfl
 exf:=fun b hb=>by
  obtain⟨f0,f1,f2,f3,f4,f5⟩:=hf b hb;exact⟨zrk (zra (hex b hb) hC),fun y a h=>f4 y a (c.same h)⟩
 bs:=I.bs
 bsz:=zro I.ok.bsz I.sz
 noex:=fun b o q hb=>by
  obtain⟨f0,f1,f2,f3,f4,f5⟩:=hf b hb;rcases f3 with z|z
  ·exact I.ok.noex b o q z
  ·exact absurd (zra (Heap.lt_size (I.ok.bs b o q).1) z) (zr7 _)
 exfs:=fun b hb m=>by
  obtain⟨f0,f1,f2,f3,f4,f5⟩:=hf b hb;exact(zq0.mp (I.stkSub b m)).elim f1 f2
 funs:=I.stack
 frf:=I.stkFree
theorem Eg{pins:List (Addr×Obj)}{σ:St}{H:Hp}{s:Shared}{fp:List Addr}{C:Addr}{h1:Heap}{t1:Nat}{m1:Str->Option Value}(c:Qa X xo scope cl ys js)(I:Inv X pins σ H s)(hf:∀ b∈fp,FpOk X pins H b)(hex:∀ b∈fp,b<s.heap.objs.size)(hC:s.heap.objs.size<=C)
  (hns:h1.Ns C m1) (old:∀ b o,s.heap.get? b=some o->h1.get? b=some o) :
  Inv (Ye X (X.pn++pins) (xo++ys) scope cl s H fp C) [] (cs0 xo js σ) H { s with heap:=h1,toks:=t1 }:=by
 obtain⟨m,hn,hl⟩:=I.loc;have jl:js.length=ys.length:=by have:=congrArg List.length c.at_;simpa using this
 refine⟨Ck c I hf hex hC,rfl,I.bare,Un.kept old,⟨m1,hns,fun i y v e1 e2 e3=>?_⟩,fun y a h=>?_,I.hok.fresh hC,fun y a h=>I.freeC y a (c.same h),fun p hp=>?_,I.hok.kept old,by simp[jl,Ye,cs0]⟩
 ·have e2:=e2.resolve_right (Xf _);unfold cs0 at e2;by_cases hi:i<xo.length
  ·rw[zrv (by rw[zqx];exact hi),zq7,zqy hi] at e2;cases e2
  ·rw[zrt (by rw[zqx];omega),zqx] at e2;have e1:ys[i-xo.length]?=some y:=by
    have e1:(xo++ys)[i]?=some y:=e1;rw[zrt ⋯] at e1;exact e1
   generalize i-xo.length=k at e1 e2;rw[zq7] at e2;cases hj:js[k]? with
   | none=>rw[hj] at e2;cases e2
   | some j =>
     rw[hj] at e2;have ej:X.N[j]?=some y:=by
      have q:=congrArg (·[k]?) c.at_;simp only[zq7,hj,e1,zrz] at q;exact Option.some.inj q
     have ev:σ[j]?=some (some v):=by
      simp only[zrz,Option.some.injEq] at e2;cases hσ:σ[j]? with
      | none=>rw[hσ] at e2;cases e2
      | some o=>rw[hσ] at e2;rw[show o=some v from e2]
     obtain⟨a1,a2,a3⟩:=c.free.get (zq9 e1);obtain⟨u,r,l⟩:=hl j y v ej (.inl ev) (.inr (.inl a1));refine⟨u,r,.inr ⟨.inl a2,?_⟩⟩;rcases l with ⟨k1,_⟩|⟨_,b,e,z⟩
     ·rw[a1] at k1;cases k1
     ·obtain⟨o,ho,hd⟩:=z;exact⟨b,a3.trans e,o,old _ _ ho,hd⟩
 ·obtain⟨v,o,ho,hd⟩:=I.cell y a (c.same h);exact⟨v,o,old _ _ ho,hd⟩
 ·obtain⟨e,n,ne,nf,d⟩:=I.pin p (by simpa [Ye] using hp);refine⟨old _ _ e,n,zrk (zra (Heap.lt_size e) hC),fun m=>?_,d⟩;exact(zq0.mp (I.stkSub _ m)).elim ne nf
theorem Nb{pins:List (Addr×Obj)}{σ:St}{H:Hp}{s:Shared}{tt:TT}{te:TE}{it:Addr}{fp:List Addr}{tn:Nat->Heap->Prop}{J:It}{W:Nat->Nat->List V->Hp->Prop}{m0:Nat}{Q:VK}{E:Value->Shared->Prop}{RR:Value->Addr->Result->Shared->Prop}
  (hcm:X.calm=true) (c:Qa X xo scope cl ys js) (ht:∀ pn s₀ H₀ fp C,PTs (Ye X pn (xo++ys) scope cl s₀ H₀ fp C) ifs tt) (hgt:∀ pn s₀ H₀ fp C,PG (Ye X pn (xo++ys) scope cl s₀ H₀ fp C) tg g) (he:∀ pn s₀ H₀ fp C,PE (Ye X pn (xo++ys) scope cl s₀ H₀ fp C) elt te)
  (I:Inv X pins σ H s) (T:Ks X.prog X.w X.K tg J fp it tn) (st0:tn 0 s.heap) (hf:∀ b∈fp,FpOk X pins H b) (w0:W 0 m0 [] H)
  (turn:∀ i m ys H,W i m ys H->(J.stop i H/\ys.length<=sizeLine/\∀ p,H p=none->Q (.ref p) (upd H p (.lst ys))) \/
   (J.go i H/\ys.length<sizeLine/\∃ N:List V->Hp->Prop,(∀ ys' H',N ys' H'->∃ m',m' < m/\W (i+1) m' ys' H')/\∀ x H',J.yld i H x H'->g x (cs0 xo js σ) H' fun σ2 H1=>Sm xo js σ σ2/\tt σ2 H1 fun b H2=>if b=true then te σ2 H2 fun y H3=>N (ys++[y]) H3 else N ys H2))
  (hRR:∀ D C s' m,s'.heap.Ns C m->(∀ h',Heap.SameBut C s'.heap h'->∃ H',Inv X pins σ H' { s' with heap:=h' }/\Q (.ref D) H')->(∃ H',Inv X pins σ H' s'/\Q (.ref D) H'/\H' C=none)->s.heap.objs.size<=C->RR (.ref D) C (.ok .next) s') :
  wpAny (model X.prog X.w) X.A (newList []) (fun acc s₃=>wpAny (model X.prog X.w) X.A (newFunctionEnv scope X.env.globals cl [] X.env.qual none .none (some X.env)) (fun cenv s₄ =>
   codeAny (model X.prog X.w) X.A (.compStart (.ListComp elt [⟨tg,iter,ifs,0⟩] scope pos) 0 (.ref it) acc { cenv with scope:=relabel scope X.env }) (RR acc cenv.locals) s₄) E s₃) E s:=by
 refine wpAny_newObj_type (wpAny_newFunctionEnv c.nocell (by intro y hy;simp at hy) (fun h₁ hns₁ hsb₁=>?_) c.kind);dsimp only at hns₁ hsb₁ ⊢;generalize hH2:s.heap.push { cls:=.type "list",dict:=none,data:=.seq ([]:List Value).toArray }=G at hns₁ hsb₁ ⊢;generalize hD:s.heap.objs.size=D;have hC:G.objs.size=D+1:=by rw[<- hH2,Heap.size_push,hD]
 generalize hCe:G.objs.size=C at hns₁ hsb₁ ⊢;have hCD:C=D+1:=hCe.symm.trans hC;have hDC:D≠C:=by omega
 have below:∀ b o,s.heap.get? b=some o->b<D:=fun b o e=>by rw[<- hD];exact Heap.lt_size e
 have ltC:∀ b:Addr,b<D->b≠C:=fun b h=>zrk (hCD▸zsf h);have ltD:∀ b:Addr,b<D->b≠D:=fun b h=>zrk h;have old:∀ b o,s.heap.get? b=some o->h₁.get? b=some o:=fun b o e=>hsb₁.extBut b o (ltC b (below b o e)) (Heap.get?_push_of_some _ (hH2▸Heap.get?_push_of_some _ e));have hacc:h₁.PlainList D #[]:=⟨_,hsb₁.extBut _ _ hDC (Heap.get?_push_of_some _ (by rw[<- hH2,<- hD];exact Heap.get?_push_size _ rfl))⟩;have hex:∀ b∈fp,b<s.heap.objs.size:=fun b hb=>by
  obtain⟨o,e,_⟩:=T.obj _ _ st0 b hb;exact Heap.lt_size e
 have lt0:∀ b∈fp,b<D:=fun b hb=>by rw[<- hD];exact hex b hb
 have freshD:s.heap.get? D=none:=Heap.get?_none_of_le ⋯;have freshC:s.heap.get? C=none:=Heap.get?_none_of_le ⋯;have frE:∀ {H':Hp},(∀ b∈fp,H' b=none)->∀ {o:Obj} {b:Addr},b∈fp->FpOk (Ye X (X.pn++pins) (xo++ys) scope cl s H fp C) [(D,o)] H' b:=fun {H'} hn {o b} hb=>by
  obtain⟨f0,f1,f2,f3,f4,f5⟩:=hf b hb;refine⟨hn b hb,?_,?_,.inl hb,fun y a h=>f4 y a (c.same h),fun p hp=>?_⟩
  ·exact ltC b (lt0 b hb)
  ·exact fun m=>(zq0.mp (I.stkSub b m)).elim f1 f2
  ·rcases zrd.mp hp with z|z
   ·exact f5 p z
   ·rw[zq3.mp z];exact Ne.symm (ltD b (lt0 b hb))
 have pinD:∀ {σ':St} {H':Hp} {s':Shared} {o:Obj},Inv (Ye X (X.pn++pins) (xo++ys) scope cl s H fp C) [] σ' H' s'->s'.heap.get? D=some o->(∀ v,o.data≠.cell v)->H' D=none->Inv (Ye X (X.pn++pins) (xo++ys) scope cl s H fp C) [(D,o)] σ' H' s':=fun {σ' H' s' o} Ic e nc n =>
  Ic.pins_of fun p hp=>by
   rw[zq3.mp hp];refine⟨e,n,hDC,fun m=>?_,nc⟩;obtain⟨_,ob,hob,_⟩:=I.stack.mem m;exact absurd (below D ob hob) (zr7 _)
 have loop:∀ s₃:Shared,s₃={ s with heap:=h₁,toks:=s.toks+([]:List (Str×Value)).length } ->
   codeAny (model X.prog X.w) X.A (.compLoop (.ListComp elt [⟨tg,iter,ifs,0⟩] scope pos) 0 (.ref it) (.ref D) (compEnvC scope cl C X.env)) (RR (.ref D) C) s₃:=by
  rintro s₃ rfl;have I0:=Eg (t1:=s.toks+([]:List (Str×Value)).length) c I hf hex (by omega:s.heap.objs.size<=C) hns₁ old;refine Ri (fun n s'=>∃ i H' zs its,Inv (Ye X (X.pn++pins) (xo++ys) scope cl s H fp C) [] (cs0 xo js σ) H' s'/\tn i s'.heap/\(∀ b∈fp,H' b=none)/\s'.heap.PlainList D (its:List Value).toArray/\Vals zs its/\H' D=none/\W i n zs H') ?_ m0
   ⟨0,H,[],[],I0,T.keep _ _ _ st0 fun b hb o e=>old b o e,fun b hb=>(hf b hb).1,hacc,.nil,I.hok.fresh ⋯,w0⟩
  rintro n s3 ⟨i,H3,zs,its,I3,st3,fr3,⟨n3,pl3⟩,rv3,fD3,w3⟩;have I3':=pinD I3 pl3 (by intro v z;cases z) fD3;rcases turn i n zs H3 w3 with ⟨stop,hsz,fin⟩|⟨go,hsz,Nx,hNx,step⟩
  ·refine wpAny_mono (T.done (Ye X (X.pn++pins) (xo++ys) scope cl s H fp C) rfl rfl rfl hcm i _ s3 _ H3 (fun _ _=>False) I3' (fun b hb=>frE fr3 hb) st3 stop) (fun r s4 ⟨hr,I4⟩=>?_) fun _ _ z=>z.elim;subst hr;have plD:s4.heap.get? D=some _:=(I4.pin (D,{ cls:=Value.type "list",data:=.seq its.toArray n3 }) (zri _ zrq)).1;obtain⟨m4,hn4,_⟩:=I4.loc;have okU:∀ h',(∀ b o,b≠C->s4.heap.get? b=some o->h'.get? b=some o)->Inv X pins σ (upd H3 D (.lst zs)) { s4 with heap:=h' }:=fun h' k1=>by
    have u4:Un (frs X.stack) fp H H3 s.heap s4.heap:=I4.base;have neC:∀ b o,s.heap.get? b=some o->b≠C:=fun b o e=>ltC b (below b o e);have neD:∀ b o,s.heap.get? b=some o->b≠D:=fun b o e=>ltD b (below b o e);have trD:∀ b u,H3 b=some u->b≠D:=fun b u e z=>by rw[z,fD3] at e;cases e
    have trC:∀ b u,H3 b=some u->b≠C:=fun b u e z=>by rw[z,show H3 C=none from I4.free] at e;cases e
    have un:Un (frs X.stack) fp H (upd H3 D (.lst zs)) s.heap h':=by
     refine⟨fun b o e n hb hx=>k1 b o (neC b o e) (u4.keep b o e n hb hx),fun b o e n hb hx=>?_,fun b o e n hx=>?_,fun b o e hx=>?_,fun b xs e=>?_,fun b ob u e=>?_,fun b ps e=>?_⟩
     ·obtain⟨sl,z⟩:=u4.slot b o e n hb hx;exact⟨sl,k1 b _ (neC b o e) z⟩
     ·rw[Zg (neD b o e)];exact u4.free b o e n hx
     ·obtain⟨o',z⟩:=u4.there b o e hx;exact⟨o',k1 b o' (neC b o e) z⟩
     ·have z:=u4.tups b xs e;rw[Zg (trD b _ z)];exact z
     ·have z:=u4.frzs b ob u e;rw[Zg (trD b _ z)];exact z
     ·obtain⟨more,z⟩:=u4.tbls b ps e;exact⟨more,by rw[Zg (trD b _ z)];exact z⟩
    refine I.call' (s':={ s4 with heap:=h' }) (ch:=fp) (show s4.os=s.os from I4.os) un (fun b u e=>?_) I4.bare fun b hb=>?_
    ·by_cases hb:b=D
     ·subst hb;rw[Zb] at e;cases e;exact⟨hsz,its,n3,rv3,k1 _ _ hDC plD⟩
     ·rw[Zg hb] at e;refine(I4.hok b u e).stay (fun d v hd q=>?_) (fun d q=>by rw[Zg (trD d _ q)];exact q) fun d xs q=>by rw[Zg (trD d _ q)];exact q
      rcases hd with z|z
      ·exact k1 d v (by rw[z];exact trC b u e) q
      ·exact k1 d v (trC d _ z) q
    ·obtain⟨f0,f1,f2,f3,f4,f5⟩:=hf b hb;exact⟨f3,f1,f4,f5⟩
   refine hRR D C s4 m4 hn4 (fun h' hs'=>⟨_,okU h' (fun b o hb e=>hs'.extBut b o hb e),fin D fD3⟩) ⟨_,okU s4.heap (fun _ _ _ e=>e),fin D fD3,?_⟩ ⋯
   ·rw[Zg (Ne.symm hDC)];exact I4.free
  ·refine wpAny_mono (T.item (Ye X (X.pn++pins) (xo++ys) scope cl s H fp C) rfl rfl rfl hcm i _ s3 _ H3 (fun _ _=>False) I3' (fun b hb=>frE fr3 hb) st3 go) (fun r s4 ⟨u,hr,h4⟩=>?_) fun _ _ z=>z.elim;subst hr;refine wpAny_mono h4 (fun _ s5 h5=>?_) fun _ _ z=>z.elim;obtain⟨xv,H5,I5,r5,y5,st5,fr5⟩:=h5;have I5':=I5.pinned (fun b hb=>frE fr5 hb) (T.obj _ _ st5);refine wpAny_mono (hgt _ _ _ _ _ _ s5 _ H5 xv u _ I5' r5 (step xv H5 y5)) (fun _ s6 ⟨σ6,H6,I6,own6,q6⟩=>?_) fun _ _ z=>z.elim;refine wpAny_mono (ht _ _ _ _ _ _ s6 _ H6 _ I6 q6) (fun ok s7 ⟨H7,I7,q7⟩=>?_) fun _ _ z=>z.elim;have keepF:∀ {σ8:St} {H8:Hp} {s8:Shared},Inv (Ye X (X.pn++pins) (xo++ys) scope cl s H fp C) ([(D,{ cls:=Value.type "list",data:=.seq its.toArray n3 })]++Qr fp s5.heap) σ8 H8 s8->tn (i+1) s8.heap/\(∀ b∈fp,H8 b=none)/\s8.heap.PlainList D its.toArray/\H8 D=none:=fun {σ8 H8 s8} I8=>by
    refine⟨T.keep _ _ _ st5 fun b hb o e=>(I8.pin (b,o) (zri _ (zri _ (U7 hb e)))).1,fun b hb=>?_,⟨n3,(I8.pin (D,_) (zri _ zrq)).1⟩,(I8.pin (D,_) (zri _ zrq)).2.1⟩;obtain⟨o,e,d⟩:=T.obj _ _ st5 b hb;exact(I8.pin (b,o) (zri _ (zri _ (U7 hb e)))).2.1
   have bare:∀ {σ8:St} {H8:Hp} {s8:Shared},Inv (Ye X (X.pn++pins) (xo++ys) scope cl s H fp C) ([(D,{ cls:=Value.type "list",data:=.seq its.toArray n3 })]++Qr fp s5.heap) σ8 H8 s8->Inv (Ye X (X.pn++pins) (xo++ys) scope cl s H fp C) [] σ8 H8 s8:=fun I8=>I8.pins_of fun _ z=>(nomatch z)
   cases ok with
   | false =>
     simp only[zr0,if_false] at q7 ⊢;obtain⟨m',hm',w7⟩:=hNx _ _ q7;obtain⟨a1,a2,a3,a4⟩:=keepF I7;exact⟨m',hm',i+1,H7,zs,its,own6.weak (bare I7),a1,a2,a3,rv3,a4,w7⟩
   | true =>
     simp only[if_true] at q7 ⊢;refine wpAny_mono (he _ _ _ _ _ _ s7 _ H7 _ I7 q7) (fun y s8 ⟨yv,H8,I8,r8,q8⟩=>?_) fun _ _ z=>z.elim;obtain⟨m',hm',w8⟩:=hNx _ _ q8;obtain⟨a1,a2,a3,a4⟩:=keepF I8;have szI:its.toArray.size<=sizeLine:=by rw[zq6,<- rv3.length];omega
     refine wpAny_list_append_plain (hsz:=szI) a3 fun h9 pl9 sb9=>?_;have I8b:=own6.weak (bare I8);refine⟨m',hm',i+1,H8,zs++[yv],its++[y],?_,T.keep _ _ _ a1 fun b hb o e=>(sb9.2 b (ltD b (lt0 b hb))).trans e,a2,by rw[List.push_toArray] at pl9;exact pl9,rv3.append (.cons r8 .nil),a4,w8⟩;refine I8b.turned (t':=s8.toks) (it:=D) (fun b o hb e=>(sb9.2 b hb).trans e) a4 hDC (.inr (show s.heap.objs.size<=D by omega)) (fun y' a h=>?_) fun p hp=>?_
     ·obtain⟨v,o,ho,_⟩:=I.cell y' a (c.same h);exact ltD a (below a o ho)
     ·obtain⟨e,_⟩:=I.pin p (by simpa [Ye] using hp);exact ltD _ (below _ _ e)
 exact codeAny_compStart_list (loop _ rfl) (T.self _ 0 _ _ _ (T.keep _ _ _ st0 fun b hb o e=>old b o e) (loop _ rfl))
variable{wi:TI}{tt:TT}{te:TE}
theorem Nd(hcm:X.calm=true)(c:Qa X xo scope cl ys js)(hi:PI X tg iter wi)(ht:∀ pn s₀ H₀ fp C,PTs (Ye X pn (xo++ys) scope cl s₀ H₀ fp C) ifs tt)(hgt:∀ pn s₀ H₀ fp C,PG (Ye X pn (xo++ys) scope cl s₀ H₀ fp C) tg g)(he:∀ pn s₀ H₀ fp C,PE (Ye X pn (xo++ys) scope cl s₀ H₀ fp C) elt te)
  (hs:∀ x,foldedSetIterable iter X.env x=pure x:=by intro _;rfl):PE X (.ListComp elt [⟨tg,iter,ifs,0⟩] scope pos) (za7 wi xo js g tt te):=by
 intro pins s σ H Q I h;rw[eval_ListComp];refine wpAny_comprehension_free (use:=none) rfl hs c.clos c.kind c.names (thn (hi pins s σ H _ I h) fun v s1 h1=>thn h1 fun itv s2 h2=>?_);obtain⟨it,fp,tn,J,H2,e,I2,T,st2,f2,W,⟨m0,w0⟩,turn⟩:=h2;subst e;exact Nb (RR:=fun acc C=>compPost (model X.prog X.w) X.A X.xe none (EP X pins σ Q) acc C) hcm c ht hgt he I2 T st2 f2 w0 turn fun D C s' m hn hS _ _=>⟨m,hn,fun h' hs'=>let ⟨H',I',q⟩:=hS h' hs';⟨.ref D,H',I',rfl,q⟩⟩
end
end L2
namespace G
open PySem PySem.Spec PyProof.Rows L2
theorem Lb:∀ (a b:List (Nat×Option Int)) (xs:List V),Yo (a++b) xs=Yo b (Yo a xs)
 | [],_,_=>rfl
 | (p,w) :: r,b,xs=>by rw[List.cons_append,Yo,Yo,Lb r b]
structure Om(kvs:List (Key×V))(gs:List V):Prop where
 has:∀ (n:Int) (j:Nat),gs[j]?=some (.int n)->valV kvs (inl n:Key)=some (.int (j:Nat))
 not:∀ n:Int,(∀ j:Nat,gs[j]?≠some (.int n))->valV kvs (inl n:Key)=none
theorem Om.iff{kvs:List (Key×V)}{gs:List V}(t:Om kvs gs)(n:Int):(∃ j:Nat,gs[j]?=some (.int n)/\valV kvs (inl n:Key)=some (.int (j:Nat)))\/((∀ j:Nat,gs[j]?≠some (.int n))/\valV kvs (inl n:Key)=none):=by
 by_cases h:∃ j:Nat,gs[j]?=some (.int n)
 ·obtain⟨j,hj⟩:=h;exact .inl ⟨j,hj,t.has n j hj⟩
 ·have h':∀ j:Nat,gs[j]?≠some (.int n):=fun j hj=>h ⟨j,hj⟩;exact .inr ⟨h',t.not n h'⟩
inductive Gv(K:Frag)(vs:List V)(H:Hp)(Q:VK)(_:XK):Prop where
 | mk(b:Addr)(gs:List V)(_:vs=[.ref b])(_:H b=some (.lst gs))(_:(∀ x∈gs,oneV x))(_:(∀ (j k:Nat) (n:Int),gs[j]?=some (.int n)->gs[k]?=some (.int n)->j=k))(_:gs.length<=100)(_:∀ d kvs H',H' d=some (.dK kvs)->Om kvs gs->Same H H'->H d=none->Q (.ref d) H')
structure Y4(H:Hp)(into:List (Key×V))(line:List Nat)(fr:Nat->Option (Nat×Int)):Prop where
 keys:into.map (·.1)=line.map fun q:Nat=>(inl (q:Int):Key)
 none:∀ q∈line,fr q=Option.none->valV into (inl (q:Int):Key)=some .non
 some:∀ q∈line,∀ par n,fr q=Option.some (par,n)->∃ t,valV into (inl (q:Int):Key)=Option.some (.ref t)/\H t=Option.some (.tup [.int (par:Nat),.int n])
theorem Y4.same{H H':Hp}{into:List (Key×V)}{line:List Nat}{fr:Nat->Option (Nat×Int)}(e:Same H H')(h:Y4 H into line fr):Y4 H' into line fr :=
 ⟨h.keys,h.none,fun q hq par n hf=>let ⟨t,a,b⟩:=h.some q hq par n hf;⟨t,a,e _ _ b⟩⟩
theorem Y4.len{H:Hp}{into:List (Key×V)}{line:List Nat}{fr:Nat->Option (Nat×Int)}(h:Y4 H into line fr):into.length=line.length:=by
 have:=congrArg List.length h.keys;rw[zqx,zqx] at this;exact this
theorem Cm{into:List (Key×V)}{k:Key}:(valV into k).isSome=true↔k∈into.map Prod.fst:=by
 unfold valV;rw[Option.isSome_map,List.find?_isSome];constructor
 ·rintro⟨p,hp,e⟩;exact zrg.mpr ⟨p,hp,of_decide_eq_true e⟩
 ·intro h;obtain⟨p,hp,rfl⟩:=zrg.mp h;exact⟨p,hp,zq2 rfl⟩
theorem Y4.has{H:Hp}{into:List (Key×V)}{line:List Nat}{fr:Nat->Option (Nat×Int)}(h:Y4 H into line fr)(q:Nat):(valV into (inl (q:Int):Key)).isSome=true↔q∈line:=by
 rw[Cm,h.keys];constructor
 ·intro z;obtain⟨q',h1,h2⟩:=zrg.mp z;have:(q':Int)=q:=inl.inj h2;have:q'=q:=by omega
  rw[<- this];exact h1
 ·intro hq;exact zrg.mpr ⟨q,hq,rfl⟩
inductive Cn(K:Frag)(vs:List V)(H:Hp)(Q:VK)(_:XK):Prop where
 | mk(l d:Addr)(ls:List Addr)(rows:List (List Int))(kvs:List (Key×V))(gs:List V)(p:Nat)(_:vs=[.ref l,.ref d,.int p])(_:H l=some (.lst (ls.map V.ref)))(_:ILs H ls rows)(_:rows.length<=100)(_:H d=some (.dK kvs))(_:Om kvs gs)(_:Yx rows gs)(_:p<rows.length)(_:∀ t into line dep fr H',H' t=some (.dK into)->Y4 H' into line fr->Bfs rows gs p line dep->Done rows gs line dep line.length->Ua rows gs p line dep fr->(∀ q∈line,q<rows.length)->Same H H'->H t=none->Q (.ref t) H')
inductive Lc(K:Frag)(vs:List V)(H:Hp)(Q:VK)(_:XK):Prop where
 | mk(l d:Addr)(r:List Int)(kvs:List (Key×V))(_:vs=[.ref l,.ref d])(_:H l=some (.lst (r.map V.int)))(_:H d=some (.dK kvs))(_:∀ w:Option Int,(∀ n,w=some n->n∈r/\valV kvs (inl n:Key)=none)->(w=none->∀ n∈r,(valV kvs (inl n:Key)).isSome=true)->Q (oV w) H)
inductive Jc(K:Frag)(vs:List V)(H:Hp)(Q:VK)(_:XK):Prop where
 | mk(t:Addr)(q p:Nat)(w:Option Int)(rows:List (List Int))(gs:List V)(into:List (Key×V))(line:List Nat)(dep:Nat->Nat)(fr:Nat->Option (Nat×Int))(_:vs=[.ref t,.int q,oV w])(_:Rd H t (.dK into))(_:Y4 H into line fr)(_:Ua rows gs p line dep fr)(_:dep p=0)(_:p∈line)(_:q∈line)(_:dep q<=100)(_:∀ lt ts st H',H' lt=some (.lst ts)->TupL H' ts (st.map W6)->Ch rows gs p st q w->st.length=dep q+1->Same H H'->H lt=none->Q (.ref lt) H')
section
variable{rows:List (List Int)}{gs:List V}{p:Nat}{line:List Nat}{dep:Nat->Nat}{fr:Nat->Option (Nat×Int)}{H H':Hp}{into:List (Key×V)}
noncomputable def Pn(fr:Nat->Option (Nat×Int))(q:Nat)(x:Nat×Int):Nat->Option (Nat×Int):=fun y=>if y=q then some x else fr y
theorem Rj{q:Nat}{x:Nat×Int}:Pn fr q x q=some x:=by unfold Pn;rw[if_pos rfl]
theorem Qb{q y:Nat}{x:Nat×Int}(h:y≠q):Pn fr q x y=fr y:=by unfold Pn;rw[if_neg h]
theorem Ua.app{here q':Nat}{n:Int}(F:Ua rows gs p line dep fr)(hn:q'∉line)(hp:p∈line)(hh:here∈line)(a:adjN rows gs here n q'):Ua rows gs p (line++[q']) (Wl dep q' (dep here+1)) (Pn fr q' (here,n)):=by
 have ne:∀ x∈line,x≠q':=fun x hx z=>hn (by rw[<- z];exact hx);have old:∀ x∈line,Wl dep q' (dep here+1) x=dep x:=fun x hx=>by unfold Wl;rw[if_neg (ne x hx)]
 have new:Wl dep q' (dep here+1) q'=dep here+1:=by unfold Wl;rw[if_pos rfl]
 refine⟨by rw[Qb (ne p hp)];exact F.1,fun q hq hqp=>?_⟩;rcases zrd.mp hq with z|z
 ·obtain⟨par,m,h1,h2,h3,h4⟩:=F.2 q z hqp;exact⟨par,m,by rw[Qb (ne q z)];exact h1,zrn _ h2,h3,by rw[old q z,old par h2];exact h4⟩
 ·rw[zq3.mp z];exact⟨here,n,Rj,zrn _ hh,a,by rw[new,old here hh]⟩
theorem Y4.mono(e:∀ t xs,H t=Option.some (.tup xs)->H' t=Option.some (.tup xs))(h:Y4 H into line fr):Y4 H' into line fr :=
 ⟨h.keys,h.none,fun q hq par n hf=>let ⟨t,a,b⟩:=h.some q hq par n hf;⟨t,a,e _ _ b⟩⟩
theorem Y4.app{here q':Nat}{n:Int}{t:Addr}(I:Y4 H into line fr)(hn:q'∉line)(ht:H t=Option.some (.tup [.int (here:Nat),.int n])):Y4 H (putK into (inl (q':Int)) (.ref t)) (line++[q']) (Pn fr q' (here,n)):=by
 have ne:∀ x∈line,x≠q':=fun x hx z=>hn (by rw[<- z];exact hx);have hv:valV into (inl (q':Int):Key)=Option.none:=by
  cases e:valV into (inl (q':Int):Key) with
  | none=>rfl
  | some y=>exact absurd ((I.has q').mp (by rw[e];rfl)) hn
 have val:∀ x∈line,valV (putK into (inl (q':Int)) (.ref t)) (inl (x:Int):Key)=valV into (inl (x:Int):Key):=fun x hx=>by
  rw[Uv,if_neg (fun z=>ne x hx (by have:=inl.inj z;omega))]
 have valn:valV (putK into (inl (q':Int)) (.ref t)) (inl (q':Int):Key)=Option.some (.ref t):=by rw[Uv,if_pos rfl]
 refine⟨?_,fun q hq hf=>?_,fun q hq par m hf=>?_⟩
 ·rw[Df _ hv,zre,zre,I.keys];rfl
 ·rcases zrd.mp hq with z|z
  ·rw[Qb (ne q z)] at hf;rw[val q z];exact I.none q z hf
  ·rw[zq3.mp z,Rj] at hf;cases hf
 ·rcases zrd.mp hq with z|z
  ·rw[Qb (ne q z)] at hf;rw[val q z];exact I.some q z par m hf
  ·rw[zq3.mp z,Rj] at hf;cases hf;rw[zq3.mp z];exact⟨t,valn,ht⟩
theorem Hf(H:Hp)(p:Nat):Y4 H [((inl (p:Int):Key),V.non)] [p] (fun _=>none) :=
 ⟨rfl,fun q hq _=>by rw[zq3.mp hq];exact Yn rfl,fun q _ par n hf=>nomatch hf⟩
theorem Hg:Ua rows gs p [p] (fun _=>0) (fun _=>none):=⟨rfl,fun q hq hne=>absurd (zq3.mp hq) hne⟩
end
section
variable{rows:List (List Int)}{gs:List V}
theorem Ch.somes{q e:Nat}{st:List (Nat×Option Int)}{w:Option Int}(h:Ch rows gs q st e w):w≠none->∀ s∈st,s.2≠none:=by
 induction h with
 | one q w=>intro hw s hs;simp at hs;subst hs;exact hw
 | step a h ih =>
   intro hw s hs;rcases zq0.mp hs with rfl|z
   ·exact fun z=>nomatch z
   ·exact ih hw s z
theorem Ch.near{q e:Nat}{st:List (Nat×Option Int)}{w:Option Int}(h:Ch rows gs q st e w):∀ s∈st,s.1=q\/∃ m,gs[s.1]?=some (V.int m):=by
 induction h with
 | one q w=>intro s hs;simp at hs;subst hs;exact .inl rfl
 | @step q q' e n st w a h ih =>
   intro s hs;rcases zq0.mp hs with rfl|z
   ·exact .inl rfl
   ·rcases ih s z with z|z
    ·exact .inr ⟨n,by rw[z];exact a.2⟩
    ·exact .inr z
theorem Ch.single{q e:Nat}{st:List (Nat×Option Int)}{w:Option Int}(h:Ch rows gs q st e w)(hl:st.length<=1):st=[(q,w)]/\e=q:=by
 cases h with
 | one=>exact⟨rfl,rfl⟩
 | step a h=>have:=h.pos;rw[zrc] at hl;omega
structure Vt(rows:List (List Int))(gs:List V)(i:Nat):Prop where
 fill:Yx rows gs
 ahead:∀ q n,gs[q]?=some (V.int n)->q<i
 stuck:∀ p,p<i->gs[p]?=some .non->Sl rows gs p
theorem Vt.non{i k:Nat}(F:Vt rows gs i)(hk:i<=k)(hr:k<rows.length):gs[k]?=some .non:=by
 have hl:k<gs.length:=by rw[F.fill.len];exact hr
 have e:=zqy hl;rcases F.fill.one _ (zr3 hl) with z|⟨n,z⟩
 ·rw[e,z]
 ·rw[z] at e;have:=F.ahead k n e;omega
theorem Vt.step{i e:Nat}{st:List (Nat×Option Int)}{w:Option Int}(F:Vt rows gs i)(hi:i<rows.length)(c:Yz rows gs i st e w):Vt rows (Yo st gs) (i+1):=by
 have hnon:=F.non (zq1 i) hi;cases w with
 | none =>
   obtain⟨h1,h2,h3⟩:=c.none rfl;have hei:e=i:=by
    have hge:=h2 i 0 .nil;rcases(show e=i\/∃ m,gs[e]?=some (V.int m) by
     obtain⟨s,hs,rfl⟩:=zrg.mp c.ch.last;exact c.ch.near s hs) with z|⟨m,z⟩
    ·exact z
    ·have:=F.ahead e m z;omega
   have hst:st=[(i,none)]:=(c.ch.single (by have:=h3 0 (hei▸.nil);omega)).1;have hl:i<gs.length:=by rw[F.fill.len];exact hi
   have same:Yo st gs=gs:=by
    rw[hst];show gs.set i .non=gs;refine List.ext_getElem? fun k=>?_;by_cases hk:i=k
    ·subst hk;rw[zrw hl,hnon]
    ·rw[zrx hk]
   rw[same];refine⟨F.fill,fun q n hq=>zsf (F.ahead q n hq),fun p hp hpn=>?_⟩;by_cases hpi:p=i
   ·subst hpi;exact Cc F.fill hi F.ahead h1
   ·exact F.stuck p ⋯ hpn
 | some n0 =>
   obtain⟨hf,_⟩:=c.free n0 rfl;have nd:=c.nodup;have FP':=c.fill F.fill hi;have at_:∀ k,k<gs.length->(k∉st.map (·.1)/\(Yo st gs)[k]?=gs[k]?)\/∃ w,(k,w)∈st/\(Yo st gs)[k]?=some (oV w):=fun k hk=>T4 nd hk;have lt:∀ {k:Nat} {v:V},(Yo st gs)[k]?=some v->k<gs.length:=fun {k v} hk=>by
    have:=(zqz.mp hk).1;rw[Xw] at this;exact this
   refine⟨FP',fun q n hq=>?_,fun p hp hpn=>?_⟩
   ·rcases at_ q (lt hq) with ⟨_,h2⟩|⟨w',h1,_⟩
    ·rw[h2] at hq;exact zsf (F.ahead q n hq)
    ·rcases c.ch.near _ h1 with z|⟨m,z⟩
     ·have:q=i:=z;omega
     ·exact zsf (F.ahead q m z)
   ·rcases at_ p (lt hpn) with ⟨h1,h2⟩|⟨w',h1,h2⟩
    ·rw[h2] at hpn;have hpi:p≠i:=fun z=>by
      obtain⟨x,r,e⟩:=c.ch.hd;exact h1 (by rw[z,e];simp)
     exact(F.stuck p ⋯ hpn).behind F.fill c.ch hf hi nd
    ·have:=c.ch.somes (by simp) _ h1;rw[h2] at hpn;cases w' with
     | none=>exact absurd rfl this
     | some m=>cases hpn
theorem Mb(rows:List (List Int)):Vt rows (rows.map fun _=>V.non) 0:=by
 have h0:∀ (k:Nat) (n:Int),(rows.map fun _=>V.non)[k]?≠some (V.int n):=fun k n h=>by
  rw[zq7] at h;cases e:rows[k]? with
  | none=>rw[e] at h;cases h
  | some r=>rw[e] at h;cases h
 exact⟨⟨by rw[zqx],fun x hx=>by obtain⟨_,_,rfl⟩:=zrg.mp hx;exact .inl rfl,fun k n h=>absurd h (h0 k n),fun j k n h=>absurd h (h0 j n)⟩,fun q n h=>absurd h (h0 q n),fun p hp=>absurd hp (zsl _)⟩
theorem Vt.last(F:Vt rows gs rows.length):Q3 rows gs:=fun p hp=>F.stuck p (by have:=(zqz.mp hp).1;rw[F.fill.len] at this;exact this) hp
end
end G
namespace G
open PySem PySem.Spec PyProof.Rows L2
section
variable{rows:List (List Int)}{gs:List V}{p e:Nat}{x:Int}{st:List (Nat×Option Int)}{w:Option Int}
noncomputable def without(rows:List (List Int))(x:Int):List (List Int):=rows.map fun r=>r.filter fun n=>decide (n≠x)
theorem Kc(FP:Yx rows gs)(hx:gs[p]?=some (.int x)):Yx (without rows x) (gs.set p .non):=FP.without hx _ fun n hn=>by
 have:=of_decide_eq_false hn;rw[Classical.not_not.mp this]
end
end G
namespace L2
open PySem PySem.Spec PyProof.Rows
section
variable{prog:Program}{w:World}{A:Around}{E:Value->Shared->Prop}{s:Shared}{T:String}{r d:Addr}{n:Nat}{P:Nat->Value->Prop}{OK:Heap->Prop}
open PySem.W in
end
end L2
namespace G
open PySem PySem.Spec PyProof.Rows L2
section
variable{rows:List (List Int)}{gs:List V}
structure zdd(rows:List (List Int))(gs:List V)(ps:List Nat)(rs:List Int):Prop where
 up:ps.Pairwise (· < ·)
 lt:∀ p∈ps,p<rows.length
 rup:rs.Pairwise (· < ·)
 all:∀ n,n∈rs↔∃ p∈ps,∃ r,rows[p]?=some r/\n∈r
 cnt:ps.length=rs.length+(An gs).length
 nil:An gs=[]->ps=[]
 gap:∀ p,gs[p]?=some .non->p∈ps
 has:∀ n∈rs,∃ p∈ps,gs[p]?=some (.int n)
noncomputable def zcm(x:Option V):Option Int:=match x with|some (.int n)=>some n|_=>none
end
section
variable{rows:List (List Int)}{gs:List V}{p:Nat}{line:List Nat}{dep:Nat->Nat}{fr:Nat->Option (Nat×Int)}
noncomputable def byV(x:Option (Nat×Int)):V:=match x with|none=>.non|some y=>.int (y.1:Nat)
structure zdl(by_:List (Key×V))(line:List Nat)(fr:Nat->Option (Nat×Int)):Prop where
 keys:by_.map (·.1)=line.map fun q:Nat=>(inl (q:Int):Key)
 val:∀ q∈line,valV by_ (inl (q:Int):Key)=some (byV (fr q))
structure zdm(rows:List (List Int))(gs:List V)(dep:Nat->Nat)(q:Nat)(x:Int)(tl:List (Nat×Option Int))(e:Nat)(n:Int):Prop where
 ch:Ch rows gs q ((q,some x) :: tl) e (some n)
 nd:(((q,some x) :: tl).map (·.1)).Nodup
 far:∀ s∈tl,dep q<dep s.1
end
section
variable{rows:List (List Int)}{gs:List V}
noncomputable def za8(rows:List (List Int))(gs:List V)(p:Nat):Prop:=∀ q k,Walk rows gs p q k->¬ Vs rows gs q
structure zcn(rows:List (List Int))(f k:Nat)(gs:List V):Prop where
 fill:Yx rows gs
 seen:∀ j,j<k->(∃ n,gs[(f+j)%rows.length]?=some (.int n))\/za8 rows gs ((f+j)%rows.length)
 later:∀ p,(∀ j,j<k->(f+j)%rows.length≠p)->p<rows.length->gs[p]?=some .non
end
end G
namespace PySem
theorem Ld{α β:Type}(f:α->β):∀ (l:List α) (j:Nat),(l.map f).eraseIdx j=(l.eraseIdx j).map f
 | [],_=>rfl
 | _ :: _,0=>rfl
 | x :: l,j+1=>by
   show f x :: (l.map f).eraseIdx j=f x :: (l.eraseIdx j).map f;rw[Ld f l j]
section
variable{prog:Program}{w:World}{K:Type}[DecidableEq K]{knd:HeapKind prog w K}{A:Around}{E:Value->Shared->Prop}{s:Shared}
theorem Rk{d a:Addr}{xs:List (K×Addr×Value)}{k:K}{j:Nat}{p:Addr×Value}{Q:Option DictEntry->Shared->Prop}(hu:knd.room A)(hkey:knd.is s.heap k a)(hm:s.heap.DictOfH knd d xs)(hj:xs[j]?=some (k,p))(hsz:xs.length<=sizeLine)
  (hQ:∀ h',h'.DictOfH knd d (xs.eraseIdx j)->Heap.SameBut d s.heap h'->Q (some (entryOfKey knd (k,p))) { s with heap:=h',toks:=s.toks+knd.draws k }) :
  wpAny (model prog w) A (Builtin.Dict.takeOut d (.ref a)) Q E s:=by
 obtain⟨o,es,ep,ho,hc,hd,he,his,hn⟩:=hm;unfold Builtin.Dict.takeOut
 try with_reducible refine wpAny_holding ?_
 refine wpAny_bind (knd.pyHash hu hkey (wpAny_bind (wpAny_dictFind_heap (s:={ s with toks:=s.toks+knd.draws k }) hu hkey ho hd he his hn ?_ ?_)))
 ·intro hno;exact absurd hj (hno j p)
 ·intro j' p' hj';have ej:=idxH_unique hn hj' hj;subst ej;refine wpAny_bind (wpAny_dictEntries (s:={ s with toks:=s.toks+knd.draws k }) ho hd ?_);rw[entry_at he j',hj];refine wpAny_bind (wpAny_updateDictKeys (hz:=by have e:=size_of_entries he;omega) (s:={ s with toks:=s.toks+knd.draws k }) ho hd (wpAny_pure (hQ _ ⟨_,_,ep+1,Heap.get?_update_self _ ho (Obj.isFreed_of_dict (Obj.data_mapDictKeys hd _)),
   hc.mapDictKeys _,Obj.data_mapDictKeys hd _,?_,?_,?_⟩ (Heap.SameBut.update ..))))
  ·obtain⟨l⟩:=es;simp only at he;simp[he,Ld]
  ·intro x hx;exact knd.keeps (his x (List.mem_of_mem_eraseIdx hx)) ho hd (Heap.SameBut.update ..)
  ·have:=hn.sublist (List.Sublist.map (·.1) (List.eraseIdx_sublist xs j'));exact this
theorem Pt(d a:Addr)(k:K) :
  MeetsIn prog w (Builtin.«dict.pop» ⟨[.ref d,.ref a],[]⟩) (fun A R s=>knd.room A.in1/\knd.is s.heap k a/\∃ xs j p,s.heap.DictOfH knd d xs/\xs.length<=sizeLine/\xs[j]?=some (k,p) /\
   ∀ h' t',h'.DictOfH knd d (xs.eraseIdx j)->Heap.SameBut d s.heap h'->R (.ok (.ret p.2)) { s with heap:=h',toks:=t' }) :=
 .of_wp fun A R s ⟨hu,hkey,xs,j,p,hm,hsz,hj,h⟩=>by
  obtain⟨o,es,ep,ho,hc,hd,he,his,hn⟩:=id hm;unfold Builtin.«dict.pop»;refine wpAny_bind ?_;unfold Builtin.Dict.keyAndDefault;refine wpAny_bind (wpAny_notOrdered_dict hm.typeIs ?_);show wpAny _ _ (pure (d,Value.ref a,none)) _ _ s;refine wpAny_pure ?_;have hp:(keyPart (Value.ref a)).isSome=false:=rfl;simp only[hp,zr0,if_false];refine wpAny_bind (wpAny_dictEntries ho hd (wpAny_bind (wpAny_pure ?_)));have hne:es.isEmpty=false:=by
   have h1:=size_of_entries he;have h2:=(zqz.mp hj).1;rw[Array.isEmpty_eq_false_iff_exists_mem];exact⟨es[0]'⋯,Array.getElem_mem _⟩
  simp only[hne,zr0,if_false];refine wpAny_bind (Rk hu hkey hm hj hsz fun h' hm' hs'=>?_);simp only[Option.isNone_some,zr0,if_false];exact wpAny_bind (wpAny_letGo (wpAny_pure ⟨p.2,rfl,h h' _ hm' hs'⟩))
end
end PySem
namespace L2
open PySem PySem.Spec PyProof.Rows
theorem KT.drop{H:Hp}{k:List Key}{v:V}:∀ {kvs:List (List Key×V)} {xs:List (List Key×Addr×Value)},KT H kvs xs->(xs.map (·.1)).Nodup->valV kvs k=some v->∃ j p,xs[j]?=some (k,p)/\RelV v p.2/\KT H (Xc kvs k) (xs.eraseIdx j)
 | [],[],_,_,hv=>by cases hv
 | p :: kvs,q :: xs,r,nd,hv=>by
   cases r with
   | cons h t =>
     rw[zq8,zrl] at nd;obtain⟨h1,h2,h3⟩:=h;by_cases e:p.1=k
     ·rw[Yn e] at hv;cases hv;refine⟨0,q.2,by rw[<- e,h1];rfl,h3,?_⟩;show KT H (Xc (p :: kvs) k) xs;have hd:Xc (p :: kvs) k=kvs:=by
       unfold Xc;rw[List.filter_cons_of_neg (by simp[e])];rw[List.filter_eq_self];intro kv hkv;refine zq2 fun z=>nd.1 ?_;have:∀ {l:List (List Key×V)} {m:List (List Key×Addr×Value)},KT H l m->kv∈l->kv.1∈m.map (·.1):=by
        intro l m q
        induction q with
        | nil=>intro hx;cases hx
        | @cons p' q' ps qs hq t ih =>
          intro hx;rcases zq0.mp hx with z|z
          ·rw[z,hq.1];exact zrq
          ·exact zrh _ (ih z)
       have h9:=this t hkv;rw[z,<- e,h1] at h9;exact h9
      rw[hd];exact t
     ·rw[Yj e] at hv;obtain⟨j,pp,h4,h5,h6⟩:=KT.drop t nd.2 hv;refine⟨j+1,pp,h4,h5,?_⟩;have hd:Xc (p :: kvs) k=p :: Xc kvs k:=by
       unfold Xc;rw[List.filter_cons_of_pos (by simp[e])]
      rw[hd];exact .cons ⟨h1,h2,h3⟩ h6
inductive B1(ty:TE)(σ:L2.St)(Q:VK)(x:V)(H1:Hp):Prop where
 | mk(a)(_:x=.ref a)(_:IsD H1 a)(_:ty σ H1 fun y H2=>∃ (kvs:List (List Key×V)) (k:List Key) (b:Addr) (v:V),H2 a=some (.dT kvs)/\y=.ref b/\H2 b=some (.tup (k.map kV))/\valV kvs k=some v/\Q v (upd H2 a (.dT (Xc kvs k))))
noncomputable def za9(td ty:TE):TE:=fun σ H Q=>td σ H fun x H1=>B1 ty σ Q x H1
theorem Co{X:Cx}{o e:Expr}{apos cpos:Pos}{td ty:TE}(hu:X.A.units+1<cLine)(ho:PE X o td)(he:PE X e ty)(m:M1 X o "pop" apos e cpos):PE X (.Call (.Attribute o "pop" apos) [e] [] cpos) (za9 td ty):=by
 intro pins s σ H Q I h;refine wpAny_Call_method m.base m.few m.line PySem.F.plainAttrs_dict PySem.F.slot_dict_pop PySem.F.type_dict_pop (thn (ho pins s σ H _ I h) fun u s1 ⟨x,H1,I1,rx,a,ex,d,q1⟩=>?_);subst ex;obtain rfl:u=Value.ref a:=rx;obtain⟨t1,t2,_⟩:=Ip I1 d;refine⟨t1,t2,?_⟩;rw[m.trees];refine Calls.callWith_builtin rfl (Calls.evalArgs_plain (Calls.spliced_cons (thn (he pins s1 σ H1 _ I1 q1) fun iv s2 ⟨y,H2,I2,ry,kvs,k,b,v,ea,ey,eb,l,q2⟩=>Calls.spliced_nil ?_)));subst ey;cases (show iv=Value.ref b from ry);obtain⟨z,hd,xs,rel,dd⟩:=Ag I2.hok ea;have hz:xs.length<=sizeLine:=by rw[<- Paired.length rel];exact z
 obtain⟨j,p,hj,rv,rel'⟩:=KT.drop rel (by obtain⟨_,_,_,_,_,_,_,_,hn⟩:=dd;exact hn) l;refine call_meetsIn PySem.F.slot_dict_pop dd.typeIs PySem.F.entry_dict_pop (PySem.F.args_dict_pop_2 _ _) (Pt (knd:=tupleKind (Yb X.prog X.w)) a b k) ⟨tupleKind_room_in1 hu,Rf I2.hok eb,xs,j,p,dd,hz,hj,fun h' t' dd' hs=>⟨v,_,?_,rv,q2⟩⟩;obtain⟨q,es,ep,hq,h2,h3,h4,_,h5⟩:=dd';refine R6 I2 (by rw[ea];exact True.intro) hs ⟨q,hq⟩ ⟨zro (Kx kvs k) z,hd,_,rel'.keeps fun c ys ec=>?_,q,es,ep,hq,h2,h3,h4,h5⟩;rw[Zg (Yl ec ea (fun z=>nomatch z))];exact ec
end L2
namespace G
open PySem PySem.Spec PyProof.Rows L2
structure CA where
 season:Addr
 sheet:Addr
 roster:Addr
 ledger:Addr
 out:Addr
 known:Addr
 many:Addr
 unk:Addr
 manyM:Addr
 same:Addr
 noMatch:Addr
 noRound:Addr
 over:Addr
 seaOver:Addr
 away:Addr
 drawn:Addr
 notDrawn:Addr
 nothing:Addr
 manyD:Addr
theorem Uz:1000000<sizeLine:=by rw[sizeLine_eq];decide
noncomputable abbrev RL:=List (Int×Int×Int)
inductive Wc(H:Hp):RL->List (Key×V)->Prop where
 | nil:Wc H [] []
 | cons {n g c:Int} {t:Addr} {R:RL} {kvs:List (Key×V)} (h:H t=some (.tup [.int g,.int c])) (r:Wc H R kvs):Wc H ((n,g,c) :: R) ((.inl n,.ref t) :: kvs)
theorem Wc.mono{H H':Hp}(k:∀ t xs,H t=some (.tup xs)->H' t=some (.tup xs)):∀ {R:RL} {kvs:List (Key×V)},Wc H R kvs->Wc H' R kvs
 | _,_,.nil=>.nil
 | _,_,.cons h r=>.cons (k _ _ h) (Wc.mono k r)
theorem Wc.length{H:Hp}:∀ {R:RL} {kvs:List (Key×V)},Wc H R kvs->kvs.length=R.length
 | _,_,.nil=>rfl
 | _,_,.cons _ r=>by simp[Wc.length r]
theorem Wc.keys{H:Hp}:∀ {R:RL} {kvs:List (Key×V)},Wc H R kvs->(kvs.map fun kv=>kV kv.1)=R.map fun x=>V.int x.1
 | _,_,.nil=>rfl
 | _,_,.cons _ r=>by rw[zq8,zq8,Wc.keys r];rfl
theorem Wc.snoc{H:Hp}{n g c:Int}{t:Addr}(h:H t=some (.tup [.int g,.int c])):∀ {R:RL} {kvs:List (Key×V)},Wc H R kvs->Wc H (R++[(n,g,c)]) (kvs++[(.inl n,.ref t)])
 | _,_,.nil=>.cons h .nil
 | _,_,.cons h' r=>.cons h' (Wc.snoc h r)
theorem Wc.val_none{H:Hp}{n:Int}:∀ {R:RL} {kvs:List (Key×V)},Wc H R kvs->n∉R.map (·.1)->valV kvs (inl n:Key)=none
 | _,_,.nil,_=>rfl
 | _,_,.cons (n:=m) _ r,h=>by
   rw[zq8,zq0,not_or] at h;rw[Yj (fun e=>h.1 (inl.inj e).symm)];exact Wc.val_none r h.2
theorem Wc.val_some{H:Hp}{n g c:Int}:∀ {R:RL} {kvs:List (Key×V)},Wc H R kvs->(R.map (·.1)).Nodup->(n,g,c)∈R->∃ t,valV kvs (inl n:Key)=some (.ref t)/\H t=some (.tup [.int g,.int c])
 | _,_,.nil,_,h=>by simp at h
 | _,_,.cons (n:=m) (g:=g') (c:=c') (t:=t) ht r,nd,h=>by
   rw[zq8,zrl] at nd;by_cases e:m=n
   ·subst e;rcases zq0.mp h with q|q
    ·cases q;exact⟨t,Yn rfl,ht⟩
    ·exact absurd (zrg.mpr ⟨_,q,rfl⟩) nd.1
   ·rcases zq0.mp h with q|q
    ·cases q;exact absurd rfl e
    ·obtain⟨t',h1,h2⟩:=Wc.val_some r nd.2 q;exact⟨t',by rw[Yj (fun z=>e (inl.inj z))];exact h1,h2⟩
theorem Wc.isSome{H:Hp}{n:Int}{R:RL}{kvs:List (Key×V)}(e:Wc H R kvs)(nd:(R.map (·.1)).Nodup):(valV kvs (inl n:Key)).isSome=decide (n∈R.map (·.1)):=by
 by_cases h:n∈R.map (·.1)
 ·obtain⟨⟨m,g,c⟩,q,rfl⟩:=zrg.mp h;obtain⟨t,h1,_⟩:=e.val_some nd q;rw[h1,zq2 h];rfl
 ·rw[e.val_none h,zq5 h];rfl
theorem Wc.unsnoc{H:Hp}{n g c:Int}:∀ {R:RL} {kvs:List (Key×V)},Wc H (R++[(n,g,c)]) kvs->n∉R.map (·.1)->Wc H R (Xc kvs (inl n))
 | [],_,.cons h .nil,_=>by
   unfold Xc;rw[List.filter_cons_of_neg (by simp)];exact .nil
 | (m,g',c') :: R,_,.cons h r,hn=>by
   rw[zq8,zq0,not_or] at hn;unfold Xc;rw[List.filter_cons_of_pos (by
    refine zq2 fun z=>hn.1 ?_;exact(inl.inj z).symm)]
   exact .cons h (Wc.unsnoc r hn.2)
structure Yt(C:Addr)(H:Hp)(p d:Addr)(R:RL):Prop where
 ex:∃ dx kvs,H p=some (.ins C dx [("entries",.ref d)])/\H d=some (.dK kvs)/\Wc H R kvs
 nd:(R.map (·.1)).Nodup
theorem Wd{d:Addr}:List.lookup ("entries":Str) ([("entries",V.ref d)]:List (Str×V))=some (.ref d):=by simp only[zrs,beq_self_eq_true]
theorem Yt.no{d:Addr}{m:Str}(h:¬ m="entries"):List.lookup m ([("entries",V.ref d)]:List (Str×V))=none:=by
 have e:(m == "entries")=false:=zrf.mpr h;simp only[zrs,e,List.lookup_nil]
theorem Yt.keep{C:Addr}{H H':Hp}{p d:Addr}{R:RL}(h:Yt C H p d R)(kp:∀ o,H p=some o->H' p=some o)(kd:∀ o,H d=some o->H' d=some o)(kt:∀ t xs,H t=some (.tup xs)->H' t=some (.tup xs)):Yt C H' p d R:=by
 obtain⟨⟨dx,kvs,h1,h2,h3⟩,nd⟩:=h;exact⟨⟨dx,kvs,kp _ h1,kd _ h2,h3.mono kt⟩,nd⟩
theorem Yt.same{C:Addr}{H H':Hp}{p d:Addr}{R:RL}(h:Yt C H p d R)(e:Same H H'):Yt C H' p d R:=h.keep (fun _ q=>e _ _ q) (fun _ q=>e _ _ q) fun _ _ q=>e _ _ q
noncomputable def badI(n g c:Int):Prop:=n<1\/999<n\/g<1\/9<g\/c<1\/99<c
instance {n g c:Int}:Decidable (badI n g c):=by unfold badI;infer_instance
noncomputable def Kd(n g c:Int):Prop:=Z0 n/\Z0 g/\Z0 c
inductive Qc(x:Addr)(vs:List V)(H:Hp)(Q:VK)(E:XK):Prop where
 | mk(v)(lo)(m)(_:vs=[.int v,.int lo,.int m])(_:Z0 v)(_:Z0 lo)(_:Z0 m)(_:(if v<lo\/m<v then E (.ref x) none H else Q .non H))
inductive Gw(ca:CA)(vs:List V)(H:Hp)(Q:VK)(_:XK):Prop where
 | mk(p)(dx)(_:vs=[.ref p])(_:H p=some (.ins ca.roster dx []))(_:∀ d,H d=none->Q .non (upd (upd H d (.dK [])) p (.ins ca.roster dx [("entries",.ref d)])))
inductive Rl(ca:CA)(vs:List V)(H:Hp)(Q:VK)(E:XK):Prop where
 | mk(p)(d)(R)(n)(g)(c)(_:vs=[.ref p,.int n,.int g,.int c])(_:Yt ca.roster H p d R)(_:Kd n g c)(_:if badI n g c then E (.ref ca.out) none H else if n∈R.map (·.1) then E (.ref ca.known) none H else if 30<=R.length then E (.ref ca.many) none H else Q .non H)
inductive Tb(ca:CA)(vs:List V)(H:Hp)(Q:VK)(E:XK):Prop where
 | mk(p)(d)(R)(n)(_:vs=[.ref p,.int n])(_:Yt ca.roster H p d R)(_:Z0 n)(_:if n∈R.map (·.1) then Q .non H else E (.ref ca.unk) none H)
inductive Cp(ca:CA)(vs:List V)(H:Hp)(Q:VK)(E:XK):Prop where
 | mk(p)(d)(R)(n)(g)(c)(_:vs=[.ref p,.int n,.int g,.int c])(_:Yt ca.roster H p d R)(_:Kd n g c)(_:R.length<=1000)(_:if badI n g c then E (.ref ca.out) none H else if n∈R.map (·.1) then E (.ref ca.known) none H else if 30<=R.length then E (.ref ca.many) none H else ∀ H',Yt ca.roster H' p d (R++[(n,g,c)])->(∀ b o,H b=some o->b≠d->H' b=some o)->Q .non H')
inductive Jd(ca:CA)(vs:List V)(H:Hp)(Q:VK)(_:XK):Prop where
 | mk(p)(d)(R)(n)(g)(c)(_:vs=[.ref p,.int n])(_:Yt ca.roster H p d (R++[(n,g,c)]))(_:∀ H',Yt ca.roster H' p d R->(∀ b o,H b=some o->b≠d->H' b=some o)->Q .non H')
inductive Rm(ca:CA)(vs:List V)(H:Hp)(Q:VK)(_:XK):Prop where
 | mk(p)(d)(R)(_:vs=[.ref p])(_:Yt ca.roster H p d R)(_:∀ l,H l=none->Q (.ref l) (upd H l (.lst (R.map fun x=>V.int x.1))))
inductive Je(ca:CA)(vs:List V)(H:Hp)(Q:VK)(E:XK):Prop where
 | mk(p)(d)(R)(n)(_:vs=[.ref p,.int n])(_:Yt ca.roster H p d R)(_:Z0 n)(_:(n∉R.map (·.1)->E (.ref ca.unk) none H))(_:∀ g c t,(n,g,c)∈R->H t=some (.tup [.int g,.int c])->Q (.ref t) H)
inductive Jf(ca:CA)(vs:List V)(H:Hp)(Q:VK)(E:XK):Prop where
 | mk(p)(d)(R)(n)(_:vs=[.ref p,.int n])(_:Yt ca.roster H p d R)(_:Z0 n)(_:(n∉R.map (·.1)->∀ H',Same H H'->E (.ref ca.unk) none H'))(_:∀ g c t H',(n,g,c)∈R->H' t=some (.tup (pV (n,g,c)))->Same H H'->H t=none->Q (.ref t) H')
structure Z2 where
 ms:List (Int×Int×Int)
 may:List (List Int)
 gv:List V
 gaps:List (Int×List (Nat×Option Int))
inductive We(ok:Addr->Prop)(H:Hp):List V->List (Int×List (Nat×Option Int))->Prop where
 | nil:We ok H [] []
 | cons {t l:Addr} {n:Int} {us:List V} {st:List (Nat×Option Int)} {ts:List V} {G:List (Int×List (Nat×Option Int))} (h:H t=some (.tup [.int n,.ref l])) (hl:H l=some (.lst us)) (tl:TupL H us (st.map W6)) (o:ok l) (r:We ok H ts G):We ok H (.ref t :: ts) ((n,st) :: G)
theorem We.keep{ok:Addr->Prop}{H H':Hp}(k:∀ x o,ok x->H x=some o->H' x=some o)(kt:∀ t xs,H t=some (.tup xs)->H' t=some (.tup xs)):∀ {ts:List V} {G:List (Int×List (Nat×Option Int))},We ok H ts G->We ok H' ts G
 | _,_,.nil=>.nil
 | _,_,.cons h hl tl o r=>.cons (kt _ _ h) (k _ _ o hl) (tl.mono kt) o (We.keep k kt r)
theorem We.imp{ok ok':Addr->Prop}{H:Hp}(k:∀ x,(∃ o,H x=some o)->ok x->ok' x):∀ {ts:List V} {G:List (Int×List (Nat×Option Int))},We ok H ts G->We ok' H ts G
 | _,_,.nil=>.nil
 | _,_,.cons h hl tl o r=>.cons h hl tl (k _ ⟨_,hl⟩ o) (We.imp k r)
theorem We.length{ok:Addr->Prop}{H:Hp}:∀ {ts:List V} {G:List (Int×List (Nat×Option Int))},We ok H ts G->ts.length=G.length
 | _,_,.nil=>rfl
 | _,_,.cons _ _ _ _ r=>by simp[We.length r]
theorem We.snoc{ok:Addr->Prop}{H:Hp}{t l:Addr}{n:Int}{us:List V}{st:List (Nat×Option Int)}(h:H t=some (.tup [.int n,.ref l]))(hl:H l=some (.lst us))(tl:TupL H us (st.map W6))(o:ok l):∀ {ts:List V} {G:List (Int×List (Nat×Option Int))},We ok H ts G->We ok H (ts++[.ref t]) (G++[(n,st)])
 | _,_,.nil=>.cons h hl tl o .nil
 | _,_,.cons h' hl' tl' o' r=>.cons h' hl' tl' o' (We.snoc h hl tl o r)
theorem We.get{ok:Addr->Prop}{H:Hp}:∀ {ts:List V} {G:List (Int×List (Nat×Option Int))} {i:Nat} {x:V},We ok H ts G->ts[i]?=some x->∃ t l n us st,x=.ref t/\G[i]?=some (n,st)/\H t=some (.tup [.int n,.ref l])/\H l=some (.lst us)/\TupL H us (st.map W6)/\ok l
 | _,_,_,_,.nil,e=>by simp at e
 | _,_,0,_,.cons h hl tl o _,e=>by simp at e;subst e;exact⟨_,_,_,_,_,rfl,rfl,h,hl,tl,o⟩
 | _,_,i+1,x,.cons _ _ _ _ r,e=>by
   obtain⟨t,l,n,us,st,h1,h2,h3⟩:=We.get (i:=i) (x:=x) r (by simpa using e);exact⟨t,l,n,us,st,h1,by simpa using h2,h3⟩
noncomputable def shF(l1 l2 l3 l4:Addr):List (Str×V):=[("listed",.ref l1),("lists",.ref l2),("given",.ref l3),("gaps",.ref l4)]
structure ShAt(C:Addr)(ok:Addr->Prop)(H:Hp)(q:Addr)(s:Z2):Prop where
 ex:∃ dx l1 l2 l3 l4 ts ls gts,H q=some (.ins C dx (shF l1 l2 l3 l4))/\H l1=some (.lst ts)/\TupL H ts (s.ms.map pV)/\H l2=some (.lst (ls.map V.ref))/\ILs H ls s.may/\H l3=some (.lst s.gv)/\H l4=some (.lst gts)/\We ok H gts s.gaps/\(ok q/\ok l1/\ok l2/\ok l3/\ok l4/\∀ x∈ls,ok x)
theorem ShAt.keep{C:Addr}{ok:Addr->Prop}{H H':Hp}{q:Addr}{s:Z2}(h:ShAt C ok H q s)(k:∀ x o,ok x->H x=some o->H' x=some o)(kt:∀ t xs,H t=some (.tup xs)->H' t=some (.tup xs)):ShAt C ok H' q s:=by
 obtain⟨dx,l1,l2,l3,l4,ts,ls,gts,a1,a2,a3,a4,a5,a6,a7,a8,o1,o2,o3,o4,o5,o6⟩:=h;exact⟨dx,l1,l2,l3,l4,ts,ls,gts,k _ _ o1 a1,k _ _ o2 a2,a3.mono kt,k _ _ o3 a4,a5.keep fun x hx o q=>k _ _ (o6 x hx) q,k _ _ o4 a6,k _ _ o5 a7,a8.keep k kt,o1,o2,o3,o4,o5,o6⟩
theorem ShAt.imp{C:Addr}{ok ok':Addr->Prop}{H:Hp}{q:Addr}{s:Z2}(h:ShAt C ok H q s)(k:∀ x,(∃ o,H x=some o)->ok x->ok' x):ShAt C ok' H q s:=by
 obtain⟨dx,l1,l2,l3,l4,ts,ls,gts,a1,a2,a3,a4,a5,a6,a7,a8,o1,o2,o3,o4,o5,o6⟩:=h;exact⟨dx,l1,l2,l3,l4,ts,ls,gts,a1,a2,a3,a4,a5,a6,a7,a8.imp k,k _ ⟨_,a1⟩ o1,k _ ⟨_,a2⟩ o2,k _ ⟨_,a4⟩ o3,k _ ⟨_,a6⟩ o4,k _ ⟨_,a7⟩ o5,fun x hx=>k _ (let ⟨_,z⟩:=a5.has hx;⟨_,z⟩) (o6 x hx)⟩
theorem ShAt.same{C:Addr}{ok:Addr->Prop}{H H':Hp}{q:Addr}{s:Z2}(h:ShAt C ok H q s)(e:Same H H'):ShAt C ok H' q s:=h.keep (fun _ _ _ q=>e _ _ q) fun _ _ q=>e _ _ q
noncomputable def ShO(C:Addr)(ok:Addr->Prop)(H:Hp)(v:V)(s:Option Z2):Prop:=match s with|none=>v=.non|some s=>∃ q,v=.ref q/\ShAt C ok H q s
theorem ShO.keep{C:Addr}{ok:Addr->Prop}{H H':Hp}{v:V}{s:Option Z2}(h:ShO C ok H v s)(k:∀ x o,ok x->H x=some o->H' x=some o)(kt:∀ t xs,H t=some (.tup xs)->H' t=some (.tup xs)):ShO C ok H' v s:=by
 cases s with
 | none=>exact h
 | some s=>obtain⟨q,e,h⟩:=h;exact⟨q,e,h.keep k kt⟩
theorem ShO.imp{C:Addr}{ok ok':Addr->Prop}{H:Hp}{v:V}{s:Option Z2}(h:ShO C ok H v s)(k:∀ x,(∃ o,H x=some o)->ok x->ok' x):ShO C ok' H v s:=by
 cases s with
 | none=>exact h
 | some s=>obtain⟨q,e,h⟩:=h;exact⟨q,e,h.imp k⟩
inductive ShL(C:Addr)(ok:Addr->Prop)(H:Hp):List V->List Z2->Prop where
 | nil:ShL C ok H [] []
 | cons {q:Addr} {s:Z2} {vs:List V} {ss:List Z2} (h:ShAt C ok H q s) (r:ShL C ok H vs ss):ShL C ok H (.ref q :: vs) (s :: ss)
theorem ShL.keep{C:Addr}{ok:Addr->Prop}{H H':Hp}(k:∀ x o,ok x->H x=some o->H' x=some o)(kt:∀ t xs,H t=some (.tup xs)->H' t=some (.tup xs)):∀ {vs:List V} {ss:List Z2},ShL C ok H vs ss->ShL C ok H' vs ss
 | _,_,.nil=>.nil
 | _,_,.cons h r=>.cons (h.keep k kt) (ShL.keep k kt r)
theorem ShL.imp{C:Addr}{ok ok':Addr->Prop}{H:Hp}(k:∀ x,(∃ o,H x=some o)->ok x->ok' x):∀ {vs:List V} {ss:List Z2},ShL C ok H vs ss->ShL C ok' H vs ss
 | _,_,.nil=>.nil
 | _,_,.cons h r=>.cons (h.imp k) (ShL.imp k r)
theorem ShL.length{C:Addr}{ok:Addr->Prop}{H:Hp}:∀ {vs:List V} {ss:List Z2},ShL C ok H vs ss->vs.length=ss.length
 | _,_,.nil=>rfl
 | _,_,.cons _ r=>by simp[ShL.length r]
theorem ShL.snoc{C:Addr}{ok:Addr->Prop}{H:Hp}{q:Addr}{s:Z2}(h:ShAt C ok H q s):∀ {vs:List V} {ss:List Z2},ShL C ok H vs ss->ShL C ok H (vs++[.ref q]) (ss++[s])
 | _,_,.nil=>.cons h .nil
 | _,_,.cons h' r=>.cons h' (ShL.snoc h r)
noncomputable abbrev Vu:=Str×Int×Int
noncomputable def U0(d:Vu):List V:=[.str d.1,.int d.2.1,.int d.2.2]
inductive Vj(C:Addr)(ok:Addr->Prop)(H:Hp):List V->List (Vu×Option Z2)->Prop where
 | nil:Vj C ok H [] []
 | cons {t u:Addr} {v:V} {d:Vu} {s:Option Z2} {vs:List V} {ss:List (Vu×Option Z2)} (h:H t=some (.tup [.ref u,v])) (hu:H u=some (.tup (U0 d))) (hs:ShO C ok H v s) (r:Vj C ok H vs ss):Vj C ok H (.ref t :: vs) ((d,s) :: ss)
theorem Vj.keep{C:Addr}{ok:Addr->Prop}{H H':Hp}(k:∀ x o,ok x->H x=some o->H' x=some o)(kt:∀ t xs,H t=some (.tup xs)->H' t=some (.tup xs)):∀ {vs:List V} {ss:List (Vu×Option Z2)},Vj C ok H vs ss->Vj C ok H' vs ss
 | _,_,.nil=>.nil
 | _,_,.cons h hu hs r=>.cons (kt _ _ h) (kt _ _ hu) (hs.keep k kt) (Vj.keep k kt r)
theorem Vj.length{C:Addr}{ok:Addr->Prop}{H:Hp}:∀ {vs:List V} {ss:List (Vu×Option Z2)},Vj C ok H vs ss->vs.length=ss.length
 | _,_,.nil=>rfl
 | _,_,.cons _ _ _ r=>by simp[Vj.length r]
theorem Vj.snoc{C:Addr}{ok:Addr->Prop}{H:Hp}{t u:Addr}{v:V}{d:Vu}{s:Option Z2}(h:H t=some (.tup [.ref u,v]))(hu:H u=some (.tup (U0 d)))(hs:ShO C ok H v s):∀ {vs:List V} {ss:List (Vu×Option Z2)},Vj C ok H vs ss->Vj C ok H (vs++[.ref t]) (ss++[(d,s)])
 | _,_,.nil=>.cons h hu hs .nil
 | _,_,.cons h' hu' hs' r=>.cons h' hu' hs' (Vj.snoc h hu hs r)
theorem Vj.unsnoc{C:Addr}{ok:Addr->Prop}{H:Hp}{d:Vu}{s:Option Z2}:∀ {vs:List V} {ss:List (Vu×Option Z2)},Vj C ok H vs (ss++[(d,s)])->∃ vs' t u v,vs=vs'++[.ref t]/\H t=some (.tup [.ref u,v])/\H u=some (.tup (U0 d))/\ShO C ok H v s/\Vj C ok H vs' ss
 | _,[],.cons h hu hs .nil=>⟨[],_,_,_,rfl,h,hu,hs,.nil⟩
 | _,_ :: _,.cons h hu hs r=>by
   obtain⟨vs',t,u,v,e,a1,a2,a3,a4⟩:=Vj.unsnoc r;exact⟨_ :: vs',t,u,v,by rw[e];rfl,a1,a2,a3,.cons h hu hs a4⟩
theorem Vj.get{C:Addr}{ok:Addr->Prop}{H:Hp}:∀ {vs:List V} {ss:List (Vu×Option Z2)} {i:Nat} {x:V},Vj C ok H vs ss->vs[i]?=some x->∃ t u v d s,x=.ref t/\ss[i]?=some (d,s)/\H t=some (.tup [.ref u,v])/\H u=some (.tup (U0 d))
 | _,_,_,_,.nil,e=>by simp at e
 | _,_,0,_,.cons h hu _ _,e=>by simp at e;subst e;exact⟨_,_,_,_,_,rfl,rfl,h,hu⟩
 | _,_,i+1,x,.cons _ _ _ r,e=>by
   obtain⟨t,u,v,d,s,h1,h2,h3⟩:=Vj.get (i:=i) (x:=x) r (by simpa using e);exact⟨t,u,v,d,s,h1,by simpa using h2,h3⟩
structure Sea where
 len:Nat
 rest:Nat
 ppl:RL
 led:List (List Row)
 out:List (Int×Int)
 old:List Z2
 cur:Option Z2
 std:List (Vu×Option Z2)
structure SAd where
 p:Addr
 pr:Addr
 dr:Addr
 pl:Addr
 lr:Addr
 ld:Addr
 da:Addr
 ls:Addr
 lt:Addr
noncomputable def SAd.fp(A:SAd):List Addr:=[A.p,A.dr,A.lr,A.ld,A.da,A.ls,A.lt]
noncomputable def seaF(A:SAd)(len rest:Nat)(v:V):List (Str×V):=[("length",.int len),("rest",.int rest),("roster",.ref A.pr),("ledger",.ref A.pl),("absent",.ref A.da),("sheets",.ref A.ls),("sheet",v),("standing",.ref A.lt)]
noncomputable def T5(kvs:List (List Key×V))(out:List (Int×Int)):Prop:=(∀ at_ n:Int,(valV kvs [inl at_,inl n]).isSome=decide ((at_,n)∈out))/\kvs.length<=out.length
structure Zv(ca:CA)(H:Hp)(A:SAd)(S:Sea):Prop where
 obj:∃ dx v,H A.p=some (.ins ca.season dx (seaF A S.len S.rest v))/\ShO ca.sheet (·∉A.fp) H v S.cur
 ros:Yt ca.roster H A.pr A.dr S.ppl
 led:W5 ca.ledger H A.pl A.lr A.ld S.led
 out:∃ kvs,H A.da=some (.dT kvs)/\T5 kvs S.out
 old:∃ vs,H A.ls=some (.lst vs)/\ShL ca.sheet (·∉A.fp) H vs S.old
 std:∃ vs,H A.lt=some (.lst vs)/\Vj ca.sheet (·∉A.fp) H vs S.std
 nd:A.fp.Nodup
 np:A.pr∉A.fp/\A.pl∉A.fp
noncomputable def FrS(A:SAd)(H H':Hp):Prop:=∀ b o,H b=some o->b∉A.fp->H' b=some o
end G
namespace L2
open PySem PySem.Spec PyProof.Rows
theorem Jg{X:Cx}{K:Frag}(hK:X.K=K):OpR X (binaryOp .Add) (Ai K):=hK▸Br
end L2
namespace G
open PySem PySem.Spec PyProof.Rows L2
theorem it2{p:Prop}[Decidable p]{A B A' B':Prop}(h:if p then A else B)(h1:p->A->A')(h2:¬ p->B->B'):if p then A' else B':=by
 by_cases z:p
 ·rw[if_pos z] at h ⊢;exact h1 z h
 ·rw[if_neg z] at h ⊢;exact h2 z h
theorem Eh{κ:Type}[DecidableEq κ]{kvs:List (κ×V)}{k:κ}{v:V}(h:valV kvs k=none):putK kvs k v=kvs++[(k,v)]:=by
 unfold putK;rw[if_neg];intro z;rw[Uu,h] at z;cases z
inductive Jh(C:Addr)(vs:List V)(H:Hp)(Q:VK)(_:XK):Prop where
 | mk(p lr ld:Addr)(Rs:List (List Row))(b:Addr)(ts:List V)(rs:List Row)(_:vs=[.ref p,.ref b])(_:W5 C H p lr ld Rs)(_:H b=some (.lst ts))(_:b≠lr)(_:TupL H ts (rs.map Qy))(_:2*(tot Rs+rs.length)<=100000)(_:Rs.length<=1000)(_:∀ H',W5 C H' p lr ld (Rs++[rs])->(∀ b o,H b=some o->b≠lr->b≠ld->H' b=some o)->Q .non H')
noncomputable def Gx(ok:Addr->Prop)(H:Hp):Prop:=∀ x,H x=none->ok x
inductive Qd(ca:CA)(vs:List V)(H:Hp)(Q:VK)(_:XK):Prop where
 | mk(q)(dx)(l1)(l2)(l3)(l4)(_:vs=[.ref q,.ref l1,.ref l2,.ref l3,.ref l4])(_:H q=some (.ins ca.sheet dx []))(_:∀ H',H'=upd H q (.ins ca.sheet dx (shF l1 l2 l3 l4))->Q .non H')
theorem Sn{l1 l2 l3 l4:Addr}:List.lookup ("listed":Str) (shF l1 l2 l3 l4)=some (.ref l1):=by unfold shF;simp only[zrs,beq_self_eq_true]
theorem T6{l1 l2 l3 l4:Addr}:List.lookup ("given":Str) (shF l1 l2 l3 l4)=some (.ref l3):=by
 have e:(("given":Str) == "listed")=false:=by decide +kernel
 have e2:(("given":Str) == "lists")=false:=by decide +kernel
 unfold shF;simp only[zrs,e,e2,beq_self_eq_true]
theorem Ke{l1 l2 l3 l4:Addr}:List.lookup ("gaps":Str) (shF l1 l2 l3 l4)=some (.ref l4):=by
 have e:(("gaps":Str) == "listed")=false:=by decide +kernel
 have e2:(("gaps":Str) == "lists")=false:=by decide +kernel
 have e3:(("gaps":Str) == "given")=false:=by decide +kernel
 unfold shF;simp only[zrs,e,e2,e3,beq_self_eq_true]
theorem T7{l1 l2 l3 l4:Addr}{m:Str}(h1:¬ m="listed")(h2:¬ m="lists")(h3:¬ m="given")(h4:¬ m="gaps"):List.lookup m (shF l1 l2 l3 l4)=none:=by
 have e1:(m == "listed")=false:=zrf.mpr h1;have e2:(m == "lists")=false:=zrf.mpr h2;have e3:(m == "given")=false:=zrf.mpr h3;have e4:(m == "gaps")=false:=zrf.mpr h4;unfold shF;simp only[zrs,e1,e2,e3,e4,List.lookup_nil]
theorem zde{x y:V}:putF "lists" y [(("listed":Str),x)]=([("listed",x),("lists",y)]:List (Str×V)):=by
 have n1:¬ (("listed":Str)="lists"):=by decide +kernel
 simp only[putF,if_neg n1]
theorem zdf{x y z:V}:putF "given" z [(("listed":Str),x),("lists",y)]=([("listed",x),("lists",y),("given",z)]:List (Str×V)):=by
 have n1:¬ (("listed":Str)="given"):=by decide +kernel
 have n2:¬ (("lists":Str)="given"):=by decide +kernel
 simp only[putF,if_neg n1,if_neg n2]
theorem zdg{x y z w:V}:putF "gaps" w [(("listed":Str),x),("lists",y),("given",z)]=([("listed",x),("lists",y),("given",z),("gaps",w)]:List (Str×V)):=by
 have n1:¬ (("listed":Str)="gaps"):=by decide +kernel
 have n2:¬ (("lists":Str)="gaps"):=by decide +kernel
 have n3:¬ (("given":Str)="gaps"):=by decide +kernel
 simp only[putF,if_neg n1,if_neg n2,if_neg n3]
theorem Rn{C:Addr}{H1:Hp}{q dx l1 l2 l3 l4:Addr}(hq:H1 q=none)(hdx:H1 dx=none)(ne:dx≠q):Same H1 (upd (upd (upd H1 dx (.own q)) q (.ins C dx [])) q (.ins C dx (shF l1 l2 l3 l4)))/\upd (upd (upd H1 dx (.own q)) q (.ins C dx [])) q (.ins C dx (shF l1 l2 l3 l4)) q=some (.ins C dx (shF l1 l2 l3 l4)):=by
 refine⟨fun b o e=>?_,Zb⟩;rw[Zg (Zh e hq),Zg (Zh e hq),Zg (Zh e hdx)];exact e
inductive Ji(ca:CA)(vs:List V)(H:Hp)(Q:VK)(_:XK):Prop where
 | mk(ok:Addr->Prop)(q l2:Addr)(ls:List Addr)(rows:List (List Int))(s:Z2)(_:vs=[.ref q,.ref l2])(_:ShAt ca.sheet ok H q s)(_:H l2=some (.lst (ls.map V.ref)))(_:ILs H ls rows)(_:ok l2)(_:(∀ x∈ls,ok x))(_:Gx ok H)(_:∀ q' H',ShAt ca.sheet ok H' q' { s with may:=rows }->Same H H'->H q'=none->Q (.ref q') H')
inductive Jj(ca:CA)(vs:List V)(H:Hp)(Q:VK)(_:XK):Prop where
 | mk(ok:Addr->Prop)(q l2:Addr)(ls:List Addr)(rows:List (List Int))(nu:List Int)(s:Z2)(n:Int)(p:Nat)(_:vs=[.ref q,.int n,.ref l2])(_:ShAt ca.sheet ok H q s)(_:H l2=some (.lst (ls.map V.ref)))(_:ILs H ls rows)(_:ok l2)(_:(∀ x∈ls,ok x))(_:Gx ok H)(_:Na rows nu)(_:(∀ x∈s.gv,oneV x))(_:s.gv[p]?=some (.int n))(_:(∀ j:Nat,s.gv[j]?=some (.int n)->j=p))(_:Yx rows (s.gv.set p .non))(_:s.gaps.length<=1000)(_:∀ q' st e w H',ShAt ca.sheet ok H' q' ⟨s.ms,rows,Yo st (s.gv.set p .non),s.gaps++[(n,st)]⟩->Yz rows (s.gv.set p .non) p st e w->Same H H'->H q'=none->Q (.ref q') H')
inductive Gy(ca:CA)(vs:List V)(H:Hp)(Q:VK)(_:XK):Prop where
 | mk(ok:Addr->Prop)(l1 l2:Addr)(ts:List V)(ls:List Addr)(ms:List (Int×Int×Int))(rows:List (List Int))(nu:List Int)(_:vs=[.ref l1,.ref l2])(_:H l1=some (.lst ts))(_:TupL H ts (ms.map pV))(_:H l2=some (.lst (ls.map V.ref)))(_:ILs H ls rows)(_:ok l1)(_:ok l2)(_:(∀ x∈ls,ok x))(_:Gx ok H)(_:Na rows nu)(_:∀ q gv H',ShAt ca.sheet ok H' q ⟨ms,rows,gv,[]⟩->Yx rows gv->Q3 rows gv->Same H H'->H q=none->Q (.ref q) H')
inductive Po(ca:CA)(vs:List V)(H:Hp)(Q:VK)(_:XK):Prop where
 | mk(ok:Addr->Prop)(q:Addr)(s:Z2)(_:vs=[.ref q])(_:ShAt ca.sheet ok H q s)(_:∀ l ts H',H' l=some (.lst ts)->TupL H' ts (s.ms.map pV)->Same H H'->H l=none->Q (.ref l) H')
inductive Jk(ca:CA)(vs:List V)(H:Hp)(Q:VK)(_:XK):Prop where
 | mk(ok:Addr->Prop)(q:Addr)(s:Z2)(_:vs=[.ref q])(_:ShAt ca.sheet ok H q s)(_:∀ l H',H' l=some (.lst s.gv)->Same H H'->H l=none->Q (.ref l) H')
inductive Q4(ca:CA)(vs:List V)(H:Hp)(Q:VK)(_:XK):Prop where
 | mk(ok:Addr->Prop)(q:Addr)(s:Z2)(n:Int)(_:vs=[.ref q,.int n])(_:ShAt ca.sheet ok H q s)(_:(∀ x∈s.gv,oneV x))(_:s.gv.length<=100)(_:∀ H',Same H H'->Q (oN (Wk s.gv n)) H')
noncomputable def Gz(m:Int×Int×Int)(x:V):Row:=⟨m.1,m.2.1,m.2.2,zcm (some x)⟩
noncomputable def W8(s:Z2):List Row:=List.zipWith Gz s.ms s.gv
inductive Jl(ca:CA)(vs:List V)(H:Hp)(Q:VK)(_:XK):Prop where
 | mk(ok:Addr->Prop)(q:Addr)(s:Z2)(_:vs=[.ref q])(_:ShAt ca.sheet ok H q s)(_:(∀ x∈s.gv,oneV x))(_:s.gv.length=s.ms.length)(_:s.ms.length<=1000)(_:∀ l ts H',H' l=some (.lst ts)->TupL H' ts ((W8 s).map Qy)->Same H H'->H l=none->Q (.ref l) H')
inductive Nf(ca:CA)(vs:List V)(H:Hp)(Q:VK)(_:XK):Prop where
 | mk(ok:Addr->Prop)(q:Addr)(s:Z2)(_:vs=[.ref q])(_:ShAt ca.sheet ok H q s)(_:s.gaps.length<=1000)(_:∀ l ts H',H' l=some (.lst ts)->We (fun x=>H x=none/\x≠l) H' ts s.gaps->Same H H'->H l=none->Q (.ref l) H')
theorem Ng{K:Frag}{a:Addr}{xs:List V}{xo:List Str}{js:List Nat}{g:TG}{tt:TT}{te:TE}{σ:L2.St}{H:Hp}{Q:VK}(Pv:Nat->List V->Hp->Prop)(h0:Pv 0 [] H)(hl:∀ i ys H,i<=xs.length->Pv i ys H->SqL K H a xs)(hz:xs.length<=sizeLine)(hy:∀ i ys H,Pv i ys H->ys.length<=i)
  (hs:∀ i x ys H,xs[i]?=some x->Pv i ys H->g x (cs0 xo js σ) H fun σ2 H1=>Sm xo js σ σ2/\tt σ2 H1 fun b H2=>if b=true then te σ2 H2 fun y H3=>Pv (i+1) (ys++[y]) H3 else Pv (i+1) ys H2)
  (hd:∀ ys H,Pv xs.length ys H->∀ p,H p=none->Q (.ref p) (upd H p (.lst ys))):He (Itl K a) xo js g tt te σ H Q:=by
 refine⟨fun i m ys H=>m=xs.length-i/\i<=xs.length/\Pv i ys H,⟨xs.length,by simp,zrj _,h0⟩,?_⟩;rintro i m ys H ⟨rfl,hi,p⟩;have q:=hl i ys H hi p;have ly:=hy i ys H p;by_cases hlt:i<xs.length
 ·refine .inr ⟨⟨xs,xs[i],q,by simp[hlt]⟩,by omega,Pv (i+1),fun ys' H' p'=>⟨xs.length-(i+1),by omega,rfl,hlt,p'⟩,fun x H' y=>?_⟩;obtain⟨e,y⟩:=y;subst e;exact hs i x ys _ (y xs q) p
 ·have e:i=xs.length:=by omega
  subst e;exact .inl ⟨⟨xs,q,zq1 _⟩,by omega,hd ys H p⟩
theorem Ei{K:Frag}{a b:Addr}{xs zs:List V}{xo:List Str}{js:List Nat}{g:TG}{tt:TT}{te:TE}{σ:L2.St}{H:Hp}{Q:VK}(Pv:Nat->List V->Hp->Prop)(h0:Pv 0 [] H)(he:xs.length=zs.length)(hl:∀ i ys H,i<=xs.length->Pv i ys H->SqL K H a xs/\SqL K H b zs)(hz:xs.length<=sizeLine)(hy:∀ i ys H,Pv i ys H->ys.length<=i)
  (hs:∀ i x z t ys H,xs[i]?=some x->zs[i]?=some z->Pv i ys H->H t=none->g (.ref t) (cs0 xo js σ) (upd H t (.tup [x,z])) fun σ2 H1=>Sm xo js σ σ2/\tt σ2 H1 fun b H2=>if b=true then te σ2 H2 fun y H3=>Pv (i+1) (ys++[y]) H3 else Pv (i+1) ys H2)
  (hd:∀ ys H,Pv xs.length ys H->∀ p,H p=none->Q (.ref p) (upd H p (.lst ys))):He (Itz K a b) xo js g tt te σ H Q:=by
 refine⟨fun i m ys H=>m=xs.length-i/\i<=xs.length/\Pv i ys H,⟨xs.length,by simp,zrj _,h0⟩,?_⟩;rintro i m ys H ⟨rfl,hi,p⟩;obtain⟨q1,q2⟩:=hl i ys H hi p;have ly:=hy i ys H p;by_cases hlt:i<xs.length
 ·refine .inr ⟨⟨xs,zs,xs[i],zs[i]'⋯,q1,q2,by simp[hlt],by rw[zqy ⋯]⟩,by omega,Pv (i+1),fun ys' H' p'=>⟨xs.length-(i+1),by omega,rfl,hlt,p'⟩,fun x H' y=>?_⟩;obtain⟨t,y,z,h1,h2,h3,rfl,rfl⟩:=y;exact hs i y z t ys _ (h2 xs q1) (h3 zs q2) p h1
 ·have e:i=xs.length:=by omega
  subst e;exact .inl ⟨⟨xs,zs,q1,q2,.inl (zq1 _)⟩,by omega,hd ys H p⟩
theorem zba(m:Int×Int×Int){x:V}(h:oneV x):Qy (Gz m x)=[V.int m.1,V.int m.2.1,V.int m.2.2,x]:=by
 rcases h with rfl|⟨i,rfl⟩<;>rfl
theorem Ej{s:Z2}{i:Nat}{m:Int×Int×Int}{x:V}(hm:s.ms[i]?=some m)(hx:s.gv[i]?=some x):(W8 s).take (i+1)=(W8 s).take i++[Gz m x]:=by
 have:(W8 s)[i]?=some (Gz m x):=by
  unfold W8;rw[List.getElem?_zipWith,hm,hx]
 rw[zry,this];rfl
theorem Jm{s:Z2}(h:s.gv.length=s.ms.length):(W8 s).length=s.ms.length:=by
 unfold W8;rw[List.length_zipWith,h,Nat.min_self]
section
variable{ca:CA}{H H':Hp}{A:SAd}{S:Sea}{l:Nat}{r:Nat}{v:V}
theorem Jn(A:SAd)(l r:Nat)(v:V):List.lookup ("length":Str) (seaF A l r v)=some (.int l)/\List.lookup ("rest":Str) (seaF A l r v)=some (.int r)/\List.lookup ("roster":Str) (seaF A l r v)=some (.ref A.pr)/\List.lookup ("ledger":Str) (seaF A l r v)=some (.ref A.pl)/\List.lookup ("absent":Str) (seaF A l r v)=some (.ref A.da)/\List.lookup ("sheets":Str) (seaF A l r v)=some (.ref A.ls)/\List.lookup ("sheet":Str) (seaF A l r v)=some v/\List.lookup ("standing":Str) (seaF A l r v)=some (.ref A.lt):=by
 have d:∀ a b:Str,decide (a=b)=false->(a == b)=false:=fun a b h=>zrf.mpr (of_decide_eq_false h);have e1:=d "rest" "length" ⋯;have e2:=d "roster" "length" ⋯;have e3:=d "roster" "rest" ⋯;have f1:=d "ledger" "length" ⋯;have f2:=d "ledger" "rest" ⋯;have f3:=d "ledger" "roster" ⋯;have g1:=d "absent" "length" ⋯;have g2:=d "absent" "rest" ⋯;have g3:=d "absent" "roster" ⋯;have g4:=d "absent" "ledger" ⋯;have h1:=d "sheets" "length" ⋯;have h2:=d "sheets" "rest" ⋯;have h3:=d "sheets" "roster" ⋯;have h4:=d "sheets" "ledger" ⋯;have h5:=d "sheets" "absent" ⋯;have i1:=d "sheet" "length" ⋯;have i2:=d "sheet" "rest" ⋯;have i3:=d "sheet" "roster" ⋯;have i4:=d "sheet" "ledger" ⋯;have i5:=d "sheet" "absent" ⋯;have i6:=d "sheet" "sheets" ⋯;have j1:=d "standing" "length" ⋯;have j2:=d "standing" "rest" ⋯;have j3:=d "standing" "roster" ⋯;have j4:=d "standing" "ledger" ⋯;have j5:=d "standing" "absent" ⋯;have j6:=d "standing" "sheets" ⋯;have j7:=d "standing" "sheet" ⋯;unfold seaF;refine⟨?_,?_,?_,?_,?_,?_,?_,?_⟩<;>simp only[zrs,beq_self_eq_true,e1,e2,e3,f1,f2,f3,g1,g2,g3,g4,h1,h2,h3,h4,h5,i1,i2,i3,i4,i5,i6,j1,j2,j3,j4,j5,j6,j7]
theorem Le:List.lookup ("length":Str) (seaF A l r v)=some (.int l):=(Jn A l r v).1
theorem B2:List.lookup ("rest":Str) (seaF A l r v)=some (.int r):=(Jn A l r v).2.1
theorem Wg:List.lookup ("roster":Str) (seaF A l r v)=some (.ref A.pr):=(Jn A l r v).2.2.1
theorem V3:List.lookup ("ledger":Str) (seaF A l r v)=some (.ref A.pl):=(Jn A l r v).2.2.2.1
theorem So:List.lookup ("absent":Str) (seaF A l r v)=some (.ref A.da):=(Jn A l r v).2.2.2.2.1
theorem Ek:List.lookup ("sheets":Str) (seaF A l r v)=some (.ref A.ls):=(Jn A l r v).2.2.2.2.2.1
theorem Xt:List.lookup ("sheet":Str) (seaF A l r v)=some v:=(Jn A l r v).2.2.2.2.2.2.1
theorem Vk:List.lookup ("standing":Str) (seaF A l r v)=some (.ref A.lt):=(Jn A l r v).2.2.2.2.2.2.2
theorem Yc{m:Str}(h:(["length","rest","roster","ledger","absent","sheets","sheet","standing"]:List Str).all (fun x=>!decide (m=x))=true):List.lookup m (seaF A l r v)=none:=by
 simp only[List.all_cons,List.all_nil,Bool.and_true,zsa,Bool.not_eq_true',decide_eq_false_iff_not] at h;obtain⟨h1,h2,h3,h4,h5,h6,h7,h8⟩:=h;have e:∀ x:Str,¬ m=x->(m == x)=false:=fun x z=>zrf.mpr z;unfold seaF;simp only[zrs,e _ h1,e _ h2,e _ h3,e _ h4,e _ h5,e _ h6,e _ h7,e _ h8,List.lookup_nil]
theorem Zv.same(h:Zv ca H A S)(e:Same H H'):Zv ca H' A S:=by
 obtain⟨⟨dx,v,a1,a2⟩,b,c,⟨kvs,d1,d2⟩,⟨vs,f1,f2⟩,⟨us,g1,g2⟩,nd,np⟩:=h;have k:∀ x o,x∉A.fp->H x=some o->H' x=some o:=fun _ _ _ q=>e _ _ q;have kt:∀ t xs,H t=some (.tup xs)->H' t=some (.tup xs):=fun _ _ q=>e _ _ q;exact⟨⟨dx,v,e _ _ a1,a2.keep k kt⟩,b.same e,c.same e,⟨kvs,e _ _ d1,d2⟩,⟨vs,e _ _ f1,f2.keep k kt⟩,⟨us,e _ _ g1,g2.keep k kt⟩,nd,np⟩
theorem FrS.of(A:SAd)(e:Same H H'):FrS A H H':=fun b o q _=>e b o q
theorem FrS.trans{H2:Hp}(h1:FrS A H H')(h2:FrS A H' H2):FrS A H H2:=fun b o e n=>h2 b o (h1 b o e n) n
theorem Zv.there(h:Zv ca H A S):∀ x∈A.fp,∃ o,H x=some o:=by
 obtain⟨⟨dx,v,a1,_⟩,⟨⟨_,_,_,b2,_⟩,_⟩,⟨_,⟨rs,c2,_⟩,⟨ks,c3,_⟩⟩,⟨kvs,d1,_⟩,⟨vs,f1,_⟩,⟨us,g1,_⟩,nd,np⟩:=h;intro x hx;simp only[SAd.fp,zq0,zru,or_false] at hx;rcases hx with rfl|rfl|rfl|rfl|rfl|rfl|rfl
 ·exact⟨_,a1⟩
 ·exact⟨_,b2⟩
 ·exact⟨_,c2⟩
 ·exact⟨_,c3⟩
 ·exact⟨_,d1⟩
 ·exact⟨_,f1⟩
 ·exact⟨_,g1⟩
theorem Zv.newOk(h:Zv ca H A S):Gx (·∉A.fp) H:=fun x hx hm=>by
 obtain⟨o,e⟩:=h.there x hm;rw[e] at hx;cases hx
theorem Zv.tups(h:Zv ca H A S)(f:FrS A H H'):∀ t xs,H t=some (.tup xs)->H' t=some (.tup xs):=fun t xs e=>f t _ e fun hm=>by
 obtain⟨⟨dx,v,a1,_⟩,⟨⟨_,_,_,b2,_⟩,_⟩,⟨_,⟨rs,c2,_⟩,⟨ks,c3,_⟩⟩,⟨kvs,d1,_⟩,⟨vs,f1,_⟩,⟨us,g1,_⟩,nd,np⟩:=h;simp only[SAd.fp,zq0,zru,or_false] at hm;rcases hm with rfl|rfl|rfl|rfl|rfl|rfl|rfl
 ·rw[a1] at e;cases e
 ·rw[b2] at e;cases e
 ·rw[c2] at e;cases e
 ·rw[c3] at e;cases e
 ·rw[d1] at e;cases e
 ·rw[f1] at e;cases e
 ·rw[g1] at e;cases e
end
noncomputable def atV(S:Sea):Int:=(S.led.length:Int)+1
inductive Wm(ca:CA)(vs:List V)(H:Hp)(Q:VK)(_:XK):Prop where
 | mk(A:SAd)(S:Sea)(_:vs=[.ref A.p])(_:Zv ca H A S)(_:Q (.int (atV S)) H)
inductive Q5(ca:CA)(vs:List V)(H:Hp)(Q:VK)(E:XK):Prop where
 | mk(A:SAd)(S:Sea)(_:vs=[.ref A.p])(_:Zv ca H A S)(_:if S.len<=S.led.length then E (.ref ca.seaOver) none H else Q .non H)
inductive Q6(ca:CA)(vs:List V)(H:Hp)(Q:VK)(E:XK):Prop where
 | mk(A:SAd)(S:Sea)(_:vs=[.ref A.p])(_:Zv ca H A S)(_:if S.len<=S.led.length then E (.ref ca.seaOver) none H else if S.cur.isSome then E (.ref ca.drawn) none H else Q .non H)
inductive G0(ca:CA)(vs:List V)(H:Hp)(Q:VK)(E:XK):Prop where
 | mk(A:SAd)(S:Sea)(at_:Int)(_:vs=[.ref A.p,.int at_])(_:Zv ca H A S)(_:Z0 at_)(_:if at_<1\/(S.len:Int)<at_ then E (.ref ca.noRound) none H else Q .non H)
inductive Kf(ca:CA)(vs:List V)(H:Hp)(Q:VK)(E:XK):Prop where
 | mk(A:SAd)(S:Sea)(_:vs=[.ref A.p])(_:Zv ca H A S)(_:if 100<=S.std.length then E (.ref ca.manyD) none H else Q .non H)
inductive Kg(ca:CA)(vs:List V)(H:Hp)(Q:VK)(_:XK):Prop where
 | mk(A:SAd)(S:Sea)(w:Str)(n at_:Int)(_:vs=[.ref A.p,.str w,.int n,.int at_])(_:Zv ca H A S)(_:S.std.length<=1000)(_:∀ H',Zv ca H' A { S with std:=S.std++[((w,n,at_),S.cur)] }->FrS A H H'->Q .non H')
inductive Nh(ca:CA)(vs:List V)(H:Hp)(Q:VK)(E:XK):Prop where
 | mk(A:SAd)(S:Sea)(_:vs=[.ref A.p])(_:Zv ca H A S)(_:(S.cur=none->E (.ref ca.notDrawn) none H))(_:∀ s q,S.cur=some s->ShAt ca.sheet (·∉A.fp) H q s->Q (.ref q) H)
noncomputable def pIn(out:List (Int×Int))(at_:Int)(m:P3):Bool:=decide ((at_,m.1)∈out)
noncomputable def Jo(S:Sea)(m:P3):List Int:=(S.ppl.filter fun x=>(L6 S.led x.1 x.2.1 x.2.2 m.1 m.2.1 m.2.2 (pIn S.out (atV S) x) S.rest).isEmpty).map (·.1)
noncomputable def mayS(S:Sea)(ms:List P3):List (List Int):=ms.map (Jo S)
inductive Ro(ca:CA)(vs:List V)(H:Hp)(Q:VK)(_:XK):Prop where
 | mk(A:SAd)(S:Sea)(l:Addr)(ts:List V)(ms:List P3)(_:vs=[.ref A.p,.ref l])(_:Zv ca H A S)(_:H l=some (.lst ts))(_:TupL H ts (ms.map pV))(_:ms.length<=100)(_:S.ppl.length<=100)(_:(∀ x∈S.ppl,Z0 x.1))(_:∀ l' ls H',H' l'=some (.lst (ls.map V.ref))->ILs H' ls (mayS S ms)->Same H H'->H l'=none->(∀ x∈ls,H x=none)->Q (.ref l') H')
noncomputable def badM(m:P3):Prop:=m.1<1\/99<m.1\/m.2.1<1\/99<m.2.1\/m.2.2<1\/9<m.2.2
noncomputable def Tc(Ms:List P3):Prop:=∃ m∈Ms,badM m
noncomputable def Td(Ms:List P3):Prop:=∃ m∈Ms,m.1=m.2.1
noncomputable def Ni(m:P3):Prop:=Z0 m.1/\Z0 m.2.1/\Z0 m.2.2
theorem Lg{p:P3->Prop}{Ms:List P3}{i:Nat}{m:P3}(e:Ms[i]?=some m)(h:∀ x∈Ms.take i,¬ p x)(hm:¬ p m):∀ x∈Ms.take (i+1),¬ p x:=fun x hx=>by
 rw[zry,e] at hx;rcases zrd.mp hx with q|q
 ·exact h x q
 ·simp at q;subst q;exact hm
inductive Jp(K:Frag)(ca:CA)(vs:List V)(H:Hp)(Q:VK)(E:XK):Prop where
 | mk(b)(ts)(_:vs=[.ref b])(_:SqL K H b ts)(_:ts.length<=1000)(_:(20<ts.length->E (.ref ca.manyM) none H))(_:(ts.length<=20->Q .non H))
inductive Lh(K:Frag)(ca:CA)(vs:List V)(H:Hp)(Q:VK)(E:XK):Prop where
 | mk(b:Addr)(ts:List V)(Ms:List P3)(_:vs=[.ref b])(_:SqL K H b ts)(_:TupL H ts (Ms.map pV))(_:(∀ m∈Ms,Ni m))(_:(Tc Ms->E (.ref ca.out) none H))(_:(¬ Tc Ms->Q .non H))
inductive Jq(K:Frag)(ca:CA)(vs:List V)(H:Hp)(Q:VK)(E:XK):Prop where
 | mk(b:Addr)(ts:List V)(Ms:List P3)(_:vs=[.ref b])(_:SqL K H b ts)(_:TupL H ts (Ms.map pV))(_:(∀ m∈Ms,Ni m))(_:(Td Ms->E (.ref ca.same) none H))(_:(¬ Td Ms->Q .non H))
inductive Nj(K:Frag)(ca:CA)(vs:List V)(H:Hp)(Q:VK)(E:XK):Prop where
 | mk(b:Addr)(ts:List V)(Ms:List P3)(_:vs=[.ref b])(_:SqL K H b ts)(_:TupL H ts (Ms.map pV))(_:(∀ m∈Ms,Ni m))(_:Ms.length<=1000)(_:(20<Ms.length->E (.ref ca.manyM) none H))(_:(Ms.length<=20->Tc Ms->E (.ref ca.out) none H))(_:(Ms.length<=20->¬ Tc Ms->Td Ms->E (.ref ca.same) none H))(_:(Ms.length<=20->¬ Tc Ms->¬ Td Ms->∀ l,H l=none->Q (.ref l) (upd H l (.lst ts))))
theorem T5.isSome{kvs:List (List Key×V)}{out:List (Int×Int)}(h:T5 kvs out)(i n:Int):(valV kvs [inl i,inl n]).isSome=decide ((i,n)∈out):=h.1 i n
theorem Nk{A:SAd}(nd:A.fp.Nodup):(A.p≠A.dr/\A.p≠A.lr/\A.p≠A.ld/\A.p≠A.da/\A.p≠A.ls/\A.p≠A.lt)/\(A.dr≠A.lr/\A.dr≠A.ld/\A.dr≠A.da/\A.dr≠A.ls/\A.dr≠A.lt)/\(A.lr≠A.ld/\A.lr≠A.da/\A.lr≠A.ls/\A.lr≠A.lt)/\(A.ld≠A.da/\A.ld≠A.ls/\A.ld≠A.lt)/\(A.da≠A.ls/\A.da≠A.lt)/\A.ls≠A.lt:=by
 simp only[SAd.fp,zrl,zq0,zru,or_false,not_or] at nd;obtain⟨⟨n1,n2,n3,n4,n5,n6⟩,⟨n7,n8,n9,n10,n11⟩,⟨n12,n13,n14,n15⟩,⟨n16,n17,n18⟩,⟨n19,n20⟩,n21,_⟩:=nd;exact⟨⟨n1,n2,n3,n4,n5,n6⟩,⟨n7,n8,n9,n10,n11⟩,⟨n12,n13,n14,n15⟩,⟨n16,n17,n18⟩,⟨n19,n20⟩,n21⟩
theorem B3{R:RL}(nd:(R.map (·.1)).Nodup){x y:P3}(hx:x∈R)(hy:y∈R)(h:x.1=y.1):x=y:=by
 induction R with
 | nil=>cases hx
 | cons z R ih =>
   rw[zq8,zrl] at nd;rcases zq0.mp hx with e|e<;>rcases zq0.mp hy with e'|e'
   ·rw[e,e']
   ·exact absurd (zrg.mpr ⟨y,e',by rw[<- h,e]⟩) nd.1
   ·exact absurd (zrg.mpr ⟨x,e,by rw[h,e']⟩) nd.1
   ·exact ih nd.2 e e'
noncomputable def outV(S:Sea):List V:=(S.ppl.filter (pIn S.out (atV S))).map fun x=>V.int x.1
theorem Cq(S:Sea):∀ x∈outV S,oneV x:=fun x hx=>by
 unfold outV at hx;obtain⟨m,_,rfl⟩:=zrg.mp hx;exact .inr ⟨_,rfl⟩
theorem B4{S:Sea}{x:P3}(hx:x∈S.ppl):inV (.int x.1) (outV S)=pIn S.out (atV S) x:=by
 unfold outV;rw[show ((S.ppl.filter (pIn S.out (atV S))).map fun x=>V.int x.1)=((S.ppl.filter (pIn S.out (atV S))).map (·.1)).map V.int by rw[List.map_map];rfl,Gs];unfold pIn;by_cases h:(atV S,x.1)∈S.out
 ·rw[zq2 h,zq2];exact zrg.mpr ⟨x,zsb.mpr ⟨hx,zq2 h⟩,rfl⟩
 ·rw[zq5 h,zq5];intro z;obtain⟨y,h1,h2⟩:=zrg.mp z;have:=of_decide_eq_true (zsb.mp h1).2;rw[h2] at this;exact h this
theorem zbb(S:Sea)(m:P3):((S.ppl.filter (T3 S.led m.1 m.2.1 m.2.2 (outV S) S.rest)).map fun x=>V.int x.1)=(Jo S m).map V.int:=by
 unfold Jo;rw[List.map_map];have:S.ppl.filter (T3 S.led m.1 m.2.1 m.2.2 (outV S) S.rest)=S.ppl.filter fun x=>(L6 S.led x.1 x.2.1 x.2.2 m.1 m.2.1 m.2.2 (pIn S.out (atV S) x) S.rest).isEmpty:=by
  refine List.filter_congr fun x hx=>?_;unfold T3;rw[B4 hx]
 rw[this];rfl
theorem Cr{xs:List V}{x:V}:atI (xs++[x]) (-1)=some x:=by
 have hl:(xs++[x]).length=xs.length+1:=by rw[zq4];rfl
 unfold atI ixN;rw[if_neg ⋯,if_pos ⋯];show (xs++[x])[((-1:Int)+(xs++[x]).length).toNat]?=_;rw[show ((-1:Int)+(xs++[x]).length).toNat=xs.length by omega,zrt (zq1 _),Nat.sub_self];rfl
theorem We.unsnoc{ok:Addr->Prop}{H:Hp}{n:Int}{st:List (Nat×Option Int)}:∀ {vs:List V} {G:List (Int×List (Nat×Option Int))},We ok H vs (G++[(n,st)])->∃ vs' t l us,vs=vs'++[.ref t]/\H t=some (.tup [.int n,.ref l])/\H l=some (.lst us)/\TupL H us (st.map W6)/\ok l
 | _,[],.cons h hl tl o .nil=>⟨[],_,_,_,rfl,h,hl,tl,o⟩
 | _,_ :: _,.cons h hl tl o r=>by
   obtain⟨vs',t,l,us,e,a⟩:=We.unsnoc r;exact⟨_ :: vs',t,l,us,by rw[e];rfl,a⟩
noncomputable def T8(S:Sea):Prop:=(∀ x∈S.ppl,¬ badI x.1 x.2.1 x.2.2)/\S.ppl.length<=30
theorem T8.small{S:Sea}(h:T8 S):∀ x∈S.ppl,Z0 x.1:=fun x hx=>by
 have:=h.1 x hx;unfold badI at this;exact Zz ⋯ ⋯
theorem T8.may{S:Sea}{ms:List P3}(h:T8 S)(nd:(S.ppl.map (·.1)).Nodup)(hm:ms.length<=20):Na (mayS S ms) (S.ppl.map (·.1)):=by
 refine⟨by unfold mayS;rw[zqx];exact hm,by rw[zqx];exact h.2,nd,fun n hn=>?_,fun r hr=>?_⟩
 ·obtain⟨x,hx,rfl⟩:=zrg.mp hn;have:=h.1 x hx;unfold badI at this;omega
 ·unfold mayS at hr;obtain⟨m,_,rfl⟩:=zrg.mp hr;unfold Jo;exact⟨nd.sublist (List.Sublist.map _ List.filter_sublist),fun n hn=>by
   obtain⟨x,hx,rfl⟩:=zrg.mp hn;exact zrg.mpr ⟨x,(zsb.mp hx).1,rfl⟩⟩
section
variable{ca:CA}{H H':Hp}{A:SAd}{S:Sea}
theorem Pp(h:Zv ca H A S){x:Addr}(hx:x∈A.fp):A.pr≠x/\A.pl≠x:=⟨fun z=>h.np.1 (by rw[z];exact hx),fun z=>h.np.2 (by rw[z];exact hx)⟩
theorem FrS.one{x:Addr}(hx:x∈A.fp)(k:∀ b o,H b=some o->b≠x->H' b=some o):FrS A H H':=fun b o e hb=>k b o e fun z=>hb (by rw[z];exact hx)
theorem Zv.setRos{R:RL}(h:Zv ca H A S)(r:Yt ca.roster H' A.pr A.dr R)(k:∀ b o,H b=some o->b≠A.dr->H' b=some o):Zv ca H' A { S with ppl:=R }/\FrS A H H':=by
 have f:FrS A H H':=.one (by simp[SAd.fp]) k;have kt:=h.tups f;have ko:∀ x o,x∉A.fp->H x=some o->H' x=some o:=fun x o hx e=>f x o e hx;obtain⟨⟨n1,n2,n3,n4,n5,n6⟩,⟨n7,n8,n9,n10,n11⟩,⟨n12,n13,n14,n15⟩,⟨n16,n17,n18⟩,⟨n19,n20⟩,n21⟩:=Nk h.nd;have np:=Pp h (show A.dr∈A.fp by simp[SAd.fp]);obtain⟨⟨dx,v,a1,a2⟩,b,c,⟨kvs,d1,d2⟩,⟨vs,f1,f2⟩,⟨us,g1,g2⟩,nd,np'⟩:=h;exact⟨⟨⟨dx,v,k _ _ a1 n1,a2.keep ko kt⟩,r,c.keep (fun o e=>k _ o e np.2) (fun o e=>k _ o e (Ne.symm n7)) (fun o e=>k _ o e (Ne.symm n8)) kt,⟨kvs,k _ _ d1 (Ne.symm n9),d2⟩,⟨vs,k _ _ f1 (Ne.symm n10),f2.keep ko kt⟩,⟨us,k _ _ g1 (Ne.symm n11),g2.keep ko kt⟩,nd,np'⟩,f⟩
theorem Zv.setOut{out:List (Int×Int)}{kvs:List (List Key×V)}(h:Zv ca H A S)(hd:H' A.da=some (.dT kvs))(ok:T5 kvs out)(k:∀ b o,H b=some o->b≠A.da->H' b=some o):Zv ca H' A { S with out:=out }/\FrS A H H':=by
 have f:FrS A H H':=.one (by simp[SAd.fp]) k;have kt:=h.tups f;have ko:∀ x o,x∉A.fp->H x=some o->H' x=some o:=fun x o hx e=>f x o e hx;obtain⟨⟨n1,n2,n3,n4,n5,n6⟩,⟨n7,n8,n9,n10,n11⟩,⟨n12,n13,n14,n15⟩,⟨n16,n17,n18⟩,⟨n19,n20⟩,n21⟩:=Nk h.nd;have np:=Pp h (show A.da∈A.fp by simp[SAd.fp]);obtain⟨⟨dx,v,a1,a2⟩,b,c,⟨kvs',d1,d2⟩,⟨vs,f1,f2⟩,⟨us,g1,g2⟩,nd,np'⟩:=h;exact⟨⟨⟨dx,v,k _ _ a1 n4,a2.keep ko kt⟩,b.keep (fun o e=>k _ o e np.1) (fun o e=>k _ o e n9) kt,c.keep (fun o e=>k _ o e np.2) (fun o e=>k _ o e n13) (fun o e=>k _ o e n16) kt,⟨kvs,hd,ok⟩,⟨vs,k _ _ f1 (Ne.symm n19),f2.keep ko kt⟩,⟨us,k _ _ g1 (Ne.symm n20),g2.keep ko kt⟩,nd,np'⟩,f⟩
theorem Zv.setCur{cur:Option Z2}{v:V}(h:Zv ca H A S)(hp:∃ dx,H' A.p=some (.ins ca.season dx (seaF A S.len S.rest v)))(sh:ShO ca.sheet (·∉A.fp) H' v cur)(k:∀ b o,H b=some o->b≠A.p->H' b=some o):Zv ca H' A { S with cur:=cur }/\FrS A H H':=by
 have f:FrS A H H':=.one (by simp[SAd.fp]) k;have kt:=h.tups f;have ko:∀ x o,x∉A.fp->H x=some o->H' x=some o:=fun x o hx e=>f x o e hx;obtain⟨⟨n1,n2,n3,n4,n5,n6⟩,⟨n7,n8,n9,n10,n11⟩,⟨n12,n13,n14,n15⟩,⟨n16,n17,n18⟩,⟨n19,n20⟩,n21⟩:=Nk h.nd;have np:=Pp h (show A.p∈A.fp by simp[SAd.fp]);obtain⟨⟨dx,v',a1,a2⟩,b,c,⟨kvs',d1,d2⟩,⟨vs,f1,f2⟩,⟨us,g1,g2⟩,nd,np'⟩:=h;obtain⟨dx',hp⟩:=hp;exact⟨⟨⟨dx',v,hp,sh⟩,b.keep (fun o e=>k _ o e np.1) (fun o e=>k _ o e (Ne.symm n1)) kt,c.keep (fun o e=>k _ o e np.2) (fun o e=>k _ o e (Ne.symm n2)) (fun o e=>k _ o e (Ne.symm n3)) kt,⟨kvs',k _ _ d1 (Ne.symm n4),d2⟩,⟨vs,k _ _ f1 (Ne.symm n5),f2.keep ko kt⟩,⟨us,k _ _ g1 (Ne.symm n6),g2.keep ko kt⟩,nd,np'⟩,f⟩
theorem Zv.setStd{std:List (Vu×Option Z2)}{us:List V}(h:Zv ca H A S)(hd:H' A.lt=some (.lst us))(ok:Vj ca.sheet (·∉A.fp) H' us std)(k:∀ b o,H b=some o->b≠A.lt->H' b=some o):Zv ca H' A { S with std:=std }/\FrS A H H':=by
 have f:FrS A H H':=.one (by simp[SAd.fp]) k;have kt:=h.tups f;have ko:∀ x o,x∉A.fp->H x=some o->H' x=some o:=fun x o hx e=>f x o e hx;obtain⟨⟨n1,n2,n3,n4,n5,n6⟩,⟨n7,n8,n9,n10,n11⟩,⟨n12,n13,n14,n15⟩,⟨n16,n17,n18⟩,⟨n19,n20⟩,n21⟩:=Nk h.nd;have np:=Pp h (show A.lt∈A.fp by simp[SAd.fp]);obtain⟨⟨dx,v,a1,a2⟩,b,c,⟨kvs,d1,d2⟩,⟨vs,f1,f2⟩,⟨us',g1,g2⟩,nd,np'⟩:=h;exact⟨⟨⟨dx,v,k _ _ a1 n6,a2.keep ko kt⟩,b.keep (fun o e=>k _ o e np.1) (fun o e=>k _ o e n11) kt,c.keep (fun o e=>k _ o e np.2) (fun o e=>k _ o e n15) (fun o e=>k _ o e n18) kt,⟨kvs,k _ _ d1 n20,d2⟩,⟨vs,k _ _ f1 n21,f2.keep ko kt⟩,⟨us,hd,ok⟩,nd,np'⟩,f⟩
theorem Zv.setOld{old:List Z2}{us:List V}(h:Zv ca H A S)(hd:H' A.ls=some (.lst us))(ok:ShL ca.sheet (·∉A.fp) H' us old)(k:∀ b o,H b=some o->b≠A.ls->H' b=some o):Zv ca H' A { S with old:=old }/\FrS A H H':=by
 have f:FrS A H H':=.one (by simp[SAd.fp]) k;have kt:=h.tups f;have ko:∀ x o,x∉A.fp->H x=some o->H' x=some o:=fun x o hx e=>f x o e hx;obtain⟨⟨n1,n2,n3,n4,n5,n6⟩,⟨n7,n8,n9,n10,n11⟩,⟨n12,n13,n14,n15⟩,⟨n16,n17,n18⟩,⟨n19,n20⟩,n21⟩:=Nk h.nd;have np:=Pp h (show A.ls∈A.fp by simp[SAd.fp]);obtain⟨⟨dx,v,a1,a2⟩,b,c,⟨kvs,d1,d2⟩,⟨vs,f1,f2⟩,⟨us',g1,g2⟩,nd,np'⟩:=h;exact⟨⟨⟨dx,v,k _ _ a1 n5,a2.keep ko kt⟩,b.keep (fun o e=>k _ o e np.1) (fun o e=>k _ o e n10) kt,c.keep (fun o e=>k _ o e np.2) (fun o e=>k _ o e n14) (fun o e=>k _ o e n17) kt,⟨kvs,k _ _ d1 n19,d2⟩,⟨us,hd,ok⟩,⟨us',k _ _ g1 (Ne.symm n21),g2.keep ko kt⟩,nd,np'⟩,f⟩
theorem Zv.setLed{Rs:List (List Row)}(h:Zv ca H A S)(l:W5 ca.ledger H' A.pl A.lr A.ld Rs)(k:∀ b o,H b=some o->b≠A.lr->b≠A.ld->H' b=some o):Zv ca H' A { S with led:=Rs }/\FrS A H H':=by
 have f:FrS A H H':=fun b o e hb=>k b o e (fun z=>hb (by rw[z];simp[SAd.fp])) (fun z=>hb (by rw[z];simp[SAd.fp]));have kt:=h.tups f;have ko:∀ x o,x∉A.fp->H x=some o->H' x=some o:=fun x o hx e=>f x o e hx;obtain⟨⟨n1,n2,n3,n4,n5,n6⟩,⟨n7,n8,n9,n10,n11⟩,⟨n12,n13,n14,n15⟩,⟨n16,n17,n18⟩,⟨n19,n20⟩,n21⟩:=Nk h.nd;have np:=Pp h (show A.lr∈A.fp by simp[SAd.fp]);have np2:=Pp h (show A.ld∈A.fp by simp[SAd.fp]);obtain⟨⟨dx,v,a1,a2⟩,b,c,⟨kvs,d1,d2⟩,⟨vs,f1,f2⟩,⟨us',g1,g2⟩,nd,np'⟩:=h;exact⟨⟨⟨dx,v,k _ _ a1 n2 n3,a2.keep ko kt⟩,b.keep (fun o e=>k _ o e np.1 np2.1) (fun o e=>k _ o e n7 n8) kt,l,⟨kvs,k _ _ d1 (Ne.symm n13) (Ne.symm n16),d2⟩,⟨vs,k _ _ f1 (Ne.symm n14) (Ne.symm n17),f2.keep ko kt⟩,⟨us',k _ _ g1 (Ne.symm n15) (Ne.symm n18),g2.keep ko kt⟩,nd,np'⟩,f⟩
theorem Rp{l r:Nat}{v v':V}:putF "sheet" v' (seaF A l r v)=seaF A l r v':=by
 have n1:¬ (("length":Str)="sheet"):=by decide +kernel
 have n2:¬ (("rest":Str)="sheet"):=by decide +kernel
 have n3:¬ (("roster":Str)="sheet"):=by decide +kernel
 have n4:¬ (("ledger":Str)="sheet"):=by decide +kernel
 have n5:¬ (("absent":Str)="sheet"):=by decide +kernel
 have n6:¬ (("sheets":Str)="sheet"):=by decide +kernel
 simp only[putF,seaF,if_neg n1,if_neg n2,if_neg n3,if_neg n4,if_neg n5,if_neg n6,if_true]
theorem FrS.free{S':Sea}(f:FrS A H H')(h:Zv ca H' A S'){l:Addr}(hl:H' l=none):H l=none:=by
 cases e:H l with
 | none=>rfl
 | some o =>
   by_cases hm:l∈A.fp
   ·obtain⟨o',e'⟩:=h.there l hm;rw[e'] at hl;cases hl
   ·rw[f l o e hm] at hl;cases hl
theorem ShAt.ins{q:Addr}{s:Z2}(h:ShAt ca.sheet (·∉A.fp) H q s):∃ dx l1 l2 l3 l4,H q=some (.ins ca.sheet dx (shF l1 l2 l3 l4)):=by
 obtain⟨dx,l1,l2,l3,l4,_,_,_,a1,_⟩:=h;exact⟨dx,l1,l2,l3,l4,a1⟩
theorem Zv.newSheet{q dx:Addr}{v:V}{s:Z2}(h:Zv ca H A S)(hp:H A.p=some (.ins ca.season dx (seaF A S.len S.rest v)))(sh:ShAt ca.sheet (·∉A.fp) H q s) :
  Zv ca (upd H A.p (.ins ca.season dx (putF "sheet" (.ref q) (seaF A S.len S.rest v)))) A { S with cur:=some s }/\FrS A H (upd H A.p (.ins ca.season dx (putF "sheet" (.ref q) (seaF A S.len S.rest v))))/\ShAt ca.sheet (·∉A.fp) (upd H A.p (.ins ca.season dx (putF "sheet" (.ref q) (seaF A S.len S.rest v)))) q s:=by
 have k:∀ b o,H b=some o->b≠A.p->upd H A.p (.ins ca.season dx (putF "sheet" (.ref q) (seaF A S.len S.rest v))) b=some o:=fun b o e n=>by rw[Zg n];exact e
 have sh':=sh.keep (H':=upd H A.p (.ins ca.season dx (putF "sheet" (.ref q) (seaF A S.len S.rest v)))) (fun x o hx e=>k x o e fun z=>hx (by rw[z];simp[SAd.fp])) (fun t xs e=>k t _ e (Yl e hp (fun z=>nomatch z)));obtain⟨h1,h2⟩:=h.setCur (cur:=some s) (v:=.ref q) ⟨dx,by rw[Zb];exact congrArg (fun x=>some (HO.ins ca.season dx x)) Rp⟩ ⟨q,rfl,sh'⟩ k;exact⟨h1,h2,sh'⟩
theorem Mc{l r:Nat}{v:V}{x:Addr}:putF "standing" (.ref x) (seaF A l r v)=seaF { A with lt:=x } l r v:=by
 have n1:¬ (("length":Str)="standing"):=by decide +kernel
 have n2:¬ (("rest":Str)="standing"):=by decide +kernel
 have n3:¬ (("roster":Str)="standing"):=by decide +kernel
 have n4:¬ (("ledger":Str)="standing"):=by decide +kernel
 have n5:¬ (("absent":Str)="standing"):=by decide +kernel
 have n6:¬ (("sheets":Str)="standing"):=by decide +kernel
 have n7:¬ (("sheet":Str)="standing"):=by decide +kernel
 simp only[putF,seaF,if_neg n1,if_neg n2,if_neg n3,if_neg n4,if_neg n5,if_neg n6,if_neg n7,if_true]
end
noncomputable def Cs(r q:Nat):Sea:=⟨r,q,[],[],[],[],none,[]⟩
inductive Kh(ca:CA)(vs:List V)(H:Hp)(Q:VK)(E:XK):Prop where
 | mk(p dx:Addr)(r q:Int)(_:vs=[.ref p,.int r,.int q])(_:H p=some (.ins ca.season dx []))(_:Z0 r)(_:Z0 q)(_:if r<0\/60<r then E (.ref ca.out) none H else if q<0\/10<q then E (.ref ca.out) none H else ∀ A H',A.p=p->Zv ca H' A (Cs r.toNat q.toNat)->(∀ b o,H b=some o->b≠p->H' b=some o)->(∀ x∈A.fp,x≠p->H x=none)->Q .non H')
inductive G1(ca:CA)(vs:List V)(H:Hp)(Q:VK)(E:XK):Prop where
 | mk(A:SAd)(S:Sea)(n g c:Int)(_:vs=[.ref A.p,.int n,.int g,.int c])(_:Zv ca H A S)(_:Kd n g c)(_:S.std.length<=1000)(_:S.ppl.length<=1000)(_:if S.len<=S.led.length then E (.ref ca.seaOver) none H else if S.cur.isSome then E (.ref ca.drawn) none H else if badI n g c then E (.ref ca.out) none H else if n∈S.ppl.map (·.1) then E (.ref ca.known) none H else if 30<=S.ppl.length then E (.ref ca.many) none H else if 100<=S.std.length then E (.ref ca.manyD) none H else ∀ H',Zv ca H' A { S with ppl:=S.ppl++[(n,g,c)],std:=S.std++[(((("enrol":Str),n,atV S):Vu),S.cur)] }->FrS A H H'->Q .non H')
noncomputable def Ct(S:Sea)(ms:List P3)(gv:List V):Sea:={ S with cur:=some ⟨ms,mayS S ms,gv,[]⟩,std:=S.std++[(((("draw up":Str),(ms.length:Int),atV S):Vu),S.cur)] }
inductive Jr(K:Frag)(ca:CA)(vs:List V)(H:Hp)(Q:VK)(E:XK):Prop where
 | mk(A:SAd)(S:Sea)(b:Addr)(ts:List V)(ms:List P3)(_:vs=[.ref A.p,.ref b])(_:Zv ca H A S)(_:SqL K H b ts)(_:TupL H ts (ms.map pV))(_:(∀ m∈ms,Ni m))(_:ms.length<=1000)(_:S.std.length<=1000)(_:T8 S)(_:if S.len<=S.led.length then E (.ref ca.seaOver) none H else if S.cur.isSome then E (.ref ca.drawn) none H else (20<ms.length->E (.ref ca.manyM) none H)/\(ms.length<=20->Tc ms->E (.ref ca.out) none H)/\(ms.length<=20->¬ Tc ms->Td ms->E (.ref ca.same) none H)/\(ms.length<=20->¬ Tc ms->¬ Td ms->(100<=S.std.length->∀ H',Same H H'->E (.ref ca.manyD) none H')/\(S.std.length<100->∀ l gv H',H' l=some (.lst gv)->Zv ca H' A (Ct S ms gv)->Yx (mayS S ms) gv->Q3 (mayS S ms) gv->FrS A H H'->H l=none->Q (.ref l) H')))
inductive Js(ca:CA)(vs:List V)(H:Hp)(Q:VK)(_:XK):Prop where
 | mk(A:SAd)(S:Sea)(n:Int)(s:Z2)(nu:List Int)(_:vs=[.ref A.p,.int n])(_:Zv ca H A S)(_:S.cur=some s)(_:T8 S)(_:s.ms.length<=20)(_:(∀ x∈s.gv,oneV x))(_:s.gv.length<=100)(_:s.gaps.length<=500)(_:Na (mayS S s.ms) nu)(_:(Wk s.gv n=none->∀ l H',H' l=some (.lst [])->Zv ca H' A { S with cur:=some { s with may:=mayS S s.ms } }->FrS A H H'->H l=none->Q (.ref l) H'))(_:∀ p,Wk s.gv n=some p->s.gv[p]?=some (.int n)/\(∀ j:Nat,s.gv[j]?=some (.int n)->j=p)/\Yx (mayS S s.ms) (s.gv.set p .non)/\∀ l us st e w H',H' l=some (.lst us)->TupL H' us (st.map W6)->Yz (mayS S s.ms) (s.gv.set p .non) p st e w->Zv ca H' A { S with cur:=some ⟨s.ms,mayS S s.ms,Yo st (s.gv.set p .non),s.gaps++[(n,st)]⟩ }->FrS A H H'->H l=none->Q (.ref l) H')
noncomputable def W7(S:Sea)(i n:Int):Sea:={ S with out:=S.out++[(i,n)],std:=S.std++[((("away":Str),n,i),S.cur)] }
inductive Cu(ca:CA)(vs:List V)(H:Hp)(Q:VK)(E:XK):Prop where
 | mk(A:SAd)(S:Sea)(i n:Int)(_:vs=[.ref A.p,.int i,.int n])(_:Zv ca H A S)(_:Z0 i)(_:Z0 n)(_:S.std.length<=1000)(_:S.out.length<=100000)(_:T8 S)(_:(∀ s,S.cur=some s->s.ms.length<=20/\Yx s.may s.gv/\s.may=mayS S s.ms/\s.gaps.length<=500))(_:if i<1\/(S.len:Int)<i then E (.ref ca.noRound) none H else if i<=S.led.length then E (.ref ca.over) none H else if n∈S.ppl.map (·.1) then (if (i,n)∈S.out then ∀ H',Same H H'->E (.ref ca.away) none H' else if 100<=S.std.length then ∀ H',Same H H'->E (.ref ca.manyD) none H' else (S.cur=none\/atV S<i->∀ l H',H' l=some (.lst [])->Zv ca H' A (W7 S i n)->FrS A H H'->H l=none->Q (.ref l) H')/\(∀ s,i=atV S->S.cur=some s->Wk s.gv n=none->∀ l H',H' l=some (.lst [])->Zv ca H' A { W7 S i n with cur:=some { s with may:=mayS (W7 S i n) s.ms } }->FrS A H H'->H l=none->Q (.ref l) H')/\(∀ s p,i=atV S->S.cur=some s->Wk s.gv n=some p->∀ l us st e w H',H' l=some (.lst us)->TupL H' us (st.map W6)->Yz (mayS (W7 S i n) s.ms) (s.gv.set p .non) p st e w->Zv ca H' A { W7 S i n with cur:=some ⟨s.ms,mayS (W7 S i n) s.ms,Yo st (s.gv.set p .non),s.gaps++[(n,st)]⟩ }->FrS A H H'->H l=none->Q (.ref l) H')) else E (.ref ca.unk) none H)
theorem T5.put{kvs:List (List Key×V)}{out:List (Int×Int)}(h:T5 kvs out)(i n:Int):T5 (putK kvs [inl i,inl n] (.bl true)) (out++[(i,n)]):=by
 refine⟨fun j m=>?_,?_⟩
 ·rw[Uv];by_cases e:j=i/\m=n
  ·rw[if_pos (Sk.mpr e),zq2 (by rw[e.1,e.2];simp)];rfl
  ·rw[if_neg (fun z=>e (Sk.mp z)),h.1 j m];by_cases hm:(j,m)∈out
   ·rw[zq2 hm,zq2 (zrn _ hm)]
   ·rw[zq5 hm,zq5];intro z;rcases zrd.mp z with q|q
    ·exact hm q
    ·have:=zq3.mp q;exact e (by cases this;exact⟨rfl,rfl⟩)
 ·have:=Xs kvs ([inl i,inl n]:List Key) (.bl true);have:=h.2;rw[zq4];show _<=out.length+1;omega
theorem T5.drop{kvs:List (List Key×V)}{out:List (Int×Int)}{i n:Int}(h:T5 kvs (out++[(i,n)]))(hn:(i,n)∉out):T5 (Xc kvs [inl i,inl n]) out:=by
 have hv:∀ k:List Key,valV (Xc kvs [inl i,inl n]) k=if k=[inl i,inl n] then none else valV kvs k:=fun k=>by
  clear h
  induction kvs with
  | nil=>unfold Xc;simp[valV]
  | cons x kvs ih =>
    by_cases ex:x.1=[inl i,inl n]
    ·rw[Fv ex,ih];by_cases e:k=[inl i,inl n]
     ·rw[if_pos e,if_pos e]
     ·rw[if_neg e,if_neg e,Yj (fun z=>e (z.symm.trans ex))]
    ·rw[Fw ex];by_cases ek:x.1=k
     ·rw[Yn ek,Yn ek,if_neg (fun z=>ex (ek.trans z))]
     ·rw[Yj ek,Yj ek,ih]
 refine⟨fun j m=>?_,?_⟩
 ·rw[hv];by_cases e:j=i/\m=n
  ·rw[if_pos (Sk.mpr e),zq5 (by rw[e.1,e.2];exact hn)];rfl
  ·rw[if_neg (fun z=>e (Sk.mp z)),h.1 j m];by_cases hm:(j,m)∈out
   ·rw[zq2 hm,zq2 (zrn _ hm)]
   ·rw[zq5 hm,zq5];intro z;rcases zrd.mp z with q|q
    ·exact hm q
    ·have:=zq3.mp q;exact e (by cases this;exact⟨rfl,rfl⟩)
 ·have h1:=h.1 i n;rw[zq2 (show (i,n)∈out++[(i,n)] by simp)] at h1;have h2:=h.2;rw[zq4] at h2;have h2:kvs.length<=out.length+1:=h2;have h3:(Xc kvs [inl i,inl n]).length<kvs.length:=by
   unfold Xc;rw[List.length_filter_lt_length_iff_exists];obtain⟨v,hv'⟩:=zr1.mp h1;unfold valV at hv';obtain⟨x,hx,_⟩:=Option.map_eq_some_iff.mp hv';refine⟨x,List.mem_of_find?_eq_some hx,?_⟩;have:=List.find?_some hx;intro z;exact of_decide_eq_true z (of_decide_eq_true this)
  omega
theorem Hh{gv:List V}{n:Int}{p:Nat}(h:Wk gv n=some p):gv[p]?=some (.int n):=by
 unfold Wk at h;have h2:decide (gv[p]?=some (V.int n))=true:=List.find?_some (p:=fun i=>decide (gv[i]?=some (V.int n))) h;exact of_decide_eq_true h2
theorem Cv{S:Sea}{n:Int}{ms:List P3}:mayS (W7 S (atV S) n) ms=without (mayS S ms) n:=by
 unfold mayS without;rw[List.map_map];refine List.map_congr_left fun m _=>?_;show Jo (W7 S (atV S) n) m=(Jo S m).filter fun x=>decide (x≠n);unfold Jo;rw[List.filter_map,List.filter_filter]
 congr 1
 refine List.filter_congr fun x _=>?_;show (L6 S.led x.1 x.2.1 x.2.2 m.1 m.2.1 m.2.2 (pIn (S.out++[(atV S,n)]) (atV S) x) S.rest).isEmpty=(decide (x.1≠n)&&(L6 S.led x.1 x.2.1 x.2.2 m.1 m.2.1 m.2.2 (pIn S.out (atV S) x) S.rest).isEmpty);unfold pIn;by_cases e:x.1=n
 ·have h1:decide ((atV S,x.1)∈S.out++[(atV S,n)])=true:=zq2 (by rw[e];simp);rw[h1,zq5 (fun z=>z e),Bool.false_and];unfold L6 bw;simp
 ·have h1:decide ((atV S,x.1)∈S.out++[(atV S,n)])=decide ((atV S,x.1)∈S.out):=by
   by_cases hm:(atV S,x.1)∈S.out
   ·rw[zq2 hm,zq2 (zrn _ hm)]
   ·rw[zq5 hm,zq5];intro z;rcases zrd.mp z with q|q
    ·exact hm q
    ·have:=zq3.mp q;cases this;exact e rfl
  rw[h1,zq2 e,Bool.true_and]
noncomputable def Ki(S:Sea)(s:Z2):Sea:={ S with led:=S.led++[W8 s],old:=S.old++[s],cur:=none,std:=[] }
inductive G2(ca:CA)(vs:List V)(H:Hp)(Q:VK)(E:XK):Prop where
 | mk(A:SAd)(S:Sea)(_:vs=[.ref A.p])(_:Zv ca H A S)(_:2*(tot S.led+1000)<=100000)(_:S.led.length<=1000)(_:S.old.length<=1000)(_:(∀ s,S.cur=some s->(∀ x∈s.gv,oneV x)/\s.gv.length=s.ms.length/\s.ms.length<=1000))(_:if S.len<=S.led.length then E (.ref ca.seaOver) none H else (S.cur=none->E (.ref ca.notDrawn) none H)/\∀ s x H',S.cur=some s->Zv ca H' { A with lt:=x } (Ki S s)->FrS A H H'->H x=none->Q (.int (atV S)) H')
theorem Zv.freshStd{ca:CA}{H H':Hp}{A:SAd}{S:Sea}{x dx:Addr}{v:V}(h:Zv ca H A S)(hx:H x=none)(hp:H A.p=some (.ins ca.season dx (seaF A S.len S.rest v)))(hv:ShO ca.sheet (·∉A.fp) H v S.cur)
  (e:H'=upd (upd H x (.lst [])) A.p (.ins ca.season dx (putF "standing" (.ref x) (seaF A S.len S.rest v)))):Zv ca H' { A with lt:=x } { S with std:=[] }/\FrS A H H':=by
 have hpx:A.p≠x:=Zh hp hx;have k:∀ b o,H b=some o->b≠A.p->H' b=some o:=fun b o q n=>by rw[e,Zg n,Zg (Zh q hx)];exact q
 have f:FrS A H H':=.one (by simp[SAd.fp]) k;have kt:=h.tups f;have hnx:∀ y,(∃ o,H y=some o)->y≠x:=fun y ⟨o,q⟩=>Zh q hx;have okk:∀ y,(∃ o,H' y=some o)->y∉A.fp->(∃ o,H y=some o)->y∉({ A with lt:=x }:SAd).fp:=fun y _ hy hH hm=>by
  simp only[SAd.fp,zq0,zru,or_false] at hm hy;rcases hm with q|q|q|q|q|q|q
  ·exact hy (.inl q)
  ·exact hy (.inr (.inl q))
  ·exact hy (.inr (.inr (.inl q)))
  ·exact hy (.inr (.inr (.inr (.inl q))))
  ·exact hy (.inr (.inr (.inr (.inr (.inl q)))))
  ·exact hy (.inr (.inr (.inr (.inr (.inr (.inl q))))))
  ·exact hnx y hH q
 have ok2:∀ y,(∃ o,H y=some o)->y∉A.fp->y∉({ A with lt:=x }:SAd).fp:=fun y hH hy hm=>by
  simp only[SAd.fp,zq0,zru,or_false] at hm hy;rcases hm with q|q|q|q|q|q|q
  ·exact hy (.inl q)
  ·exact hy (.inr (.inl q))
  ·exact hy (.inr (.inr (.inl q)))
  ·exact hy (.inr (.inr (.inr (.inl q))))
  ·exact hy (.inr (.inr (.inr (.inr (.inl q)))))
  ·exact hy (.inr (.inr (.inr (.inr (.inr (.inl q))))))
  ·exact hnx y hH q
 have ko:∀ y o,y∉({ A with lt:=x }:SAd).fp->H y=some o->H' y=some o:=fun y o hy q=>k y o q fun z=>hy (by rw[z];simp[SAd.fp]);have there:=h.there;obtain⟨⟨n1,n2,n3,n4,n5,n6⟩,⟨n7,n8,n9,n10,n11⟩,⟨n12,n13,n14,n15⟩,⟨n16,n17,n18⟩,⟨n19,n20⟩,n21⟩:=Nk h.nd;have np:=Pp h (show A.p∈A.fp by simp[SAd.fp]);have npp:=h.np;obtain⟨⟨dx',v',a1,a2⟩,b,c,⟨kvs',d1,d2⟩,⟨vs,f1,f2⟩,⟨us,g1,g2⟩,nd,np'⟩:=h;have hpr:∃ o,H A.pr=some o:=by obtain⟨⟨_,_,q,_⟩,_⟩:=b;exact⟨_,q⟩
 have hpl:∃ o,H A.pl=some o:=by obtain⟨⟨_,q⟩,_⟩:=c;exact⟨_,q⟩
 refine⟨⟨⟨dx,v,?_,(hv.imp ok2).keep ko kt⟩,b.keep (fun o q=>k _ o q np.1) (fun o q=>k _ o q (Ne.symm n1)) kt,c.keep (fun o q=>k _ o q np.2) (fun o q=>k _ o q (Ne.symm n2)) (fun o q=>k _ o q (Ne.symm n3)) kt,⟨kvs',k _ _ d1 (Ne.symm n4),d2⟩,⟨vs,k _ _ f1 (Ne.symm n5),(f2.imp ok2).keep ko kt⟩,⟨[],?_,?_⟩,?_,⟨ok2 _ hpr npp.1,ok2 _ hpl npp.2⟩⟩,f⟩
 ·rw[e,Zb];exact congrArg (fun z=>some (HO.ins ca.season dx z)) Mc
 ·show H' x=some (.lst []);rw[e,Zg (Ne.symm hpx),Zb]
 ·exact .nil
 ·show [A.p,A.dr,A.lr,A.ld,A.da,A.ls,x].Nodup;have m:∀ y∈A.fp,y≠x:=fun y hy=>hnx y (there y hy);simp only[zrl,zq0,zru,or_false,not_or];exact⟨⟨n1,n2,n3,n4,n5,m _ (by simp[SAd.fp])⟩,⟨n7,n8,n9,n10,m _ (by simp[SAd.fp])⟩,⟨n12,n13,n14,m _ (by simp[SAd.fp])⟩,⟨n16,n17,m _ (by simp[SAd.fp])⟩,⟨n19,m _ (by simp[SAd.fp])⟩,m _ (by simp[SAd.fp]),by simp,List.nodup_nil⟩
noncomputable def Cw(S:Sea)(d:Vu)(ppl:RL)(out:List (Int×Int)):Prop:=(d.1="enrol"/\(∃ g c,S.ppl=ppl++[(d.2.1,g,c)])/\out=S.out)\/(d.1="away"/\ppl=S.ppl/\S.out=out++[(d.2.2,d.2.1)]/\(d.2.2,d.2.1)∉out)\/(d.1="draw up"/\ppl=S.ppl/\out=S.out)
inductive Nl(ca:CA)(vs:List V)(H:Hp)(Q:VK)(E:XK):Prop where
 | mk(A:SAd)(S:Sea)(_:vs=[.ref A.p])(_:Zv ca H A S)(_:(S.std=[]->E (.ref ca.nothing) none H))(_:∀ std d s,S.std=std++[(d,s)]->∃ ppl out,Cw S d ppl out/\∀ t H',H' t=some (.tup (U0 d))->Zv ca H' A { S with ppl:=ppl,out:=out,cur:=s,std:=std }->FrS A H H'->Q (.ref t) H')
inductive G3(ca:CA)(vs:List V)(H:Hp)(Q:VK)(_:XK):Prop where
 | mk(A:SAd)(S:Sea)(_:vs=[.ref A.p])(_:Zv ca H A S)(_:S.std.length<=1000)(_:∀ l ts H',H' l=some (.lst ts)->TupL H' ts (S.std.map fun x=>U0 x.1)->Same H H'->H l=none->Q (.ref l) H')
inductive Nm(ca:CA)(vs:List V)(H:Hp)(Q:VK)(_:XK):Prop where
 | mk(A:SAd)(S:Sea)(_:vs=[.ref A.p])(_:Zv ca H A S)(_:∀ l H',H' l=some (.lst (S.ppl.map fun x=>V.int x.1))->Same H H'->H l=none->Q (.ref l) H')
theorem Ub{f:Str}{v:V}(ks:List Str):∀ {fs:List (Str×V)},fs.map (·.1)=ks->(ks.all fun x=>!decide (x=f))=true->putF f v fs=fs++[(f,v)]:=by
 intro fs hk h;subst hk
 induction fs with
 | nil=>rfl
 | cons x fs ih =>
   rw[zq8,List.all_cons,zsa,Bool.not_eq_true',decide_eq_false_iff_not] at h;obtain⟨k,y⟩:=x;show (if k=f then _ else _)=_;rw[if_neg h.1,ih h.2];rfl
noncomputable def sF1(l:V):List (Str×V):=[("length",l)]
noncomputable def sF2(l r:V):List (Str×V):=[("length",l),("rest",r)]
noncomputable def sF3(l r a:V):List (Str×V):=[("length",l),("rest",r),("roster",a)]
noncomputable def sF4(l r a b:V):List (Str×V):=[("length",l),("rest",r),("roster",a),("ledger",b)]
noncomputable def sF5(l r a b c:V):List (Str×V):=[("length",l),("rest",r),("roster",a),("ledger",b),("absent",c)]
noncomputable def sF6(l r a b c d:V):List (Str×V):=[("length",l),("rest",r),("roster",a),("ledger",b),("absent",c),("sheets",d)]
noncomputable def sF7(l r a b c d e:V):List (Str×V):=[("length",l),("rest",r),("roster",a),("ledger",b),("absent",c),("sheets",d),("sheet",e)]
noncomputable def sF8(l r a b c d e f:V):List (Str×V):=[("length",l),("rest",r),("roster",a),("ledger",b),("absent",c),("sheets",d),("sheet",e),("standing",f)]
theorem pF1{l:V}:putF "length" l []=sF1 l:=rfl
theorem pF2{l r:V}:putF "rest" r (sF1 l)=sF2 l r:=Ub ["length"] rfl ⋯
theorem pF3{l r a:V}:putF "roster" a (sF2 l r)=sF3 l r a:=Ub ["length","rest"] rfl ⋯
theorem pF4{l r a b:V}:putF "ledger" b (sF3 l r a)=sF4 l r a b:=Ub ["length","rest","roster"] rfl ⋯
theorem pF5{l r a b c:V}:putF "absent" c (sF4 l r a b)=sF5 l r a b c:=Ub ["length","rest","roster","ledger"] rfl ⋯
theorem pF6{l r a b c d:V}:putF "sheets" d (sF5 l r a b c)=sF6 l r a b c d:=Ub ["length","rest","roster","ledger","absent"] rfl ⋯
theorem pF7{l r a b c d e:V}:putF "sheet" e (sF6 l r a b c d)=sF7 l r a b c d e:=Ub ["length","rest","roster","ledger","absent","sheets"] rfl ⋯
theorem pF8{l r a b c d e f:V}:putF "standing" f (sF7 l r a b c d e)=sF8 l r a b c d e f:=Ub ["length","rest","roster","ledger","absent","sheets","sheet"] rfl ⋯
theorem Wn.free{p:Addr}{H H':Hp}{x:Addr}(hb:∀ b o,H b=some o->b≠p->H' b=some o)(hp:∃ o,H' p=some o)(hx:H' x=none):H x=none:=by
 cases e:H x with
 | none=>rfl
 | some o =>
   by_cases z:x=p
   ·subst z;obtain⟨o',q⟩:=hp;rw[q] at hx;cases hx
   ·rw[hb x o e z] at hx;cases hx
noncomputable def Wn(p:Addr)(H H':Hp):Prop:=∀ b o,H b=some o->b≠p->H' b=some o
theorem Wn.trans{p:Addr}{H1 H2 H3:Hp}(a:Wn p H1 H2)(b:Wn p H2 H3):Wn p H1 H3:=fun x o e n=>b x o (a x o e n) n
theorem Wn.of{p:Addr}{H1 H2:Hp}(a:Same H1 H2):Wn p H1 H2:=fun x o e _=>a x o e
theorem Wn.put{p:Addr}{H:Hp}{o:HO}:Wn p H (upd H p o):=fun x o e n=>by rw[Zg n];exact e
end G
namespace G
open PySem PySem.Spec PyProof.Rows L2
structure zbc(H:Hp)(t lc ln:Addr)(cs nu:List Int):Prop where
 tup:H t=some (.tup [.ref lc,.ref ln])
 clubs:H lc=some (.lst (cs.map V.int))
 nums:H ln=some (.lst (nu.map V.int))
 few:3<=cs.length/\cs.length<=10
 cnd:cs.Nodup
 crng:∀ c∈cs,1<=c/\c<=99
 nfew:1<=nu.length/\nu.length<=30
 nnd:nu.Nodup
 nrng:∀ n∈nu,1<=n/\n<=999
inductive Xu where
 | enrol (n g c:Int)|away (i n:Int)|draw (ms:List P3)|close|back
noncomputable def Rq(ok:Addr->Prop)(H:Hp)(t:Addr):Xu->Prop
 | .enrol n g c=>H t=some (.tup [.str "enrol",.int n,.int g,.int c])
 | .away i n=>H t=some (.tup [.str "away",.int i,.int n])
 | .draw ms=>∃ l ts,H t=some (.tup [.str "draw up",.ref l])/\H l=some (.lst ts)/\TupL H ts (ms.map pV)/\ok l
 | .close=>H t=some (.tup [.str "close"])
 | .back=>H t=some (.tup [.str "take back"])
noncomputable def G4(S:Sea):Prop:=∀ s,S.cur=some s->s.ms.length<=20/\Yx s.may s.gv/\Q3 s.may s.gv/\s.may=mayS S s.ms/\s.gaps.length<=S.std.length
noncomputable def Jt(S S':Sea):Prop:=∃ d:Vu,S'.std=S.std++[(d,S.cur)]/\Cw S' d S.ppl S.out/\S'.len=S.len/\S'.rest=S.rest/\S'.led=S.led/\S'.old=S.old
inductive U1(H':Hp)(S:Sea):Xu->Sea->V->Prop where
 | enrol (n g c:Int):U1 H' S (.enrol n g c) { S with ppl:=S.ppl++[(n,g,c)],std:=S.std++[(((("enrol":Str),n,atV S):Vu),S.cur)] } .non
 | awayN {i n:Int} {l:Addr} (h:S.cur=none\/atV S<i) (hl:H' l=some (.lst [])):U1 H' S (.away i n) (W7 S i n) (.ref l)
 | awayF {n:Int} {s:Z2} {l:Addr} (h:S.cur=some s) (hp:Wk s.gv n=none) (hl:H' l=some (.lst [])):U1 H' S (.away (atV S) n) { W7 S (atV S) n with cur:=some { s with may:=mayS (W7 S (atV S) n) s.ms } } (.ref l)
 | awayC {n:Int} {s:Z2} {p e:Nat} {l:Addr} {us:List V} {st:List (Nat×Option Int)} {w:Option Int} (h:S.cur=some s) (hp:Wk s.gv n=some p) (hl:H' l=some (.lst us)) (tl:TupL H' us (st.map W6)) (CR:Yz (mayS (W7 S (atV S) n) s.ms) (s.gv.set p .non) p st e w) :
   U1 H' S (.away (atV S) n) { W7 S (atV S) n with cur:=some ⟨s.ms,mayS (W7 S (atV S) n) s.ms,Yo st (s.gv.set p .non),s.gaps++[(n,st)]⟩ } (.ref l)
 | draw {ms:List P3} {gv:List V} {l:Addr} (hl:H' l=some (.lst gv)) (F:Yx (mayS S ms) gv) (T:Q3 (mayS S ms) gv):U1 H' S (.draw ms) (Ct S ms gv) (.ref l)
 | close {s:Z2} (h:S.cur=some s):U1 H' S .close (Ki S s) (.int (atV S))
 | back {S0:Sea} {d:Vu} {t:Addr} (h:S.std=S0.std++[(d,S0.cur)]) (ht:H' t=some (.tup (U0 d))) (hs:Jt S0 S):U1 H' S .back S0 (.ref t)
noncomputable def S7(A A':SAd)(H:Hp):Prop:=∃ x,A'={ A with lt:=x }/\(x=A.lt\/H x=none)
structure zdi(es:List Expr)(xs:List Int):Prop where
 len:es.length=xs.length
 same:List.zipWith (fun i (e:Expr)=>Expr.Constant (.int i) 0 e.pos) xs es=es
theorem Te{a:Str}:decide (V.str a=V.str a)=true:=zq2 rfl
theorem Uc{a b:Str}(h:decide (a=b)=false):decide (V.str a=V.str b)=false:=zq5 fun z=>of_decide_eq_false h (V.str.inj z)
theorem S7.refl(A:SAd)(H:Hp):S7 A A H:=⟨A.lt,rfl,.inl rfl⟩
noncomputable abbrev zco:=List (Int×List (Nat×Option Int))
structure Pg where
 len:Nat
 rest:Nat
 ppl:RL
 out:List (Int×Int)
 over:List Z2
 deed:Option Vu
 lis:Option (List P3)
 gv:List V
 mv:zco
noncomputable def pgF(len rest:Nat)(lp lo lv:Addr)(dv li:V)(lg lm:Addr):List (Key×V):=[(.inr "rounds",.int len),(.inr "rest",.int rest),(.inr "people",.ref lp),(.inr "out",.ref lo),(.inr "over",.ref lv),(.inr "deed",dv),(.inr "listed",li),(.inr "goes",.ref lg),(.inr "moves",.ref lm)]
noncomputable def oiV(x:Int×Int):List V:=[.int x.1,.int x.2]
noncomputable def zcp(ok:Addr->Prop)(H:Hp)(v:V):Option (List P3)->Prop
 | none=>v=.non
 | some ms=>∃ l ts,v=.ref l/\H l=some (.lst ts)/\TupL H ts (ms.map pV)/\ok l
noncomputable def Ao(H:Hp)(v:V):Option Vu->Prop
 | none=>v=.non
 | some d=>∃ t,v=.ref t/\H t=some (.tup (U0 d))
inductive Ju(ok:Addr->Prop)(H:Hp):List V->List Z2->Prop where
 | nil:Ju ok H [] []
 | cons {t l g m y:Addr} {ts mts:List V} {ls:List Addr} {s:Z2} {vs:List V} {ss:List Z2} (h:H t=some (.tup [.ref l,.ref g,.ref m,.ref y])) (hl:H l=some (.lst ts)) (tl:TupL H ts (s.ms.map pV)) (hg:H g=some (.lst s.gv)) (hm:H m=some (.lst mts)) (gm:We ok H mts s.gaps)
   (hy:H y=some (.lst (ls.map V.ref))) (iy:ILs H ls s.may) (o:ok l/\ok g/\ok m/\ok y/\∀ x∈ls,ok x) (r:Ju ok H vs ss):Ju ok H (.ref t :: vs) (s :: ss)
structure B5(ok:Addr->Prop)(H:Hp)(d:Addr)(P:Pg):Prop where
 ex:∃ lp lo lv dv li lg lm pts ots vts mts,H d=some (.dK (pgF P.len P.rest lp lo lv dv li lg lm))/\H lp=some (.lst pts)/\TupL H pts (P.ppl.map pV)/\H lo=some (.lst ots)/\TupL H ots (P.out.map oiV)/\H lv=some (.lst vts)/\Ju ok H vts P.over/\Ao H dv P.deed/\zcp ok H li P.lis/\H lg=some (.lst P.gv)/\H lm=some (.lst mts)/\We ok H mts P.mv /\
  (ok d/\ok lp/\ok lo/\ok lv/\ok lg/\ok lm)
theorem El{α:Type}{l:List α}{j:Nat}{x:α}(h:l[j]?=some x):l.take (j+1)=l.take j++[x]:=by rw[zry,h];rfl
end G
namespace G
open PySem PySem.Spec PyProof.Rows L2
theorem G5(r:List Str)(ok:∀ w∈r,PyData.strOk w=true):shD (.lst (r.map Dt.str)):=by
 have h:PyData.canLayAll0 (Wj (r.map Dt.str))=true/\PyData.depthAll (Wj (r.map Dt.str))<=1:=by
  induction r with
  | nil=>exact⟨rfl,by decide⟩
  | cons x r ih =>
    obtain⟨h1,h2⟩:=ih fun w hw=>ok w (zrh _ hw);have h0:=ok x (zrq);refine⟨?_,?_⟩
    ·rw[zq8,Wj,PyData.canLayAll0,h1];simp[toPy,PyData.canLay0,h0]
    ·rw[zq8,Wj,PyData.depthAll];have:PyData.depth (toPy (Dt.str x))<=1:=by simp[toPy,PyData.depth]
     omega
 unfold shD SeqAt.shaped;rw[toPy,PyData.canLay0,h.1,Bool.true_and];refine zq2 ?_;rw[PyData.depth];have:=h.2;omega
theorem Rr{K:Frag}{H:Hp}:∀ ws:List Str,Xk K H (ws.map V.str) (ws.map Dt.str)
 | []=>.nil
 | w :: ws=>.cons (.str w) (Rr ws)
structure PgB(ok:Addr->Prop)(H:Hp)(P:Pg)(lp lo lv:Addr)(dv li:V)(lg lm:Addr):Prop where
 pp:∃ pts,H lp=some (.lst pts)/\TupL H pts (P.ppl.map pV)/\ok lp
 oo:∃ ots,H lo=some (.lst ots)/\TupL H ots (P.out.map oiV)/\ok lo
 vv:∃ vts,H lv=some (.lst vts)/\Ju ok H vts P.over/\ok lv
 dd:Ao H dv P.deed
 li:zcp ok H li P.lis
 gg:H lg=some (.lst P.gv)/\ok lg
 mm:∃ mts,H lm=some (.lst mts)/\We ok H mts P.mv/\ok lm
theorem T9{K:Frag}{H:Hp}:∀ ns:List Int,Xk K H (ns.map V.int) (ns.map Dt.int)
 | []=>.nil
 | w :: ws=>.cons (.int w) (T9 ws)
noncomputable def Ap(mb:Bool)(s:Z2):Z2:=if mb then s else { s with gaps:=[] }
structure zcq(mb:Bool)(P:Pg)(S:Sea):Prop where
 len:P.len=S.len
 rest:P.rest=S.rest
 ppl:P.ppl=S.ppl
 out:P.out=S.out
 over:P.over.map (Ap mb)=S.old.map (Ap mb)
 lis:P.lis=S.cur.map (·.ms)
noncomputable def zcr(S:Sea):zco:=match S.cur with|some s=>s.gaps|none=>[]
structure Rel(mb:Bool)(P:Pg)(S:Sea):Prop where
 b:zcq mb P S
 gv:∀ s,S.cur=some s->P.gv=s.gv
 mv:mb=true->P.mv=zcr S
structure SOk(nu:List Int)(n:Nat)(S:Sea):Prop where
 cur:G4 S
 nd:(S.ppl.map (·.1)).Nodup
 ppl:∀ x∈S.ppl,x.1∈nu/\¬ badI x.1 x.2.1 x.2.2
 few:S.ppl.length<=30
 led:S.led=S.old.map W8
 old:∀ s∈S.old,s.ms.length<=20/\s.gv.length=s.ms.length/\∀ x∈s.gv,oneV x
 len:S.led.length<=S.len/\S.len<=60/\S.rest<=10
 lt:S.cur≠none->S.led.length<S.len
 num:S.out.length<=n/\S.std.length<=n
 gp:∀ s,S.cur=some s\/s∈S.old->s.gaps.length<=n/\∀ x∈s.gaps,x.2.length<=100
end G
namespace G
open PySem PySem.Spec PyProof.Rows L2
structure FrN(A A':SAd)(H H':Hp):Prop where
 p:A'.p=A.p
 k:∀ b o,H b=some o->b∉A.fp->H' b=some o/\b∉A'.fp
 kt:∀ t xs,H t=some (.tup xs)->H' t=some (.tup xs)
theorem S7.out{A A':SAd}{H:Hp}(nx:S7 A A' H){b:Addr}{o:HO}(e:H b=some o)(n:b∉A.fp):b∉A'.fp:=by
 obtain⟨x,rfl,hx⟩:=nx;simp only[SAd.fp,zq0,zru,or_false] at n ⊢;rcases hx with rfl|hx
 ·exact n
 ·have:b≠x:=Zh e hx;rintro(z|z|z|z|z|z|z)
  ·exact n (.inl z)
  ·exact n (.inr (.inl z))
  ·exact n (.inr (.inr (.inl z)))
  ·exact n (.inr (.inr (.inr (.inl z))))
  ·exact n (.inr (.inr (.inr (.inr (.inl z)))))
  ·exact n (.inr (.inr (.inr (.inr (.inr (.inl z))))))
  ·exact this z
theorem FrN.next{ca:CA}{S:Sea}{A A':SAd}{H H':Hp}(SA:Zv ca H A S)(nx:S7 A A' H)(f:FrS A H H'):FrN A A' H H':=⟨by obtain⟨x,rfl,_⟩:=nx;rfl,fun b o e n=>⟨f b o e n,nx.out e n⟩,SA.tups f⟩
structure zdj(A:SAd)(H:Hp)(t lc ln:Addr)(cs nu:List Int):Prop where
 at_:zbc H t lc ln cs nu
 o:t∉A.fp/\lc∉A.fp/\ln∉A.fp
inductive Bk(mb:Bool)(ok:Addr->Prop)(H:Hp)(nu:List Int)(n:Nat):List Addr->Sea->Prop where
 | one {d:Addr} {P:Pg} {S:Sea} (h:B5 ok H d P) (r:Rel mb P S) (o:SOk nu n S) (e:S.std=[]):Bk mb ok H nu n [d] S
 | snoc {ds:List Addr} {d:Addr} {P:Pg} {S S':Sea} (b:Bk mb ok H nu n ds S) (nd:d∉ds) (h:B5 ok H d P) (r:Rel mb P S') (o:SOk nu n S') (st:Jt S S') (hd:∃ x,P.deed=some x/\S'.std=S.std++[(x,S.cur)]):Bk mb ok H nu n (ds++[d]) S'
section
variable{mb:Bool}{ok ok':Addr->Prop}{H H':Hp}{nu:List Int}{n m:Nat}{ds:List Addr}{d:Addr}{P:Pg}{S S':Sea}
structure zcs(mb:Bool)(ok:Addr->Prop)(H:Hp)(nu:List Int)(n:Nat)(ds:List Addr)(d:Addr)(dd:Option Vu)(S:Sea):Prop where
 nd:d∉ds
 ex:(ds=[]/\S.std=[])\/∃ S0,Bk mb ok H nu n ds S0/\Jt S0 S/\∃ x,dd=some x/\S.std=S0.std++[(x,S0.cur)]
structure zdn(mb:Bool)(ok:Addr->Prop)(H:Hp)(nu:List Int)(n:Nat)(ds:List Addr)(d:Addr)(P:Pg)(S:Sea):Prop where
 pg:B5 ok H d P
 rb:zcq mb P S
 so:SOk nu n S
 tl:zcs mb ok H nu n ds d P.deed S
structure zdo(mb:Bool)(ok:Addr->Prop)(H:Hp)(nu:List Int)(n:Nat)(ds:List Addr)(d:Addr)(P:Pg)(S:Sea):Prop where
 pg:B5 ok H d P
 re:Rel mb P S
 so:SOk nu n S
 tl:zcs mb ok H nu n ds d P.deed S
end
section
variable{mb:Bool}{ok ok':Addr->Prop}{A A':SAd}{H H':Hp}{nu:List Int}{n m:Nat}{ds:List Addr}{d:Addr}{P:Pg}{S S':Sea}{D:Xu}
theorem Rq.same{t:Addr}(e:Same H H')(h:Rq ok H t D):Rq ok H' t D:=by
 cases D with
 | enrol a b c=>exact e _ _ h
 | away a b=>exact e _ _ h
 | draw ms =>
   obtain⟨l,ts,a1,a2,a3,a4⟩:=h;exact⟨l,ts,e _ _ a1,e _ _ a2,a3.mono fun _ _ z=>e _ _ z,a4⟩
 | close=>exact e _ _ h
 | back=>exact e _ _ h
end
end G
namespace L2
open PySem PySem.Spec PyProof.Rows
theorem fnS{N P:List Str}{sc:Scope}(a:sc.kind=.function:=by rfl)(b:sc.isCoroutine=false:=by rfl)(c:sc.isGenerator=false:=by rfl)(d:N.Nodup:=by decide +kernel)(e:N.take P.length=P:=by rfl)(f:∀ x∈P,sc.names.lookup x=some .local\/sc.names.lookup x=some .cell:=by decide +kernel)(g:∀ y∈sc.names,y.2≠.free:=by decide +kernel):Zl N P sc:=⟨a,b,c,d,e,f,g⟩
section
variable{X:Cx}{k j:Nat}{C:Addr}{ps:List Str}{sp:Sp}{E:XK}{x m:Str}{p pos pos' apos:Pos}{e o a b:Expr}{es:List Expr}{ta tb te:TE}{t:TA}{r:R2}
theorem pS(i:Nat)(hN:X.N.Nodup)(he:PE X e te)(hi:X.N[i]?=some x:=by rfl)(hx:Loc X.env.scope x:=by first|exact Or.inl rfl|exact Or.inr rfl)(hs:swapsWith e (some (.Name x pos')) pos.line X.env=pure false:=by rfl)(hf:J1 X i x:=by first|exact⟨.inl rfl,Xf⟩|exact⟨.inr rfl,Xf⟩|assumption|exact⟨.inl rfl,by assumption⟩|exact⟨.inr rfl,by assumption⟩) :
  PS X (.Assign [.Name x pos'] e pos) (Fd te (W4 i)):=A7 hN hi hx he hs hf
theorem pN(i:Nat)(hN:X.N.Nodup)(hi:X.N[i]?=some x:=by rfl)(hx:Loc X.env.scope x:=by first|exact Or.inl rfl|exact Or.inr rfl)(hf:J1 X i x:=by first|exact⟨.inl rfl,Xf⟩|exact⟨.inr rfl,Xf⟩|assumption|exact⟨.inl rfl,by assumption⟩|exact⟨.inr rfl,by assumption⟩):PG X (.Name x pos) (W4 i):=Vq hN hi hx hf
theorem pI(hr:IxR X r)(ha:PE X a ta)(hb:PE X b tb)(hs:Ge b:=by exact fun _ _=>rfl):PE X (.Subscript a b pos) (tOp r ta tb):=zb7 hr ha hb hs
theorem pD(hu:X.A.units+1<cLine)(ho:PE X a ta)(hi:PE X b tb)(hs:zad b:=by exact fun _ _=>rfl):PE X (.Subscript a b pos) (Ah ta tb):=Bm hu ho hi hs
theorem pF(D:Yg X.prog X.w X.K X.mg X.base x k ps sp)(hr:X4 j X.A)(ha:PA X (e :: es) t)(hk:k<=j:=by decide)(hx:X2 (CX1 X.prog X.w) X E:=by exact Zk)(hg:Gl X x:=by rfl)(hdb:(x == ("__debug__":Str))=false:=by decide)
  (he:starEach (e :: es) X.env=(false,eval e X.env) :: starEach es X.env:=by rfl) (hpl:(backTo pos (starEach es X.env)).any (·.1)=false:=by rfl):PE X (.Call (.Name x p) (e :: es) [] pos) (Dc sp [] E t):=Gi D (hr.mono hk) hx hg ha hdb he hpl
theorem iL(K:Frag)(h:X.K=K:=by rfl):IxR X (zal K):=D1 h
theorem iU(K:Frag)(h:X.K=K:=by rfl):IxR X (zam K):=Bx h
theorem cL(K:Frag)(h:X.K=K:=by rfl):Vo X (.builtin "len") (fun xs H Q=>∃ p ys,xs=[.ref p]/\(SqL K H p ys\/SqT K H p ys)/\Q (.int ys.length) H):=Ma h
end
theorem cT{X:Cx}{x:Str}{scope:Scope}{cl:List (Str×Addr)}(ys:List Str)(js:List Nat)(a:closureFor scope X.env=pure cl:=by rfl)(b:scope.kind=.function:=by rfl)(c:∀ y∈scope.names,y.2=.local->scope.names.lookup y.1=some .local:=by decide +kernel)(d:∀ y∈scope.names,y.2≠.cell:=by decide +kernel)(e:scope.names.lookup x=some .local:=by rfl)(f:(x :: ys).Nodup:=by decide +kernel)(g:js.map (X.N[·]?)=ys.map some:=by rfl)
  (h:N9 (fun y=>X.env.kindOf y=some .cell/\(relabel scope X.env).names.lookup y=some .cell/\cl.lookup y=X.env.cells.lookup y) ys:=by repeat' (first|exact True.intro|apply And.intro|rfl)) (i:N9 (fun p=>X.env.cells.lookup p.1=some p.2) cl:=by repeat' (first|exact True.intro|apply And.intro|rfl)) (j:∀ y∈scope.names,y.2=.free->y.1∈ys:=by decide +kernel):Gg X x scope cl ys js:=⟨a,b,c,d,e,f,g,h,i,j⟩
noncomputable abbrev LkF(K:Frag)(f:Addr)(x q:Str)(st:Stmt)(oc kV dc pm cd ct:Value)(od an:Option Addr)(sl:Array (Option Value)):Prop:=K.lookup f=some ⟨oc,od,.func (PySem.W.fnOf x q (Ug st) (Vr st) (Zj st) .none kV dc pm an cd ct),sl⟩
noncomputable abbrev NsB(K:Frag)(x:Str)(f:Addr):Prop:=PySem.W.nsIn K mainGlobals x=some (some (.ref f))
noncomputable abbrev FdB(K:Frag)(c:Addr)(x:Str)(f:Addr):Prop:=PySem.W.findIn K (.ref c) x=some (some (.ref f))
noncomputable abbrev BnA(x q:Str)(st:Stmt)(ps:List Str):Prop:=∀ (kV doc pm:Value) (an:Option Addr) (cdv ct:Value) (us:List Value),us.length=ps.length->bindArgs (PySem.W.fnOf x q (Ug st) (Vr st) (Zj st) .none kV doc pm an cdv ct) ⟨us,[]⟩=pure (ps.zip us)
noncomputable abbrev BnE(x q:Str)(st:Stmt)(ps:List Str)(us:List Value):Prop:=∀ (kV doc pm:Value) (an:Option Addr) (cdv ct:Value),bindArgs (PySem.W.fnOf x q (Ug st) (Vr st) (Zj st) .none kV doc pm an cdv ct) ⟨us,[]⟩=pure (ps.zip us)
section
variable{x q a b c d e g:Str}{st:Stmt}
theorem bn1(h:∀ u,BnE x q st [a] [u]:=by intros _ _ _ _ _ _ _;rfl):BnA x q st [a]:=fun _ _ _ _ _ _ us hl=>match us,hl with|[_],_=>h _ _ _ _ _ _ _
theorem bn2(h:∀ u v,BnE x q st [a,b] [u,v]:=by intros _ _ _ _ _ _ _ _;rfl):BnA x q st [a,b]:=fun _ _ _ _ _ _ us hl=>match us,hl with|[_,_],_=>h _ _ _ _ _ _ _ _
theorem bn3(h:∀ u v w,BnE x q st [a,b,c] [u,v,w]:=by intros _ _ _ _ _ _ _ _ _;rfl):BnA x q st [a,b,c]:=fun _ _ _ _ _ _ us hl=>match us,hl with|[_,_,_],_=>h _ _ _ _ _ _ _ _ _
theorem bn4(h:∀ u v w y,BnE x q st [a,b,c,d] [u,v,w,y]:=by intros _ _ _ _ _ _ _ _ _ _;rfl):BnA x q st [a,b,c,d]:=fun _ _ _ _ _ _ us hl=>match us,hl with|[_,_,_,_],_=>h _ _ _ _ _ _ _ _ _ _
theorem bn5(h:∀ u v w y z,BnE x q st [a,b,c,d,e] [u,v,w,y,z]:=by intros _ _ _ _ _ _ _ _ _ _ _;rfl):BnA x q st [a,b,c,d,e]:=fun _ _ _ _ _ _ us hl=>match us,hl with|[_,_,_,_,_],_=>h _ _ _ _ _ _ _ _ _ _ _
end
section
variable{K:Frag}{mg:Str->Option Value}{x y q m:Str}{k:Nat}{ps:List Str}{sp:Sp}{C:Addr}{st:Stmt}{f:Addr}{fd:FuncData}
theorem dMk(P:Program)(w:World)(base:Heap)(F:Fun K x q st f fd)(ok:FnOk P w K mg base (CX1 P w) k f fd ps sp)(b:mg y=some (.ref f))(hb:BnA x q st ps:=by first|exact bn1|exact bn2|exact bn3|exact bn4|exact bn5):Yg P w K mg base y k ps sp:=⟨f,fd,ok,b,F.kp,F.binds hb⟩
theorem mMk(P:Program)(w:World)(base:Heap)(F:Fun K x q st f fd)(ok:FnOk P w K mg base (CX1 P w) k f fd ps sp)(b:E9 K C m f)(hb:BnA x q st ps:=by first|exact bn1|exact bn2|exact bn3|exact bn4|exact bn5):Zt P w K mg base C m k ps sp:=⟨f,fd,ok,b,F.binds hb⟩
theorem nMk(P:Program)(w:World)(base:Heap)(F:Fun K x q st f fd)(ok:FnOk P w K mg base (CX1 P w) k f fd ps sp)(b:Mk K C f)(c:mg y=some (.ref C))(hb:BnA x q st ps:=by first|exact bn1|exact bn2|exact bn3|exact bn4|exact bn5):V9 P w K mg base y C k ps sp:=⟨f,fd,ok,b,c,F.binds hb⟩
end
structure LN(K:Frag)(x q:Str)(st:Stmt)(f:Addr)(oc kV dc pm cd ct:Value)(od an:Option Addr)(sl:Array (Option Value)):Prop where
 b:NsB K x f
 l:LkF K f x q st oc kV dc pm cd ct od an sl
 c:PySem.W.codeIn K cd q=true
 k:PySem.W.keepIn K (.ref f)=true
structure LM(K:Frag)(C:Addr)(x q:Str)(st:Stmt)(f:Addr)(oc kV dc pm cd ct:Value)(od an:Option Addr)(sl:Array (Option Value)):Prop where
 b:FdB K C x f
 l:LkF K f x q st oc kV dc pm cd ct od an sl
 c:PySem.W.codeIn K cd q=true
 k:PySem.W.keepIn K (.ref f)=true
 i:PySem.W.isFn K (.ref f)=true
noncomputable abbrev XcB(K:Frag)(c:Addr):Prop:=PySem.W.excIn K c [.type "ValueError",.type "Exception",.type "BaseException",.type "object"] "ValueError.__new__"=true
noncomputable abbrev NzB(K:Frag)(x:Str):Prop:=PySem.W.nsIn K mainGlobals x=some none
structure XG(P:Program)(w:World)(base:Heap)(K:Frag)(mg:Str->Option Value)(h:Heap):Prop where
 X:K.In h
 G:h.Ns mainGlobals mg
section
variable{P:Program}{w:World}{base h:Heap}{K:Frag}{mg:Str->Option Value}{x y q:Str}{k:Nat}{ps:List Str}{sp:Sp}{C:Addr}{st:Stmt}{f:Addr}{oc kV dc pm cd ct:Value}{od an:Option Addr}{sl:Array (Option Value)}
theorem dN(Z:XG P w base K mg h)(l:LN K x q st f oc kV dc pm cd ct od an sl)(ok:∀ {fd},Fun K x q st f fd->FnOk P w K mg base (CX1 P w) k f fd ps sp)(hb:BnA x q st ps:=by first|exact bn1|exact bn2|exact bn3|exact bn4|exact bn5):Yg P w K mg base x k ps sp :=
 dMk P w base (Zo l.l l.c l.k) (ok (Zo l.l l.c l.k)) (PySem.W.mg_of Z.X Z.G l.b) hb
theorem dA(Z:XG P w base K mg h)(l:LN K x q st f oc kV dc pm cd ct od an sl)(b:PySem.W.nsIn K mainGlobals y=some (some (.ref f)))(ok:∀ {fd},Fun K x q st f fd->FnOk P w K mg base (CX1 P w) k f fd ps sp)(hb:BnA x q st ps:=by first|exact bn1|exact bn2|exact bn3|exact bn4|exact bn5):Yg P w K mg base y k ps sp :=
 dMk P w base (Zo l.l l.c l.k) (ok (Zo l.l l.c l.k)) (PySem.W.mg_of Z.X Z.G b) hb
theorem mM(_:XG P w base K mg h)(l:LM K C x q st f oc kV dc pm cd ct od an sl)(ok:∀ {fd},Fun K x q st f fd->FnOk P w K mg base (CX1 P w) k f fd ps sp)(hb:BnA x q st ps:=by first|exact bn1|exact bn2|exact bn3|exact bn4|exact bn5):Zt P w K mg base C x k ps sp :=
 mMk P w base (Zo l.l l.c l.k) (ok (Zo l.l l.c l.k)) ⟨l.b,l.i,l.k⟩ hb
theorem nM(Z:XG P w base K mg h)(l:LM K C "__init__" q st f oc kV dc pm cd ct od an sl)(m:PySem.W.makesIn K C=true)(kc:PySem.W.keepIn K (.ref C)=true)(c:PySem.W.nsIn K mainGlobals y=some (some (.ref C)))(ok:∀ {fd},Fun K "__init__" q st f fd->FnOk P w K mg base (CX1 P w) k f fd ps sp)(hb:BnA "__init__" q st ps:=by first|exact bn1|exact bn2|exact bn3|exact bn4|exact bn5):V9 P w K mg base y C k ps sp :=
 nMk P w base (Zo l.l l.c l.k) (ok (Zo l.l l.c l.k)) ⟨m,l.b,l.i,kc⟩ (PySem.W.mg_of Z.X Z.G c) hb
end
section
variable{X:Cx}{elt iter:Expr}{x:Str}{px pos:Pos}{ifs:List Expr}{scope:Scope}{cl:List (Str×Addr)}{ys:List Str}{js:List Nat}
theorem Nn{pins:List (Addr×Obj)}{σ:St}{H:Hp}{s:Shared}{tt:TT}{te:TE}{it:Addr}{fp:List Addr}{tn:Nat->Heap->Prop}{J:It}{W:Nat->Nat->List V->Hp->Prop}{m0:Nat}{Q:VK}{E:Value->Shared->Prop}{RR:Value->Addr->Result->Shared->Prop}
  (hcm:X.calm=true) (c:Gg X x scope cl ys js) (ht:∀ pn s₀ H₀ fp C,PTs (Ye X pn (x :: ys) scope cl s₀ H₀ fp C) ifs tt) (hgt:∀ pn s₀ H₀ fp C,PG (Ye X pn (x :: ys) scope cl s₀ H₀ fp C) (.Name x px) (W4 0)) (he:∀ pn s₀ H₀ fp C,PE (Ye X pn (x :: ys) scope cl s₀ H₀ fp C) elt te)
  (I:Inv X pins σ H s) (T:Ks X.prog X.w X.K (.Name x px) J fp it tn) (st0:tn 0 s.heap) (hf:∀ b∈fp,FpOk X pins H b) (w0:W 0 m0 [] H)
  (turn:∀ i m ys H,W i m ys H->(J.stop i H/\ys.length<=sizeLine/\∀ p,H p=none->Q (.ref p) (upd H p (.lst ys))) \/
   (J.go i H/\ys.length<sizeLine/\∃ N:List V->Hp->Prop,(∀ ys' H',N ys' H'->∃ m',m' < m/\W (i+1) m' ys' H')/\∀ x H',J.yld i H x H'->tt (cs js σ x) H' fun b H2=>if b=true then te (cs js σ x) H2 fun y H3=>N (ys++[y]) H3 else N ys H2))
  (hRR:∀ D C s' m,s'.heap.Ns C m->(∀ h',Heap.SameBut C s'.heap h'->∃ H',Inv X pins σ H' { s' with heap:=h' }/\Q (.ref D) H')->(∃ H',Inv X pins σ H' s'/\Q (.ref D) H'/\H' C=none)->s.heap.objs.size<=C->RR (.ref D) C (.ok .next) s') :
  wpAny (model X.prog X.w) X.A (newList []) (fun acc s₃=>wpAny (model X.prog X.w) X.A (newFunctionEnv scope X.env.globals cl [] X.env.qual none .none (some X.env)) (fun cenv s₄ =>
   codeAny (model X.prog X.w) X.A (.compStart (.ListComp elt [⟨.Name x px,iter,ifs,0⟩] scope pos) 0 (.ref it) acc { cenv with scope:=relabel scope X.env }) (RR acc cenv.locals) s₄) E s₃) E s :=
 Nb (xo:=[x]) (g:=W4 0) hcm ⟨c.clos,c.kind,c.names,c.nocell,c.at_,c.free,c.only,c.vis⟩ ht hgt he I T st0 hf w0 (fun i m ys H w=>(turn i m ys H w).imp id fun ⟨a,b,N,n1,n2⟩=>⟨a,b,N,n1,fun y H' hy=>⟨⟨[some y],rfl,rfl⟩,n2 y H' hy⟩⟩) hRR
variable{wi:TI}{tt:TT}{te:TE}
theorem U2(hcm:X.calm=true)(c:Gg X x scope cl ys js)(hi:PI X (.Name x px) iter wi)(ht:∀ pn s₀ H₀ fp C,PTs (Ye X pn (x :: ys) scope cl s₀ H₀ fp C) ifs tt)(he:∀ pn s₀ H₀ fp C,PE (Ye X pn (x :: ys) scope cl s₀ H₀ fp C) elt te)
  (hx:∀ C,(compEnvC scope cl C X.env).scope.names.lookup x=some .local:=by intro _;rfl) (hs:∀ x,foldedSetIterable iter X.env x=pure x:=by intro _;rfl):PE X (.ListComp elt [⟨.Name x px,iter,ifs,0⟩] scope pos) (Al wi js tt te):=by
 intro pins s σ H Q I h;rw[eval_ListComp];refine wpAny_comprehension_free (use:=none) rfl hs c.clos c.kind c.names (thn (hi pins s σ H _ I h) fun v s1 h1=>thn h1 fun itv s2 h2=>?_);obtain⟨it,fp,tn,J,H2,e,I2,T,st2,f2,W,⟨m0,w0⟩,turn⟩:=h2;subst e;exact Nn (RR:=fun acc C=>compPost (model X.prog X.w) X.A X.xe none (EP X pins σ Q) acc C) hcm c ht (fun _ _ _ _ C=>Vq (X:=Ye X _ (x :: ys) scope cl _ _ _ C) c.nd rfl (.inl (hx C)) ⟨.inr (hx C),Xf⟩) he I2 T st2 f2 w0 turn fun D C s' m hn hS _ _=>⟨m,hn,fun h' hs'=>let ⟨H',I',q⟩:=hS h' hs';⟨.ref D,H',I',rfl,q⟩⟩
theorem Pq{y:Str}{py spos:Pos}{i:Nat}(hN:X.N.Nodup)(hy:X.N[i]?=some y)(hk:X.env.scope.names.lookup y=some .local)(hcm:X.calm=true)(c:Gg X x scope cl ys js)(hi:PI X (.Name x px) iter wi)(ht:∀ pn s₀ H₀ fp C,PTs (Ye X pn (x :: ys) scope cl s₀ H₀ fp C) ifs tt)
  (he:∀ pn s₀ H₀ fp C,PE (Ye X pn (x :: ys) scope cl s₀ H₀ fp C) elt te)
  (hx:∀ C,(compEnvC scope cl C X.env).scope.names.lookup x=some .local:=by intro _;rfl) (hsw:swapsWith (.ListComp elt [⟨.Name x px,iter,ifs,0⟩] scope pos) (some (.Name y py)) spos.line X.env=pure true:=by rfl) (hs:∀ x,foldedSetIterable iter X.env x=pure x:=by intro _;rfl)
  (hf:J1 X i y:=by first|exact⟨.inr rfl,Xf⟩|assumption|exact⟨.inr rfl,by assumption⟩) :
  PS X (.Assign [.Name y py] (.ListComp elt [⟨.Name x px,iter,ifs,0⟩] scope pos) spos) (Fd (Al wi js tt te) (W4 i)):=by
 intro pins s σ H D0 I h;rw[exec_Assign_Name_used _ _ _ _ hsw];refine wpAny_bind (wpAny_standAt (wpAny_bind ?_));show wpAny _ X.A (do let _ <- comprehension (.ListComp elt [⟨.Name x px,iter,ifs,0⟩] scope pos) scope X.env _ (newList []) false (eval iter X.env) (some (assign (.Name y py) X.env))) _ _ s;refine wpAny_bind (wpAny_mono (wpAny_comprehension_free (use:=some (assign (.Name y py) X.env)) (Q:=fun _ s'=>SP X pins D0 .next s') rfl hs c.clos c.kind c.names
  (thn (hi pins s σ H _ I h) fun v s1 h1=>thn h1 fun itv s2 h2=>?_)) (fun _ s' hq=>wpAny_pure (wpAny_pure hq)) fun _ _ e=>e)
 obtain⟨it,fp,tn,J,H2,e,I2,T,st2,f2,W,⟨m0,w0⟩,turn⟩:=h2;subst e;refine Nn (Q:=fun x H1=>D0.nx (σ.set i (some x)) H1) (RR:=fun acc C=>compPost (model X.prog X.w) X.A X.xe (some (assign (.Name y py) X.env)) (fun _ s'=>SP X pins D0 .next s') acc C) hcm c ht (fun _ _ _ _ C=>Vq (X:=Ye X _ (x :: ys) scope cl _ _ _ C) c.nd rfl (.inl (hx C)) ⟨.inr (hx C),Xf⟩) he I2 T st2 f2 w0 turn fun D C s' m hn _ hS hC=>?_;obtain⟨H',I',q,fC⟩:=hS;show wpAny _ X.A (assign (.Name y py) X.env (.ref D)) _ _ _;have ltC:∀ b o,s2.heap.get? b=some o->b≠C:=fun b o e=>zrk (zra (Heap.lt_size e) hC);have neL:C≠X.env.locals:=by
  obtain⟨_,⟨o,_,_,ho,_⟩,_⟩:=I2.loc;exact Ne.symm (ltC _ o ho)
 have neK:∀ z a,X.env.cells.lookup z=some a->a≠C:=fun z a e=>by
  obtain⟨_,o,ho,_⟩:=I2.cell z a e;exact ltC a o ho
 refine wpAny_assign_Name (Mr I' hN hy (.inl hk) (v:=.ref D) (show RelV (.ref D) (.ref D) from rfl) (fun s4 I4 ⟨a,hs4,ha⟩=>?_) hf);have naC:C≠a:=by
  rcases ha with ha|ha
  ·rw[ha];exact neL
  ·exact Ne.symm (neK _ _ ha)
 refine⟨m,hn.sameBut hs4 naC,fun h5 hs5=>⟨_,H',?_,q⟩⟩;refine I4.turned (t':=s4.toks) (it:=C) (fun b o hb e=>hs5.extBut b o hb e) fC neL (.inr (zro I2.sz hC)) neK fun p hp=>?_;obtain⟨e,_⟩:=I2.pin p hp;exact ltC _ _ e
end
end L2
namespace G
open PySem PySem.Spec PyProof.Rows L2
inductive RwL(H:Hp):List Addr->List (List Row)->Prop where
 | nil:RwL H [] []
 | cons {l:Addr} {ls:List Addr} {ts:List V} {rs:List Row} {Rs:List (List Row)} (h:H l=some (.lst ts)) (t:TupL H ts (rs.map Qy)) (n:RwL H ls Rs):RwL H (l :: ls) (rs :: Rs)
theorem RwL.same{H H':Hp}(e:Same H H'):∀ {ls:List Addr} {Rs:List (List Row)},RwL H ls Rs->RwL H' ls Rs
 | _,_,.nil=>.nil
 | _,_,.cons h t n=>.cons (e _ _ h) (t.same e) (RwL.same e n)
theorem RwL.snoc{H:Hp}{l:Addr}{ts:List V}{rs:List Row}(h:H l=some (.lst ts))(t:TupL H ts (rs.map Qy)):∀ {ls:List Addr} {Rs:List (List Row)},RwL H ls Rs->RwL H (ls++[l]) (Rs++[rs])
 | _,_,.nil=>.cons h t .nil
 | _,_,.cons h' t' n=>.cons h' t' (RwL.snoc h t n)
inductive Li(ca:CA)(vs:List V)(H:Hp)(Q:VK)(_:XK):Prop where
 | mk(A:SAd)(S:Sea)(_:vs=[.ref A.p])(_:Zv ca H A S)(_:S.led.length<=900)(_:∀ l ls H',H' l=some (.lst (ls.map V.ref))->RwL H' ls S.led->Same H H'->H l=none->(∀ x∈ls,H x=none)->Q (.ref l) H')
end G
namespace L2
open PySem PySem.Spec PyProof.Rows PySem.Builtin PySem.Builtin.Str
theorem Lj{X:Cx}:OpR X (binaryOp .Add) (fun x y H Q=>∃ a b:Str,x=.str a/\y=.str b/\a.length+b.length<=sizeLine/\Q (.str (a++b)) H):=by
 intro pins s σ H x y v u Q I rx ry h;obtain⟨a,b,rfl,rfl,hz,q⟩:=h;obtain⟨t,rfl⟩:=rx;obtain⟨t',rfl⟩:=ry;exact P.add_str (PySem.SB.post_add hz fun t' k=>⟨.str (a++b),H,I.tok _,⟨_,rfl⟩,q⟩)
noncomputable def B6(a b:Str):List Str:=partsBetween a (occurrences a b 0 a.length (a.length+1)) b.length
inductive zbd(x:V)(xs:List V)(H:Hp)(Q:VK):Prop where
 | mk(a b:Str)(_:x=.str a)(_:xs=[.str b])(_:(decide (a.length<b.length)||decide (strKind a<strKind b))=false)(_:(b.length == 0)=false)(_:(occurrences a b 0 a.length (a.length+1)).isEmpty=false)(_:a.length<=sizeLine)(_:(B6 a b).length<=sizeLine)(_:∀ l,H l=none->Q (.ref l) (upd H l (.lst ((B6 a b).map V.str))))
theorem Jv:∀ (k:Nat) (ws:List Str),Vals (ws.map V.str) (strsFrom k ws)
 | _,[]=>.nil
 | k,w :: ws=>.cons ⟨_,rfl⟩ (Jv (k+1) ws)
theorem Cy{X:Cx}:MtR X "str.split" zbd:=by
 intro pins s σ H x xs v us Q I rx rv h;obtain⟨a,b,rfl,rfl,h1,h2,h3,h4,h5,q⟩:=h;obtain⟨t,rfl⟩:=rx;obtain⟨u,rfl,ru⟩:=rv.one;obtain⟨t',rfl⟩:=ru;have hf:H s.heap.objs.size=none:=I.hok.fresh (zq1 _);refine call_meets F.slot_str_split (typeIs_str _ _ _) F.entry_str_split (F.args_str_split_2 _ _) (meets_str_split_sep a b t t' h1 h2 h3 h4 h5) ?_;refine⟨.ref s.heap.objs.size,upd H s.heap.objs.size (.lst ((B6 a b).map V.str)),I.laid (fun _ _ q=>Heap.get?_push_of_some _ q) (zq1 _) ?_,rfl,q _ hf⟩;exact⟨by rw[zqx];exact h5,_,_,Jv s.toks _,Heap.get?_push_size _ rfl⟩
end L2
namespace G
open PySem PySem.Spec PyProof.Rows L2
inductive Ref where
 | out|known|many|unk|manyM|same|noMatch|noRound|over|seaOver|away|drawn|notDrawn|nothing|manyD
 deriving DecidableEq
noncomputable def Ref.cls(ca:CA):Ref->Addr
 | .out=>ca.out|.known=>ca.known|.many=>ca.many|.unk=>ca.unk|.manyM=>ca.manyM|.same=>ca.same|.noMatch=>ca.noMatch|.noRound=>ca.noRound
 | .over=>ca.over|.seaOver=>ca.seaOver|.away=>ca.away|.drawn=>ca.drawn|.notDrawn=>ca.notDrawn|.nothing=>ca.nothing|.manyD=>ca.manyD
noncomputable def Ref.name:Ref->Str
 | .out=>"OutOfRange" | .known=>"KnownReferee" | .many=>"TooManyReferees" | .unk=>"UnknownReferee" | .manyM=>"TooManyMatches" | .same=>"SameClub" | .noMatch=>"NoSuchMatch" | .noRound=>"NoSuchRound"
 | .over=>"RoundOver" | .seaOver=>"SeasonOver" | .away=>"AwayAlready" | .drawn=>"DrawnUp" | .notDrawn=>"NotDrawn" | .nothing=>"NothingToTakeBack" | .manyD=>"TooManyDeeds"
open Classical in
noncomputable def refS(S:Sea):Xu->Option Ref
 | .enrol n g c=>if S.len<=S.led.length then some .seaOver else if S.cur.isSome=true then some .drawn else if badI n g c then some .out else if n∈S.ppl.map (·.1) then some .known else if 30<=S.ppl.length then some .many else if 100<=S.std.length then some .manyD else none
 | .away i n=>if i<1\/(S.len:Int)<i then some .noRound else if i<=S.led.length then some .over else if n∈S.ppl.map (·.1) then (if (i,n)∈S.out then some .away else if 100<=S.std.length then some .manyD else none) else some .unk
 | .draw ms=>if S.len<=S.led.length then some .seaOver else if S.cur.isSome=true then some .drawn else if 20<ms.length then some .manyM else if Tc ms then some .out else if Td ms then some .same else if 100<=S.std.length then some .manyD else none
 | .close=>if S.len<=S.led.length then some .seaOver else if S.cur=none then some .notDrawn else none
 | .back=>if S.std=[] then some .nothing else none
noncomputable def Hi:Xu->Prop
 | .enrol n g c=>Kd n g c
 | .away i n=>Z0 i/\Z0 n
 | .draw ms=>(∀ m∈ms,Ni m)/\ms.length<=1000
 | _=>True
inductive Aq(K:Frag)(ca:CA)(vs:List V)(H:Hp)(Q:VK)(E:XK):Prop where
 | mk(A:SAd)(S:Sea)(t:Addr)(d:Xu)(_:vs=[.ref A.p,.ref t])(_:Zv ca H A S)(_:Rq (·∉A.fp) H t d)(_:Hi d)(_:G4 S)(_:T8 S)(_:S.std.length<=500)(_:S.out.length<=100000)(_:2*(tot S.led+1000)<=100000)(_:S.led.length<=1000)(_:S.old.length<=1000)(_:(d=.back->S.std≠[]->∃ S0,Jt S0 S))(_:(∀ r,refS S d=some r->∀ H',Same H H'->E (.ref (r.cls ca)) none H'))(_:(refS S d=none->∀ v A' S' H',U1 H' S d S' v->Zv ca H' A' S'->S7 A A' H->FrS A H H'->(∀ l,v=.ref l->(∃ xs,H' l=some (.lst xs))->H l=none)->Q v H'))
inductive Cz(K:Frag)(ca:CA)(vs:List V)(H:Hp)(Q:VK)(_:XK):Prop where
 | mk(A:SAd)(S:Sea)(t:Addr)(d:Xu)(_:vs=[.ref A.p,.ref t])(_:Zv ca H A S)(_:Rq (·∉A.fp) H t d)(_:Hi d)(_:G4 S)(_:T8 S)(_:S.std.length<=500)(_:S.out.length<=100000)(_:2*(tot S.led+1000)<=100000)(_:S.led.length<=1000)(_:S.old.length<=1000)(_:(d=.back->S.std≠[]->∃ S0,Jt S0 S))(_:(∀ r,refS S d=some r->∀ u l H',H' u=some (.tup [.str "refused",.ref l])->H' l=some (.lst [.str r.name,.str "ValueError"])->Same H H'->H u=none->Q (.ref u) H'))(_:(refS S d=none->∀ u v A' S' H',H' u=some (.tup [.str "told",v])->U1 H' S d S' v->Zv ca H' A' S'->S7 A A' H->FrS A H H'->u∉A'.fp->Q (.ref u) H'))
inductive C0(K:Frag)(ca:CA)(vs:List V)(H:Hp)(Q:VK)(_:XK):Prop where
 | mk(r q:Int)(_:vs=[.int r,.int q])(_:Z0 r)(_:Z0 q)(_:∀ l H',H' l=some (.lst (if r<0\/60<r\/q<0\/10<q then [.bl true,.bl true,.bl false,.bl false,.bl false] else []))->Same H H'->Q (.ref l) H')
inductive G6(ca:CA)(vs:List V)(H:Hp)(Q:VK)(_:XK):Prop where
 | mk(A:SAd)(S:Sea)(_:vs=[.ref A.p])(_:Zv ca H A S)(_:S.led=[])(_:S.ppl=[])(_:S.std=[])(_:∀ H',Same H H'->Q (.bl true) H')
noncomputable def Sa(r:Int)(noted:List Int):Xu->Str
 | .back=>"NothingToTakeBack"
 | .away i n=>if i<1\/r<i then "NoSuchRound" else if noted=[] then "UnknownReferee" else if i∈noted then "AwayAlready" else ""
 | .close=>if r=0 then "SeasonOver" else "NotDrawn"
 | _=>if r=0 then "SeasonOver" else ""
inductive G7(K:Frag)(vs:List V)(H:Hp)(Q:VK)(_:XK):Prop where
 | mk(r:Int)(ln t:Addr)(noted:List Int)(d:Xu)(_:vs=[.int r,.ref ln,.ref t])(_:H ln=some (.lst (noted.map V.int)))(_:Rq (fun _=>True) H t d)(_:(∀ ms,d≠.draw ms))(_:∀ H',Same H H'->Q (.str (Sa r noted d)) H')
theorem C2{S:Sea}{d:Xu}{r:Ref}(h:refS S d=some r):r≠.noMatch:=by
 intro e;subst e;cases d<;>simp only[refS] at h<;>(repeat' split at h)<;>cases h
noncomputable def refB(r:Ref):List V:=[.out,.known,.many,.unk,.manyM,.same,.noMatch,.noRound,.over,.seaOver,.away,.drawn,.notDrawn,.nothing,.manyD].map (fun t=>V.bl (decide (r=t)))++[V.bl true]
noncomputable def refW:List Str:=["OutOfRange","KnownReferee","TooManyReferees","UnknownReferee","TooManyMatches","SameClub","NoSuchMatch","NoSuchRound","RoundOver","SeasonOver","AwayAlready","DrawnUp","NotDrawn","NothingToTakeBack","TooManyDeeds","ValueError"]
noncomputable def refP(r:Ref)(i:Nat):Bool:=decide ((refB r)[i]?=some (V.bl true))
theorem Em(r:Ref):((List.range 16).filter (refP r)).map (fun i=>V.str (refW.getD i ""))=[.str r.name,.str "ValueError"]:=by cases r<;>decide +kernel
theorem C3(r:Ref){i:Nat}(h:i<16):(refB r)[i]?=some (V.bl (refP r i)):=by
 have hl:i<(refB r).length:=h;have e:=zqy hl;obtain⟨b,hb⟩:∃ b,(refB r)[i]=V.bl b:=by
  rcases zrd.mp (show (refB r)[i]∈_++_ from zr3 hl) with z|z
  ·obtain⟨t,_,e⟩:=zrg.mp z;exact⟨_,e.symm⟩
  ·exact⟨true,zq3.mp z⟩
 rw[hb] at e;unfold refP;rw[e];cases b
 ·rw[zq5 fun z=>by cases z]
 ·rw[zq2 rfl]
theorem C4{i:Nat}(h:i<16):(refW.map V.str)[i]?=some (V.str (refW.getD i "")):=by
 rw[zq7,zrp];have:i<refW.length:=h;rw[zqy this];rfl
theorem En:B6 (("OutOfRange KnownReferee TooManyReferees UnknownReferee TooManyMatches SameClub":Str)++(" NoSuchMatch NoSuchRound RoundOver SeasonOver AwayAlready DrawnUp":Str)++(" NotDrawn NothingToTakeBack TooManyDeeds ValueError":Str)) (" ":Str)=refW:=by decide +kernel
theorem U1.same{H H':Hp}{S S':Sea}{d:Xu}{v:V}(af:U1 H S d S' v)(e:Same H H'):U1 H' S d S' v:=by
 cases af with
 | enrol n g c=>exact .enrol n g c
 | awayN h hl=>exact .awayN h (e _ _ hl)
 | awayF h hp hl=>exact .awayF h hp (e _ _ hl)
 | awayC h hp hl tl CR=>exact .awayC h hp (e _ _ hl) (tl.same e) CR
 | draw hl F T=>exact .draw (e _ _ hl) F T
 | close h=>exact .close h
 | back h ht hs=>exact .back h (e _ _ ht) hs
theorem S7.back{A A':SAd}{H H':Hp}(nx:S7 A A' H')(e:Same H H'):S7 A A' H:=by
 obtain⟨x,rfl,h⟩:=nx;exact⟨x,rfl,h.elim .inl fun z=>.inr (e.free z)⟩
theorem zbe{p q:Prop}[Decidable p][Decidable q]{A B:Prop}(h1:p\/q->A)(h2:¬ (p\/q)->B):if p then A else if q then A else B:=by
 by_cases hp:p
 ·rw[if_pos hp];exact h1 (.inl hp)
 ·rw[if_neg hp];by_cases hq:q
  ·rw[if_pos hq];exact h1 (.inr hq)
  ·rw[if_neg hq];exact h2 (fun z=>z.elim hp hq)
theorem KeepI.none{H H':Hp}(kt:∀ t xs,H t=some (.tup xs)->H' t=some (.tup xs)){C:Addr}{ok:Addr->Prop}:∀ {vs:List V} {ss:List (Vu×Option Z2)},(∀ x∈ss,x.2=none)->Vj C ok H vs ss->Vj C ok H' vs ss
 | _,_,_,.nil=>.nil
 | _,(d,s) :: ss,hn,.cons h hu hs r=>by
   have e:s=Option.none:=hn (d,s) zrq;subst e;exact .cons (kt _ _ h) (kt _ _ hu) hs (KeepI.none kt (fun x hx=>hn x (zrh _ hx)) r)
theorem Zv.lstW{ca:CA}{A:SAd}{S:Sea}{H:Hp}{d:Addr}{xs ys:List V}(h:Zv ca H A S)(hd:H d=some (.lst xs))(n:d∉A.fp)(hc:S.cur=none)(ho:S.old=[])(hs:∀ x∈S.std,x.2=none):Zv ca (upd H d (.lst ys)) A S:=by
 have hn:∀ x∈A.fp,∀ o,H x=some o->upd H d (.lst ys) x=some o:=fun x hx o e=>by rw[Zg (fun z=>n (by rw[<- z];exact hx))];exact e
 have kt:∀ t xs,H t=some (.tup xs)->upd H d (.lst ys) t=some (.tup xs):=fun t xs e=>by rw[Zg (Yl e hd (by intro z;cases z))];exact e
 have ki:∀ x c e f,H x=some (.ins c e f)->upd H d (.lst ys) x=some (.ins c e f):=fun x c e f z=>by rw[Zg (Yl z hd (by intro z;cases z))];exact z
 obtain⟨⟨dx,v,a1,a2⟩,b,c,⟨kvs0,d1,d2⟩,⟨vs,f1,f2⟩,⟨us,g1,g2⟩,nd,np⟩:=h;have hp:A.p∈A.fp:=by simp[SAd.fp]
 have hdr:A.dr∈A.fp:=by simp[SAd.fp]
 have hlr:A.lr∈A.fp:=by simp[SAd.fp]
 have hld:A.ld∈A.fp:=by simp[SAd.fp]
 have hda:A.da∈A.fp:=by simp[SAd.fp]
 have hls:A.ls∈A.fp:=by simp[SAd.fp]
 have hlt:A.lt∈A.fp:=by simp[SAd.fp]
 obtain⟨⟨dxr,kvr,r1,r2,r3⟩,ndr⟩:=b;obtain⟨⟨dxl,l1⟩,l2,l3⟩:=id c;rw[hc] at a2;rw[ho] at f2;refine⟨⟨dx,v,hn _ hp _ a1,by rw[hc];exact a2⟩,⟨⟨dxr,kvr,ki _ _ _ _ r1,hn _ hdr _ r2,r3.mono kt⟩,ndr⟩,c.keep (fun o e=>?_) (hn _ hlr) (hn _ hld) kt,⟨kvs0,hn _ hda _ d1,d2⟩,⟨vs,hn _ hls _ f1,by rw[ho];cases f2;exact .nil⟩,⟨us,hn _ hlt _ g1,KeepI.none kt hs g2⟩,nd,np⟩;rw[l1] at e;cases e;exact ki _ _ _ _ l1
noncomputable def ldV:Xu->List V
 | .enrol n g c=>[.str "enrol",.int n,.int g,.int c]
 | .away i n=>[.str "away",.int i,.int n]
 | .close=>[.str "close"]
 | .back=>[.str "take back"]
 | .draw _=>[]
theorem C5{ok:Addr->Prop}{H:Hp}{t:Addr}{d:Xu}(h:H t=some (.tup (ldV d)))(nd:∀ ms,d≠.draw ms):Rq ok H t d:=by
 cases d with
 | draw ms=>exact absurd rfl (nd ms)
 | enrol n g c=>exact h
 | away i n=>exact h
 | close=>exact h
 | back=>exact h
theorem B7(r:Ref):decide (r.name="")=false:=by cases r<;>decide +kernel
theorem G8(r:Ref):∀ w∈[r.name,("ValueError":Str)],PyData.strOk w=true:=by cases r<;>decide +kernel
structure I21(r i:Nat)(noted:List Int)(S:Sea):Prop where
 len:S.len=r
 led:S.led=[]
 cur:S.cur=none
 old:S.old=[]
 std:∀ x∈S.std,x.2=none
 sl:S.std.length<=i
 ol:S.out.length<=i
 z:(noted=[]/\S.ppl=[]/\S.std=[]/\S.out=[])\/∃ ds,noted=0 :: ds/\S.ppl=[(5,5,5)]/\S.out=ds.map fun i=>(i,5)
 e:i<=10->noted=[]
noncomputable def L21(days:List Int):List Xu:=((days.map fun x=>Xu.away x 5)++[.close,.back,.enrol 5 5 5])++(days.map fun x=>Xu.away x 5)++[.close]
theorem B8{days:List Int}(h8:days.length=8){i:Nat}{d:Xu}(h:(L21 days)[i]?=some d):i<20/\((∃ x∈days,d=.away x 5)\/d=.close\/(d=.back/\i<=10)\/(d=.enrol 5 5 5/\i=10)):=by
 have hi:=(zqz.mp h).1;have hi:i<20:=by simpa [L21,h8] using hi
 refine⟨hi,?_⟩;have aw:∀ {k:Nat},(days.map fun x=>Xu.away x 5)[k]?=some d->∃ x∈days,d=.away x 5:=fun e=>by
  obtain⟨x,hx,rfl⟩:=zrg.mp (zq9 e);exact⟨x,hx,rfl⟩
 unfold L21 at h;rw[List.getElem?_append] at h;split at h
 ·rw[List.getElem?_append] at h;split at h
  ·rw[List.getElem?_append] at h;split at h
   ·exact .inl (aw h)
   ·rename_i h1;rw[zqx,h8] at h h1;obtain⟨k,rfl⟩:∃ k,i=k+8:=⟨i-8,by omega⟩;rw[Nat.add_sub_cancel] at h
    match k,h with
    | 0,h=>exact .inr (.inl (Option.some.inj h).symm)
    | 1,h=>exact .inr (.inr (.inl ⟨(Option.some.inj h).symm,by omega⟩))
    | 2,h=>exact .inr (.inr (.inr ⟨(Option.some.inj h).symm,rfl⟩))
    | k+3,h=>cases h
  ·exact .inl (aw h)
 ·have:=zq9 h;exact .inr (.inl (zq3.mp this))
theorem Hj{r i:Nat}{noted days:List Int}{S:Sea}{d:Xu}(I:I21 r i noted S)(hi:i<20)(hd:(∃ x∈days,d=.away x 5)\/d=.close\/(d=.back/\i<=10)\/(d=.enrol 5 5 5/\i=10)) :
  (∀ f,refS S d=some f->Sa r noted d=f.name)/\(refS S d=none->Sa r noted d=""/\d≠.close/\d≠.back):=by
 obtain⟨h1,h2,h3,h4,h5,h6,h7,h8,h9⟩:=I;have hl:S.led.length=0:=by rw[h2];rfl
 rcases hd with ⟨x,_,rfl⟩|rfl|⟨rfl,hle⟩|⟨rfl,he⟩
 ·simp only[refS,Sa];rw[h1,hl];by_cases c1:x<1\/(r:Int)<x
  ·rw[if_pos c1,if_pos c1];exact⟨fun f e=>by cases e;rfl,fun e=>by cases e⟩
  rw[if_neg c1,if_neg c1,if_neg (show ¬ x<=((0:Nat):Int) by omega)];rcases h8 with ⟨rfl,e1,e2,e3⟩|⟨ds,rfl,e1,e2⟩
  ·rw[e1,if_neg (by simp),if_pos rfl];exact⟨fun f e=>by cases e;rfl,fun e=>by cases e⟩
  ·rw[e1,e2,if_pos (show (5:Int)∈[((5:Int),(5:Int),(5:Int))].map (·.1) by simp),if_neg (show ¬ ((0:Int) :: ds=[]) by simp)];have hm:(x,(5:Int))∈ds.map (fun i=>(i,(5:Int)))↔x∈(0:Int) :: ds:=by
    rw[zrg,zq0];constructor
    ·rintro⟨y,hy,e⟩;cases e;exact .inr hy
    ·rintro(z|z)
     ·omega
     ·exact⟨x,z,rfl⟩
   by_cases c2:x∈(0:Int) :: ds
   ·rw[if_pos (hm.mpr c2),if_pos c2];exact⟨fun f e=>by cases e;rfl,fun e=>by cases e⟩
   ·rw[if_neg (fun z=>c2 (hm.mp z)),if_neg c2,if_neg ⋯];exact⟨fun f e=>(by cases e),fun _=>⟨rfl,nofun,nofun⟩⟩
 ·simp only[refS,Sa];rw[h1,hl,h3];by_cases c1:r=0
  ·rw[if_pos (show r<=0 by omega),if_pos (show (r:Int)=0 by omega)];exact⟨fun f e=>by cases e;rfl,fun e=>by cases e⟩
  ·rw[if_neg (show ¬ r<=0 by omega),if_neg (show ¬ (r:Int)=0 by omega),if_pos rfl];exact⟨fun f e=>by cases e;rfl,fun e=>by cases e⟩
 ·simp only[refS,Sa];rcases h8 with ⟨rfl,e1,e2,e3⟩|⟨ds,e0,e1,e2⟩
  ·rw[if_pos e2];exact⟨fun f e=>by cases e;rfl,fun e=>by cases e⟩
  ·rw[h9 hle] at e0;cases e0
 ·simp only[refS,Sa];rcases h8 with ⟨rfl,e1,e2,e3⟩|⟨ds,e0,e1,e2⟩
  ·rw[h1,hl,h3,e1,e2];by_cases c1:r=0
   ·rw[if_pos (show r<=0 by omega),if_pos (show (r:Int)=0 by omega)];exact⟨fun f e=>by cases e;rfl,fun e=>by cases e⟩
   ·rw[if_neg (show ¬ r<=0 by omega),if_neg (show ¬ (r:Int)=0 by omega),if_neg (show ¬ ((none:Option Z2).isSome=true) by simp),if_neg (show ¬ badI 5 5 5 by unfold badI;omega),if_neg (show ¬ (5:Int)∈([]:RL).map (·.1) by simp),if_neg (show ¬ 30<=([]:RL).length by simp),if_neg (show ¬ 100<=([]:List (Vu×Option Z2)).length by simp)];exact⟨fun f e=>(by cases e),fun _=>⟨rfl,nofun,nofun⟩⟩
  ·rw[h9 ⋯] at e0;cases e0
noncomputable def C6(noted:List Int):Xu->List Int
 | .enrol _ _ _=>noted++[0]
 | .away i _=>noted++[i]
 | _=>noted
theorem B9{r i:Nat}{noted days:List Int}{S S':Sea}{d:Xu}{v:V}{H:Hp}(I:I21 r i noted S)(hi:i<20)(hd:(∃ x∈days,d=.away x 5)\/d=.close\/(d=.back/\i<=10)\/(d=.enrol 5 5 5/\i=10))(hr:refS S d=none)(af:U1 H S d S' v):I21 r (i+1) (C6 noted d) S':=by
 obtain⟨_,k1,k2⟩:=(Hj I hi hd).2 hr;obtain⟨h1,h2,h3,h4,h5,h6,h7,h8,h9⟩:=I;cases af with
 | close h=>exact absurd rfl k1
 | back h ht hs=>exact absurd rfl k2
 | draw hl F T=>rcases hd with ⟨x,_,e⟩|e|⟨e,_⟩|⟨e,_⟩<;>cases e
 | awayF h hp hl=>rw[h3] at h;cases h
 | awayC h hp hl tl CR=>rw[h3] at h;cases h
 | @awayN k n l h hl =>
   obtain⟨x,_,e⟩:∃ x∈days,Xu.away k n=.away x 5:=by
    rcases hd with z|e|⟨e,_⟩|⟨e,_⟩
    ·exact z
    ·cases e
    ·cases e
    ·cases e
   cases e;rcases h8 with ⟨rfl,e1,e2,e3⟩|⟨ds,rfl,e1,e2⟩
   ·exfalso
    simp only[refS] at hr;rw[e1] at hr;split at hr;· cases hr
    split at hr;· cases hr
    rw[if_neg (by simp)] at hr;cases hr
   ·refine⟨h1,h2,h3,h4,fun y hy=>?_,?_,?_,.inr ⟨ds++[k],rfl,e1,?_⟩,fun z=>?_⟩
    ·rcases zrd.mp hy with z|z
     ·exact h5 y z
     ·rw[zq3.mp z];exact h3
    ·show (S.std++[_]).length<=i+1;rw[zq4];simp only[zrc,zr4];omega
    ·show (S.out++[_]).length<=i+1;rw[zq4];simp only[zrc,zr4];omega
    ·show S.out++[(k,5)]=_;rw[e2,zre];rfl
    ·have:=h9 ⋯;cases this
 | enrol n g c =>
   obtain⟨e,hi10⟩:Xu.enrol n g c=.enrol 5 5 5/\i=10:=by
    rcases hd with ⟨x,_,e⟩|e|⟨e,_⟩|z
    ·cases e
    ·cases e
    ·cases e
    ·exact z
   cases e;rcases h8 with ⟨rfl,e1,e2,e3⟩|⟨ds,e0,_⟩
   ·refine⟨h1,h2,h3,h4,fun y hy=>?_,?_,?_,.inr ⟨[],rfl,?_,e3⟩,fun z=>by omega⟩
    ·rcases zrd.mp hy with z|z
     ·exact h5 y z
     ·rw[zq3.mp z];exact h3
    ·show (S.std++[_]).length<=i+1;rw[zq4];simp only[zrc,zr4];omega
    ·show S.out.length<=i+1;omega
    ·show S.ppl++[(5,5,5)]=_;rw[e1];rfl
   ·rw[h9 ⋯] at e0;cases e0
theorem TupL.app{H:Hp}:∀ {ts us:List V} {R Q:List (List V)},TupL H ts R->TupL H us Q->TupL H (ts++us) (R++Q)
 | _,_,_,_,.nil,h=>h
 | _,_,_,_,.cons h r,h'=>.cons h (TupL.app r h')
theorem Jw{H:Hp}{a b:Addr}{o:HO}(h:H a=none)(e:H b=some o):a≠b:=fun z=>by rw[z,e] at h;cases h
theorem I21.nl{r i:Nat}{noted:List Int}{S:Sea}(I:I21 r i noted S):noted.length<=i+1:=by
 rcases I.z with z|⟨ds,z1,_,z2⟩
 ·rw[z.1];exact zrj _
 ·have h:=I.ol;rw[z2,zqx] at h;rw[z1,zrc];omega
end G
namespace K21
open PySem PySem.Spec PyProof.Rows L2 G
noncomputable def top(i:Nat):Stmt:=PySem.Challenge.pw_whistlebook_k21_season_made.main.body.getD i (.Pass ⟨0,0,0,0⟩)
structure Ad where
 zey:Addr
 zd0:Addr
 zd2:Addr
 zdx:Addr
 zdz:Addr
 zdy:Addr
 zeh:Addr
 zd8:Addr
 zd1:Addr
 zec:Addr
 zd7:Addr
 zd4:Addr
 zeo:Addr
 zeg:Addr
 zdw:Addr
 zd3:Addr
 zdr:Addr
 zdt:Addr
 zdu:Addr
 zdp:Addr
noncomputable abbrev ca(a:Ad):CA:=⟨a.zdp,a.zdu,a.zdt,a.zdr,a.zd0,a.zd2,a.zdx,a.zdz,a.zdy,a.zeh,a.zd8,a.zd1,a.zec,a.zd7,a.zd4,a.zeo,a.zeg,a.zdw,a.zd3⟩
structure Tx(K:Frag)(mg:Str->Option Value)(a:Ad):Prop where
 zen:Cls K a.zdr
 zfd:Y2 K a.zdr "rounds"
 ze3:Y2 K a.zdr "meetings"
 zef:Cls K a.zdt
 zet:Y2 K a.zdt "entries"
 zee:Cls K a.zdu
 zfm:Y2 K a.zdu "listed"
 zh0:Y2 K a.zdu "lists"
 zfv:Y2 K a.zdu "given"
 zhb:Y2 K a.zdu "gaps"
 zdq:Cls K a.zdp
 zf8:Y2 K a.zdp "length"
 zid:Y2 K a.zdp "rest"
 zex:Y2 K a.zdp "roster"
 ze4:Y2 K a.zdp "ledger"
 zfk:Y2 K a.zdp "absent"
 zgx:Y2 K a.zdp "sheets"
 zem:Y2 K a.zdp "sheet"
 zer:Y2 K a.zdp "standing"
 zhk:Tz K mg "NoSuchRound" a.zd1
 zjf:Tz K mg "OutOfRange" a.zd0
 zil:Tz K mg "TooManyMatches" a.zdy
 zjl:Tz K mg "SameClub" a.zeh
 zi5:Tz K mg "KnownReferee" a.zd2
 zhv:Tz K mg "TooManyReferees" a.zdx
 zih:Tz K mg "UnknownReferee" a.zdz
 zjg:Tz K mg "SeasonOver" a.zd7
 zjp:Tz K mg "DrawnUp" a.zeo
 zi8:Tz K mg "TooManyDeeds" a.zd3
 zjm:Tz K mg "NotDrawn" a.zeg
 zjh:Tz K mg "RoundOver" a.zec
 zjd:Tz K mg "AwayAlready" a.zd4
 zhi:Tz K mg "NothingToTakeBack" a.zdw
 zje:mg "max"=none
 zfz:mg "len"=none
 zh1:mg "tuple"=none
 zfr:mg "list"=none
 zfy:mg "enumerate"=none
 zgn:mg "range"=none
 zjj:mg "zip"=none
 zdv:mg "isinstance"=none
 zix:mg "int"=none
 zi0:mg "bool"=none
 zfb:mg "ValueError"=none
 zht:mg "BookError"=some (.ref a.zey)
 zhj:mg "OutOfRange"=some (.ref a.zd0)
 zit:mg "KnownReferee"=some (.ref a.zd2)
 zhn:mg "TooManyReferees"=some (.ref a.zdx)
 zhz:mg "UnknownReferee"=some (.ref a.zdz)
 zhw:mg "TooManyMatches"=some (.ref a.zdy)
 zji:mg "SameClub"=some (.ref a.zeh)
 zi7:mg "NoSuchMatch"=some (.ref a.zd8)
 zg9:mg "NoSuchRound"=some (.ref a.zd1)
 zhx:mg "RoundOver"=some (.ref a.zec)
 zhl:mg "SeasonOver"=some (.ref a.zd7)
 zi6:mg "AwayAlready"=some (.ref a.zd4)
 zjo:mg "DrawnUp"=some (.ref a.zeo)
 zjk:mg "NotDrawn"=some (.ref a.zeg)
 zha:mg "NothingToTakeBack"=some (.ref a.zdw)
 ziu:mg "TooManyDeeds"=some (.ref a.zd3)
 gc_Ledger:mg "Ledger"=some (.ref a.zdr)
 gc_Roster:mg "Roster"=some (.ref a.zdt)
 gc_Sheet:mg "Sheet"=some (.ref a.zdu)
 gc_Season:mg "Season"=some (.ref a.zdp)
 zhr:Du K a.zey
 ei:∀ r:Ref,r≠.noMatch->Lv K (r.cls (ca a))
 mB:∀ r:Ref,r≠.noMatch->PySem.W.mroIn K (r.cls (ca a)) (.ref a.zey)=some true
 kit:∀ r t:Ref,r≠.noMatch->PySem.W.kitOne K (.ref (r.cls (ca a))) (.ref (t.cls (ca a)))=some (decide (r=t))
 zjq:∀ r:Ref,r≠.noMatch->PySem.W.kitOne K (.ref (r.cls (ca a))) (.type "ValueError")=some true
 zfe:∃ t,mg "MOST_NUMBER"=some (.int 999 t)
 ze7:∃ t,mg "MOST_GRADE"=some (.int 9 t)
 ze5:∃ t,mg "MOST_CLUB"=some (.int 99 t)
 zes:∃ t,mg "MOST_REFEREES"=some (.int 30 t)
 zew:∃ t,mg "MOST_MATCHES"=some (.int 20 t)
 ze1:∃ t,mg "MOST_ROUNDS"=some (.int 60 t)
 zfh:∃ t,mg "MOST_REST"=some (.int 10 t)
 zfa:∃ t,mg "MOST_DEEDS"=some (.int 100 t)
end K21
set_option maxHeartbeats 64000000
namespace K21
open PySem PySem.Spec PyProof.Rows L2 G
local macro_rules | `(tactic| walk_at "rd")=>`(tactic| repeat (first|(refine⟨_,rfl,?_⟩)|(refine⟨_,_,rfl,rfl,?_⟩)|(refine And.intro (show CMul _ _ from Or.inr (And.intro (by decide) (by decide))) ?_)|(refine And.intro (show CMul _ _ from Or.inl (And.intro (by decide) (by decide))) ?_)|(refine And.intro (show CDiv _ _ from(And.intro (by decide) (by decide))) ?_)|(refine And.intro (show CPow _ _ from(And.intro (by decide) (And.intro (by decide) (by decide)))) ?_)|(refine And.intro (show (0:Int)<_ from(by decide)) ?_)))
local macro_rules | `(tactic| walk_at "if")=>`(tactic| dsimp only[W4,List.set])
local macro_rules | `(tactic| walk_at "ar")=>`(tactic| (intro _ _ _ _ h;first|(cases h;subst_vars;rfl)|repeat (first|(obtain⟨h1,_⟩:=h;subst h1;rfl)|(obtain⟨_,h⟩:=h))))
section
variable{P:Program}{w:World}{K:Frag}{mg:Str->Option Value}{base:Heap}{a:Ad}{f:Addr}{fd:FuncData}
noncomputable abbrev Vv:Stmt:=top 2
theorem S8:Zl ["number","club","ledger","rest","rested"] ["number","club","ledger","rest"] (Zj Vv):=fnS
theorem Md(F:Fun K "met_lately" "met_lately" Vv f fd)(T:Tx K mg a)(zea:Zt P w K mg base a.zdr "over" 1 ["self"] (O9 a.zdr))(zg7:Zt P w K mg base a.zdr "met" 1 ["self","number","club"] (Am a.zdr)):FnOk P w K mg base (CX1 P w) 2 f fd ["number","club","ledger","rest"] (Ja a.zdr):=by
 refine F.okX S8 ⋯ fun _ _ _ _ H _ Q E hr h=>?_;obtain⟨p,lr,ld,Rs,n,c,rest,rfl,LA,h⟩:=h;refine⟨_,(Zc (pS 4 S8.nd (Zu (Fh rfl) (by rfl) T.zje PyProof.Rows.boot_max (Za (Ym E4 (Ya (pv 2) T.zen zea (hr.mono ⋯) Zk) (pv 3)) (Za Zi Zd))))
 (Zf (Zp (U8 Tv (Xl (pv 2) T.zen zg7 (hr.mono ⋯) Zk (Za (pv 0) (Za (pv 1) Zd))) (pv 4) (Zs _))))),?_⟩
 obtain⟨⟨dx,hp⟩,_,_⟩:=id LA;refine⟨_,rfl,p,dx,_,rfl,hp,O8 ⋯ ⋯,p,lr,ld,Rs,rfl,LA,_,rfl,_,_,rfl,rfl,_,_,rfl,?_⟩;refine⟨_,rfl,p,dx,_,rfl,hp,O8 ⋯ ⋯,_,rfl,_,rfl,p,lr,ld,Rs,n,c,rfl,LA,fun H' s'=>⟨_,rfl,_,_,rfl,rfl,h H' s'⟩⟩
noncomputable abbrev Sr:Stmt:=top 3
theorem Xv:Zl ["referee","match","out","ledger","rest","number","grade","club","home","guest","asked","told"] ["referee","match","out","ledger","rest"] (Zj Sr):=fnS
theorem Hk(F:Fun K "reasons" "reasons" Sr f fd)(T:Tx K mg a)(zf4:Yg P w K mg base "met_lately" 2 ["number","club","ledger","rest"] (Ja a.zdr)):FnOk P w K mg base (CX1 P w) 3 f fd ["referee","match","out","ledger","rest"] (M7 K a.zdr):=by
 refine F.okX Xv ⋯ fun _ _ _ _ H _ Q E hr h=>?_;obtain⟨t1,t2,p,lr,ld,Rs,n,g,c,h,gu,d,rest,o,rfl,h1,h2,LA,hq⟩:=h;refine⟨_,(Zc (pS 5 Xv.nd (pI (iU K) (pv 0) Zi))
 (Zc (pS 6 Xv.nd (pI (iU K) (pv 0) Zi))
 (Zc (pS 7 Xv.nd (pI (iU K) (pv 0) Zi))
 (Zc (pS 8 Xv.nd (pI (iU K) (pv 1) Zi))
 (Zc (pS 9 Xv.nd (pI (iU K) (pv 1) Zi))
 (Zc (pS 10 Xv.nd (pI (iU K) (pv 1) Zi))
 (Zc (pS 11 Xv.nd (Z3 Zd))
 (Zc (Z6 (Uo (pv 2))
  (Zf (Xe (pv 11) Zx))
  Zr)
 (Zc (Z6 (Zn Tv (pv 10) (pv 6) (Zs _))
  (Zf (Xe (pv 11) Zx))
  Zr)
 (Zc (Z6 (PW.pt (Ur (Zn Xr (pv 7) (pv 8) (Zs _)) (V5 (Zn Xr (pv 7) (pv 9) (Zs _)))))
  (Zf (Xe (pv 11) Zx))
  Zr)
 (Zc (Z6 (PW.pt (Ur (Uo (pF zf4 hr (Za (pv 5) (Za (pv 8) (Za (pv 3) (Za (pv 4) Zd)))))) (V5 (Uo (pF zf4 hr (Za (pv 5) (Za (pv 9) (Za (pv 3) (Za (pv 4) Zd)))))))))
  (Zf (Xe (pv 11) Zx))
  Zr)
 (Zf (Zp (pv 11)))))))))))))),?_⟩
 show let y1:TS:=_;let y2:TS:=Z7 _ y1;let y3:TS:=Z7 _ y2;let y4:TS:=Z7 _ y3;let y5:TS:=Z7 _ y4;let y6:TS:=Z7 _ y5;let y7:TS:=Z7 _ y6;let y8:TS:=Z7 _ y7;let y9:TS:=Z7 _ y8;let y10:TS:=Z7 _ y9;let y11:TS:=Z7 _ y10;Z7 _ y11 _ _ _;intro y1 y2 y3 y4 y5 y6 y7 y8 y9 y10 y11;refine⟨_,rfl,t1,_,_,_,rfl,rfl,SqT.of h1,(show atI [V.int n,V.int g,V.int c] 0=some _ from rfl),_,rfl,t1,_,_,_,rfl,rfl,SqT.of h1,(show atI [V.int n,V.int g,V.int c] 1=some _ from rfl),_,rfl,t1,_,_,_,rfl,rfl,SqT.of h1,(show atI [V.int n,V.int g,V.int c] 2=some _ from rfl),?_⟩;refine⟨_,rfl,t2,_,_,_,rfl,rfl,SqT.of h2,(show atI [V.int h,V.int gu,V.int d] 0=some _ from rfl),_,rfl,t2,_,_,_,rfl,rfl,SqT.of h2,(show atI [V.int h,V.int gu,V.int d] 1=some _ from rfl),_,rfl,t2,_,_,_,rfl,rfl,SqT.of h2,(show atI [V.int h,V.int gu,V.int d] 2=some _ from rfl),?_⟩;refine⟨by show 0<=sizeLine;decide,fun l hl=>?_⟩;have s1:=Ze (o:=.lst []) hl;have q1:upd H l (.lst []) l=some (.lst (([]:List Str).map V.str)):=Zb;generalize upd H l (.lst [])=H1 at s1 q1;walk_at "if";have b1:=I9 o "away";have b2:=I9 (decide (g<d)) "grade";have b3:=I9 (decide (c=h)||decide (c=gu)) "club";refine Oi (b:=o) (H0:=H) (L7 fun Q q=>⟨_,rfl,_,rfl,q⟩) hl s1 q1 ⋯ rfl (fun H2 s2 q2 _=>?_);rw[List.nil_append] at q2;refine Oi (b:=decide (g<d)) (H0:=H) (L7 fun Q q=>⟨_,rfl,_,rfl,_,_,rfl,rfl,_,rfl,q⟩) hl s2 q2 ⋯ rfl (fun H3 s3 q3 _=>?_);refine Oi (b:=decide (c=h)||decide (c=gu)) (H0:=H) (L7 (D2 (fun Q q=>⟨_,rfl,_,rfl,rfl,_,rfl,O5▸q⟩) (fun Q q=>⟨_,rfl,_,rfl,rfl,_,rfl,O5▸q⟩))) hl s3 q3 (by rw[zq4];omega) rfl (fun H4 s4 q4 _=>?_);refine Oi (b:=K9 Rs n h rest||K9 Rs n gu rest) (H0:=H) (D8 (fun Q q=>⟨_,rfl,_,rfl,_,rfl,_,rfl,p,lr,ld,Rs,n,h,rest,rfl,LA.same s4,fun H5 s5=>⟨_,rfl,q H5 s5⟩⟩) (fun H5 s5 Q q=>⟨_,rfl,_,rfl,_,rfl,_,rfl,p,lr,ld,Rs,n,gu,rest,rfl,LA.same (s4.trans s5),fun H6 s6=>⟨_,rfl,q H6 s6⟩⟩)) hl s4 q4 (by rw[zq4,zq4];omega) rfl (fun H5 s5 q5 _=>?_);refine⟨_,rfl,hq l H5 ?_ s5 hl⟩;unfold L6;rw[q5,List.append_assoc,List.append_assoc]
noncomputable abbrev Xn:Stmt:=Zy (top 23) 0
theorem Rt:Zl ["self"] ["self"] (Zj Xn):=fnS
theorem Ru(F:Fun K "__init__" "Ledger.__init__" Xn f fd)(T:Tx K mg a):FnOk P w K mg base (CX1 P w) 1 f fd ["self"] (Gp a.zdr):=by
 refine F.okX Rt ⋯ fun _ _ _ _ H _ Q E hr h=>?_;obtain⟨p,dx,rfl,hp,h⟩:=h;refine⟨_,(Zc (Yi (K:=K) rfl (pv 0) (Z3 Zd) rfl)
 (Zf (Yi (K:=K) rfl (pv 0) K1 rfl))),?_⟩
 refine⟨by show 0<=sizeLine;decide,fun lr hlr=>?_⟩;have np:p≠lr:=Zh hp hlr;refine⟨_,rfl,p,a.zdr,dx,[],rfl,(by rw[Zg np];exact hp),T.zen,T.zfd,⋯,?_⟩;intro ld hld;have n1:ld≠p:=fun z=>by rw[z,Zb] at hld;cases hld
 have n2:ld≠lr:=fun z=>by rw[z,Zg (Ne.symm np),Zb] at hld;cases hld
 have hld0:H ld=none:=by rw[Zg n1,Zg n2] at hld;exact hld
 refine⟨_,rfl,p,a.zdr,dx,[("rounds",.ref lr)],rfl,(by rw[Zg (Ne.symm n1),Zb];rfl),T.zen,T.ze3,(by show 1<1000;decide),?_⟩;rw[zch];refine h lr ld _ ⟨⟨dx,Zb⟩,⟨[],?_,.nil⟩,⟨[],?_,fun n c=>rfl,zrj _⟩⟩ (fun b o e hb=>?_) hlr hld0 (Ne.symm n2)
 ·rw[Zg (Ne.symm np),Zg (Ne.symm n2),Zg (Ne.symm np),Zb]
 ·rw[Zg n1,Zb]
 ·rw[Zg hb,Zg (Zh e hld0),Zg hb,Zg (Zh e hlr)];exact e
noncomputable abbrev Wo:Stmt:=Zy (top 23) 1
theorem Yy:Zl ["self","rows","at","home","guest","grade","referee"] ["self","rows"] (Zj Wo):=fnS
theorem Pu(F:Fun K "write" "Ledger.write" Wo f fd)(T:Tx K mg a):FnOk P w K mg base (CX1 P w) 1 f fd ["self","rows"] (Jh a.zdr):=by
 refine F.okX Yy ⋯ fun _ _ _ _ H _ Q E hr h=>?_;obtain⟨p,lr,ld,Rs,b,ts,rs,rfl,LA,hb,nb,tl,hl,hl2,h⟩:=h;have hu:=Vp hr;refine⟨_,(Zc (Xe (Zm (K:=K) rfl (pv 0) rfl) (Xb (O4 (K:=K) rfl) (by rfl) T.zh1 PyProof.Rows.boot_tuple (Za (pv 1) Zd)))
 (Zc (pS 2 Yy.nd (Zu (cL K) (by rfl) T.zfz PySem.boot_len (Za (Zm (K:=K) rfl (pv 0) rfl) Zd)))
 (Zf (V6 PassesOwn.leaving rfl (Yw (K:=K) rfl (pv 1)) (Ui (K:=K) (n:=4) rfl rfl (Yd (pN 3 Yy.nd) (Yd (pN 4 Yy.nd) (Yd (pN 5 Yy.nd) (Yd (pN 6 Yy.nd) Ue)))))
  (Zf (Z6 (Zn R4 (pv 6) Xm (Zs _))
   (Zc (Si hu (Zm (K:=K) rfl (pv 0) rfl) (Yp (Za (pv 6) (Za (pv 3) Zd))) (pv 2) rfl)
   (Zf (Si hu (Zm (K:=K) rfl (pv 0) rfl) (Yp (Za (pv 6) (Za (pv 4) Zd))) (pv 2) rfl)))
   Zr)))))),?_⟩
 obtain⟨⟨dx,hp⟩,⟨rr,hlr,rl⟩,⟨kvs,hd,mt,kl⟩⟩:=LA;have hlen:ts.length=rs.length:=by rw[tl.length,zqx]
 have nrd:lr≠ld:=Yl hlr hd (by intro z;cases z);have nrp:p≠lr:=Yl hp hlr (by intro z;cases z);have npd:p≠ld:=Yl hp hd (by intro z;cases z);have nbd:b≠ld:=Yl hb hd (by intro z;cases z);refine⟨_,rfl,p,a.zdr,dx,_,_,rfl,hp,T.zen,T.zfd,Uy,lr,rr,rfl,hlr,_,rfl,b,ts,rfl,.inl ⟨SqL.of hb,fun t ht=>⟨rr,(by rw[Zg (Zh hlr ht)];exact hlr),Ux (by rw[rl.length];omega),?_⟩⟩⟩;have ntr:t≠lr:=Ne.symm (Zh hlr ht);have k1:∀ x o,H x=some o->x≠lr->upd (upd H t (.tup ts)) lr (.lst (rr++[.ref t])) x=some o:=fun x o e n=>by rw[Zg n,Zg (Zh e ht)];exact e
 have t1:∀ x xs,H x=some (.tup xs)->upd (upd H t (.tup ts)) lr (.lst (rr++[.ref t])) x=some (.tup xs):=fun x xs e=>k1 x _ e (Yl e hlr (by intro z;cases z));have r1:upd (upd H t (.tup ts)) lr (.lst (rr++[.ref t])) lr=some (.lst (rr++[.ref t])):=Zb;have rl1:Ta (upd (upd H t (.tup ts)) lr (.lst (rr++[.ref t]))) (rr++[.ref t]) (Rs++[rs]):=(rl.mono t1).snoc (by rw[Zg ntr,Zb]) (tl.mono t1);have tl1:=tl.mono t1;generalize upd (upd H t (.tup ts)) lr (.lst (rr++[.ref t]))=H1 at k1 t1 r1 rl1 tl1;have hp1:=k1 _ _ hp nrp;have hb1:=k1 _ _ hb nb;have hd1:=k1 _ _ hd (Ne.symm nrd);refine⟨_,rfl,p,a.zdr,dx,_,_,rfl,hp1,T.zen,T.zfd,Uy,lr,_,rfl,.inl (SqL.of r1),?_⟩;have hN:(((rr++[V.ref t]).length:Nat):Int)=((Rs.length+1:Nat):Int):=by rw[zq4,rl.length];rfl
 rw[hN];refine⟨_,rfl,b,rfl,⟨_,SqL.of hb1⟩,V7 (K:=K) (a:=b) (xs:=ts) (fun i σ H'=>(∃ v1 v2 v3 v4,σ=[some (.ref p),some (.ref b),some (.int ((Rs.length+1:Nat):Int)),v1,v2,v3,v4])/\(∀ x o,H1 x=some o->x≠ld->H' x=some o) /\
  ∃ kvs',H' ld=some (.dT kvs')/\K8 kvs' (Qz Rs rs i)/\kvs'.length<=2*(tot Rs+i)) ⟨⟨_,_,_,_,rfl⟩,fun _ _ e _=>e,kvs,hd1,by rw[Fy];exact mt,by omega⟩ (fun i σ H' _ ⟨_,k,_⟩=>SqL.of (k _ _ hb1 nbd)) ?_ ?_⟩
 ·rintro i x σ H' hx ⟨⟨v1,v2,v3,v4,rfl⟩,k2,kvs',hd2,mt2,kl2⟩;obtain⟨tr,r,rfl,hr3,htr⟩:=za2 tl1 hx;have hi:i<rs.length:=(zqz.mp hr3).1;have htr2:=k2 _ _ htr (Yl htr hd1 (by intro z;cases z));refine⟨tr,_,rfl,SqT.of htr2,rfl,_,_,rfl,_,_,rfl,_,_,rfl,_,_,rfl,rfl,?_⟩;refine⟨_,rfl,rfl,_,rfl,?_⟩;cases hw:r.w with
  | none =>
    refine iteF ?_;exact⟨⟨_,_,_,_,rfl⟩,k2,kvs',hd2,by rw[Fz hr3 hw];exact mt2,by omega⟩
  | some w =>
    refine iteT ?_;have hp2:=k2 _ _ hp1 npd;refine⟨_,rfl,_,rfl,p,a.zdr,dx,_,_,rfl,hp2,T.zen,T.ze3,T2,_,rfl,_,rfl,sz2,fun t2 ht2=>⟨ld,_,rfl,DPut.t (k:=[inl w,inl r.h]) (by rw[Zg (Zh hd2 ht2)];exact hd2) Zb ((Nat.lt_trans (zr8 (show _<=200000 by omega) ⋯) Uz)),?_⟩⟩;have k3:∀ x o,H1 x=some o->x≠ld->upd (upd H' t2 (.tup [oV (some w),.int r.h])) ld (.dT (putK kvs' [inl w,inl r.h] (.int ((Rs.length+1:Nat):Int)))) x=some o:=fun x o e n=>by
     have:=k2 x o e n;rw[Zg n,Zg (Zh this ht2)];exact this
    have hd3:upd (upd H' t2 (.tup [oV (some w),.int r.h])) ld (.dT (putK kvs' [inl w,inl r.h] (.int ((Rs.length+1:Nat):Int)))) ld=some (.dT (putK kvs' [inl w,inl r.h] (.int ((Rs.length+1:Nat):Int)))):=Zb;have l3:=Xs kvs' ([inl w,inl r.h]:List Key) (.int ((Rs.length+1:Nat):Int));generalize upd (upd H' t2 (.tup [oV (some w),.int r.h])) ld (.dT (putK kvs' [inl w,inl r.h] (.int ((Rs.length+1:Nat):Int))))=H3 at k3 hd3;have hp3:=k3 _ _ hp1 npd;refine⟨_,rfl,_,rfl,p,a.zdr,dx,_,_,rfl,hp3,T.zen,T.ze3,T2,_,rfl,_,rfl,sz2,fun t4 ht4=>⟨ld,_,rfl,DPut.t (k:=[inl w,inl r.g]) (by rw[Zg (Zh hd3 ht4)];exact hd3) Zb ((Nat.lt_trans (zr8 (show _<=200000 by omega) ⋯) Uz)),?_⟩⟩;refine⟨⟨_,_,_,_,rfl⟩,fun x o e n=>?_,_,Zb,?_,?_⟩
    ·have:=k3 x o e n;rw[Zg n,Zg (Zh this ht4)];exact this
    ·rw[<- Ea hr3 hw];exact(mt2.put w r.h _ (Nat.succ_pos _)).put w r.g _ (Nat.succ_pos _)
    ·have:=Xs (putK kvs' ([inl w,inl r.h]:List Key) (.int ((Rs.length+1:Nat):Int))) ([inl w,inl r.g]:List Key) (.int ((Rs.length+1:Nat):Int));omega
 ·rintro σ H' ⟨⟨v1,v2,v3,v4,rfl⟩,k2,kvs',hd2,mt2,kl2⟩;rw[hlen] at mt2 kl2;rw[D5] at mt2;refine h H' ⟨⟨dx,k2 _ _ hp1 npd⟩,⟨_,k2 _ _ r1 nrd,rl1.mono fun x xs e=>k2 _ _ e (Yl e hd1 (by intro z;cases z))⟩,kvs',hd2,mt2,by rw[D4];exact kl2⟩ fun x o e n1 n2=>k2 x o (k1 x o e n1) n2
noncomputable abbrev Va:Stmt:=Zy (top 23) 2
theorem Np:Zl ["self"] ["self"] (Zj Va):=fnS
theorem Nq(F:Fun K "over" "Ledger.over" Va f fd)(T:Tx K mg a):FnOk P w K mg base (CX1 P w) 1 f fd ["self"] (O9 a.zdr):=by
 refine F.okX Np ⋯ fun _ _ _ _ H _ Q E hr h=>?_;obtain⟨p,lr,ld,Rs,rfl,LA,h⟩:=h;refine⟨_,(Zf (Zp (Zu (cL K) (by rfl) T.zfz PySem.boot_len (Za (Zm (K:=K) rfl (pv 0) rfl) Zd)))),?_⟩;obtain⟨⟨dx,hp⟩,⟨rr,hlr,rl⟩,_⟩:=LA;refine⟨_,rfl,p,a.zdr,dx,_,_,rfl,hp,T.zen,T.zfd,Uy,lr,_,rfl,.inl (SqL.of hlr),?_⟩;rw[rl.length];exact h
noncomputable abbrev Wq:Stmt:=Zy (top 23) 3
theorem Pw:Zl ["self","at"] ["self","at"] (Zj Wq):=fnS
theorem Px(F:Fun K "facts" "Ledger.facts" Wq f fd)(T:Tx K mg a):FnOk P w K mg base (CX1 P w) 1 f fd ["self","at"] (Gq a.zdr a.zd1):=by
 refine F.okX Pw ⋯ fun _ _ _ _ H _ Q E hr h=>?_;obtain⟨p,lr,ld,Rs,i,rfl,LA,si,h1,h2⟩:=h;refine⟨_,(Zc (Z6 (PW.pt (Ur (Zn Pe (pv 1) Zi (Zs _)) (V5 (Zn Tv (pv 1) (Zu (cL K) (by rfl) T.zfz PySem.boot_len (Za (Zm (K:=K) rfl (pv 0) rfl) Zd)) (Zs _)))))
  (Zf (Yv Yu rfl T.zhk rfl (Za (Wi (Zw (Xd ⋯) (Zw (Wb (pv 1)) (Zw (Xd ⋯) Wh))) ⋯) Zd)))
  Zr)
 (Zf (Zp (Xb (Y3 (K:=K) rfl) (by rfl) T.zfr PyProof.Rows.boot_list (Za (pI (iL K) (Zm (K:=K) rfl (pv 0) rfl) (Ym E4 (pv 1) Zi)) Zd))))),?_⟩
 obtain⟨⟨dx,hp⟩,⟨rr,hlr,rl⟩,_⟩:=LA;refine⟨_,rfl,_,_,rfl,rfl,_,rfl,?_⟩;refine itD (fun hc=>?_) (fun hc=>?_)
 ·refine iteT ?_;exact⟨_,rfl,.inl ⟨_,rfl,si⟩,fun z=>⟨sz1,h1 (.inl hc)⟩⟩
 refine⟨_,rfl,_,rfl,p,a.zdr,dx,_,_,rfl,hp,T.zen,T.zfd,Uy,lr,_,rfl,.inl (SqL.of hlr),_,_,rfl,rfl,_,rfl,?_⟩;rw[rl.length];refine itD (fun hc2=>?_) (fun hc2=>?_)
 ·exact⟨_,rfl,.inl ⟨_,rfl,si⟩,fun z=>⟨sz1,h1 (.inr hc2)⟩⟩
 obtain⟨k,rfl⟩:∃ k:Nat,i=(k:Int)+1:=⟨(i-1).toNat,by omega⟩;have hk:k<Rs.length:=by omega
 obtain⟨t,xs,e1,e2,e3⟩:=rl.getR (zqy hk);refine⟨_,rfl,p,a.zdr,dx,_,_,rfl,hp,T.zen,T.zfd,Uy,_,rfl,_,_,rfl,rfl,lr,_,_,_,rfl,rfl,SqL.of hlr,(show atI rr ((k:Int)+1-1)=some (.ref t) by rw[show (k:Int)+1-1=(k:Int) by omega];exact Y6 e1),t,xs,rfl,.inr (SqT.of e2),fun l hl=>h2 k _ rfl (zqy hk) l xs hl e3⟩
noncomputable abbrev Vw:Stmt:=Zy (top 23) 4
theorem Me:Zl ["self","number","club"] ["self","number","club"] (Zj Vw):=fnS
theorem Mf(F:Fun K "met" "Ledger.met" Vw f fd)(T:Tx K mg a):FnOk P w K mg base (CX1 P w) 1 f fd ["self","number","club"] (Am a.zdr):=by
 refine F.okX Me ⋯ fun _ _ _ _ H _ Q E hr h=>?_;obtain⟨p,lr,ld,Rs,n,c,rfl,LA,h⟩:=h;have hu:=Vp hr;refine⟨_,(Zf (Zp (Dl hu (Zm (K:=K) rfl (pv 0) rfl) (Yp (Za (pv 1) (Za (pv 2) Zd))) Zi ⟨rfl,rfl,rfl,rfl⟩))),?_⟩;obtain⟨⟨dx,hp⟩,_,⟨kvs,hd,mt,kl⟩⟩:=LA;refine⟨_,rfl,p,a.zdr,dx,_,_,rfl,hp,T.zen,T.ze3,T2,ld,rfl,.inr ⟨kvs,.inl hd⟩,_,rfl,_,rfl,sz2,fun t ht=>⟨_,DGet.t (k:=[inl n,inl c]) (by rw[Zg (Zh hd ht)];exact hd) Zb,?_⟩⟩;have e:((valV kvs ([inl n,inl c]:List Key)).getD (.int 0))=.int (metS Rs n c:Nat):=by
  rw[mt n c];split
  ·rename_i z;rw[z];rfl
  ·rfl
 rw[e];exact h _ (Ze ht)
noncomputable abbrev Vb:Stmt:=top 25
theorem Nr:Zl ["value","least","most"] ["value","least","most"] (Zj Vb):=fnS
theorem Nt(F:Fun K "check_range" "check_range" Vb f fd)(T:Tx K mg a):FnOk P w K mg base (CX1 P w) 1 f fd ["value","least","most"] (Qc a.zd0):=by
 refine F.okX Nr ⋯ fun _ _ _ _ H _ Q E hr h=>?_;obtain⟨v,lo,m,rfl,s1,s2,s3,h⟩:=h;refine⟨_,(Zf (Z6 (PW.pt (Ur (Zn Pe (pv 0) (pv 1) (Zs _)) (V5 (Zn Tv (pv 0) (pv 2) (Zs _)))))
  (Zf (Yv Yu rfl T.zjf rfl (Za (Wi (Zw (Wb (pv 0)) (Zw (Xd ⋯) (Zw (Wb (pv 1)) (Zw (Xd ⋯) (Zw (Wb (pv 2)) Wh))))) ⋯) Zd)))
  Zr)),?_⟩
 walk_at "rd";refine itD (fun h1=>?_) (fun h1=>?_)
 ·rw[if_pos (Or.inl h1)] at h;refine iteT ?_;walk_at "rd";refine⟨.inl ⟨_,rfl,s1⟩,_,rfl,.inl ⟨_,rfl,s2⟩,_,rfl,.inl ⟨_,rfl,s3⟩,fun z=>⟨sz1,h⟩⟩
 ·walk_at "rd";refine itD (fun h2=>?_) (fun h2=>?_)
  ·rw[if_pos (Or.inr h2)] at h;walk_at "rd";refine⟨.inl ⟨_,rfl,s1⟩,_,rfl,.inl ⟨_,rfl,s2⟩,_,rfl,.inl ⟨_,rfl,s3⟩,fun z=>⟨sz1,h⟩⟩
  ·rw[if_neg (fun z=>z.elim h1 h2)] at h;exact h
noncomputable abbrev Vc:Stmt:=top 35
theorem Sb:Zl ["matches","count"] ["matches"] (Zj Vc):=fnS
theorem Nu(F:Fun K "check_count" "check_count" Vc f fd)(T:Tx K mg a):FnOk P w K mg base (CX1 P w) 1 f fd ["matches"] (Jp K (ca a)):=by
 refine F.okX Sb ⋯ fun _ _ _ _ H _ Q E hr h=>?_;obtain⟨b,ts,rfl,hs,hl,h1,h2⟩:=h;refine⟨_,(Zc (pS 1 Sb.nd (Zu (cL K) (by rfl) T.zfz PySem.boot_len (Za (pv 0) Zd)))
 (Zf (Z6 (Zn Tv (pv 1) (Y7 rfl T.zew) (Zs _))
  (Zf (Yv Yu rfl T.zil rfl (Za (Wi (Zw (Wb (pv 1)) (Zw (Xd ⋯) (Zw (Wb (Y7 rfl T.zew)) Wh))) ⋯) Zd)))
  Zr))),?_⟩
 refine⟨_,rfl,b,_,rfl,.inl hs,?_⟩;walk_at "rd";refine itD (fun hc=>?_) (fun hc=>?_)
 ·walk_at "rd";exact⟨.inl ⟨_,rfl,Zz ⋯ ⋯⟩,.inl ⟨_,rfl,Z5 ⋯⟩,fun z=>⟨sz1,h1 ⋯⟩⟩
 ·exact h2 ⋯
noncomputable abbrev Wr:Stmt:=top 36
theorem X6:Zl ["matches","home","guest","grade"] ["matches"] (Zj Wr):=fnS
theorem Py(F:Fun K "check_ranges" "check_ranges" Wr f fd)(T:Tx K mg a)(zd6:Yg P w K mg base "check_range" 1 ["value","least","most"] (Qc a.zd0)):FnOk P w K mg base (CX1 P w) 2 f fd ["matches"] (Lh K (ca a)):=by
 refine F.okX X6 ⋯ fun _ _ _ _ H _ Q E hr h=>?_;obtain⟨b,ts,Ms,rfl,hs,tl,sm,h1,h2⟩:=h;refine⟨_,(Zf (V6 PassesOwn.leaving rfl (Yw (K:=K) rfl (pv 0)) (Ui (K:=K) (n:=3) rfl rfl (Yd (pN 1 X6.nd) (Yd (pN 2 X6.nd) (Yd (pN 3 X6.nd) Ue))))
  (Zc (Z4 (pF zd6 hr (Za (pv 1) (Za Zi (Za (Y7 rfl T.ze5) Zd)))))
  (Zc (Z4 (pF zd6 hr (Za (pv 2) (Za Zi (Za (Y7 rfl T.ze5) Zd)))))
  (Zf (Z4 (pF zd6 hr (Za (pv 3) (Za Zi (Za (Y7 rfl T.ze7) Zd)))))))))),?_⟩
 have hlen:ts.length=Ms.length:=by rw[tl.length,zqx]
 let jv1:Nat->L2.St->Hp->Prop:=fun i σ H'=>H'=H/\(∃ v1 v2 v3,σ=[some (.ref b),v1,v2,v3])/\∀ m∈Ms.take i,¬ badM m
 refine⟨_,rfl,b,rfl,⟨_,hs⟩,V7 (K:=K) (a:=b) (xs:=ts) jv1 ⟨rfl,⟨_,_,_,rfl⟩,by simp⟩ (fun i σ H' _ ⟨e,_⟩=>e▸hs) ?_ ?_⟩
 ·rintro i x σ H' hx ⟨rfl,⟨v1,v2,v3,rfl⟩,hi⟩;obtain⟨t,m,rfl,hm,ht⟩:=D9 tl hx;have hmem:=zq9 hm;obtain⟨s1,s2,s3⟩:=sm m hmem;have bad:badM m->E (.ref a.zd0) none H':=fun hb=>h1 ⟨m,hmem,hb⟩;refine⟨t,_,rfl,SqT.of ht,rfl,_,_,rfl,_,_,rfl,_,_,rfl,rfl,?_⟩;refine⟨_,rfl,_,1,99,rfl,s1,Z5 ⋯,Z5 ⋯,?_⟩;refine K2 (fun b1=>bad (by unfold badM;omega)) (fun b1=>?_);refine⟨_,rfl,_,1,99,rfl,s2,Z5 ⋯,Z5 ⋯,?_⟩;refine K2 (fun b2=>bad (by unfold badM;omega)) (fun b2=>?_);refine⟨_,rfl,_,1,9,rfl,s3,Z5 ⋯,Z5 ⋯,?_⟩;refine K2 (fun b3=>bad (by unfold badM;omega)) (fun b3=>?_);exact⟨rfl,⟨_,_,_,rfl⟩,Lg hm hi (by unfold badM;omega)⟩
 ·rintro σ H' ⟨rfl,⟨v1,v2,v3,rfl⟩,hi⟩;rw[hlen,zrm] at hi;exact h2 fun ⟨m,hm,hb⟩=>hi m hm hb
noncomputable abbrev Vd:Stmt:=top 37
theorem Ws:Zl ["matches","home","guest","grade"] ["matches"] (Zj Vd):=fnS
theorem Nv(F:Fun K "check_clubs" "check_clubs" Vd f fd)(T:Tx K mg a):FnOk P w K mg base (CX1 P w) 1 f fd ["matches"] (Jq K (ca a)):=by
 refine F.okX Ws ⋯ fun _ _ _ _ H _ Q E hr h=>?_;obtain⟨b,ts,Ms,rfl,hs,tl,sm,h1,h2⟩:=h;refine⟨_,(Zf (V6 PassesOwn.leaving rfl (Yw (K:=K) rfl (pv 0)) (Ui (K:=K) (n:=3) rfl rfl (Yd (pN 1 Ws.nd) (Yd (pN 2 Ws.nd) (Yd (pN 3 Ws.nd) Ue))))
  (Zf (Z6 (Zn Xr (pv 1) (pv 2) (Zs _))
   (Zf (Yv Yu rfl T.zjl rfl (Za (Wi (Zw (Xd ⋯) (Zw (Wb (pv 1)) (Zw (Xd ⋯) Wh))) ⋯) Zd)))
   Zr)))),?_⟩
 have hlen:ts.length=Ms.length:=by rw[tl.length,zqx]
 let jv2:Nat->L2.St->Hp->Prop:=fun i σ H'=>H'=H/\(∃ v1 v2 v3,σ=[some (.ref b),v1,v2,v3])/\∀ m∈Ms.take i,¬ (m.1=m.2.1)
 refine⟨_,rfl,b,rfl,⟨_,hs⟩,V7 (K:=K) (a:=b) (xs:=ts) jv2 ⟨rfl,⟨_,_,_,rfl⟩,by simp⟩ (fun i σ H' _ ⟨e,_⟩=>e▸hs) ?_ ?_⟩
 ·rintro i x σ H' hx ⟨rfl,⟨v1,v2,v3,rfl⟩,hi⟩;obtain⟨t,m,rfl,hm,ht⟩:=D9 tl hx;have hmem:=zq9 hm;obtain⟨s1,s2,s3⟩:=sm m hmem;refine⟨t,_,rfl,SqT.of ht,rfl,_,_,rfl,_,_,rfl,_,_,rfl,rfl,?_⟩;refine⟨_,rfl,_,rfl,rfl,_,rfl,?_⟩;refine itV (fun he=>?_) (fun he=>?_)
  ·exact⟨_,rfl,.inl ⟨_,rfl,s1⟩,fun z=>⟨sz1,h1 ⟨m,hmem,he⟩⟩⟩
  ·exact⟨rfl,⟨_,_,_,rfl⟩,Lg (p:=fun m=>m.1=m.2.1) hm hi he⟩
 ·rintro σ H' ⟨rfl,⟨v1,v2,v3,rfl⟩,hi⟩;rw[hlen,zrm] at hi;exact h2 fun ⟨m,hm,hb⟩=>hi m hm hb
noncomputable abbrev Ss:Stmt:=top 38
theorem Hl:Zl ["matches"] ["matches"] (Zj Ss):=fnS
theorem Hm(F:Fun K "checked" "checked" Ss f fd)(T:Tx K mg a)(zgv:Yg P w K mg base "check_count" 1 ["matches"] (Jp K (ca a)))(zgc:Yg P w K mg base "check_ranges" 2 ["matches"] (Lh K (ca a)))(zgp:Yg P w K mg base "check_clubs" 1 ["matches"] (Jq K (ca a))):FnOk P w K mg base (CX1 P w) 3 f fd ["matches"] (Nj K (ca a)):=by
 refine F.okX Hl ⋯ fun _ _ _ _ H _ Q E hr h=>?_;obtain⟨b,ts,Ms,rfl,hs,tl,sm,hl,h1,h2,h3,h4⟩:=h;refine⟨_,(Zc (Z4 (pF zgv hr (Za (pv 0) Zd)))
 (Zc (Z4 (pF zgc hr (Za (pv 0) Zd)))
 (Zc (Z4 (pF zgp hr (Za (pv 0) Zd)))
 (Zf (Zp (Xb (Y3 (K:=K) rfl) (by rfl) T.zfr PyProof.Rows.boot_list (Za (pv 0) Zd))))))),?_⟩
 have hlen:ts.length=Ms.length:=by rw[tl.length,zqx]
 refine⟨_,rfl,b,ts,rfl,hs,by omega,fun hc=>h1 ⋯,fun hc=>?_⟩;refine⟨_,rfl,b,ts,Ms,rfl,hs,tl,sm,fun hb=>h2 ⋯ hb,fun hb=>?_⟩;refine⟨_,rfl,b,ts,Ms,rfl,hs,tl,sm,fun hb2=>h3 ⋯ hb hb2,fun hb2=>?_⟩;exact⟨_,rfl,b,ts,rfl,.inl hs,h4 ⋯ hb hb2⟩
noncomputable abbrev Xo:Stmt:=Zy (top 40) 0
theorem Rv:Zl ["self"] ["self"] (Zj Xo):=fnS
theorem Rw(F:Fun K "__init__" "Roster.__init__" Xo f fd)(T:Tx K mg a):FnOk P w K mg base (CX1 P w) 1 f fd ["self"] (Gw (ca a)):=by
 refine F.okX Rv ⋯ fun _ _ _ _ H _ Q E hr h=>?_;obtain⟨p,dx,rfl,hp,h⟩:=h;refine⟨_,(Zf (Yi (K:=K) rfl (pv 0) K0 rfl)),?_⟩;intro d hd;exact⟨_,rfl,p,a.zdt,dx,[],rfl,(by rw[Zg (Zh hp hd)];exact hp),T.zef,T.zet,⋯,h d hd⟩
noncomputable abbrev Xg:Stmt:=Zy (top 40) 1
theorem Sx:Zl ["self","number","grade","club"] ["self","number","grade","club"] (Zj Xg):=fnS
theorem Sy(F:Fun K "check_new" "Roster.check_new" Xg f fd)(T:Tx K mg a)(zd6:Yg P w K mg base "check_range" 1 ["value","least","most"] (Qc a.zd0)):FnOk P w K mg base (CX1 P w) 2 f fd ["self","number","grade","club"] (Rl (ca a)):=by
 refine F.okX Sx ⋯ fun _ _ _ _ H _ Q E hr h=>?_;obtain⟨p,d,R,n,g,c,rfl,RA,sm,h⟩:=h;have hu:=Vp hr;refine⟨_,(Zc (Z4 (pF zd6 hr (Za (pv 1) (Za Zi (Za (Y7 rfl T.zfe) Zd)))))
 (Zc (Z4 (pF zd6 hr (Za (pv 2) (Za Zi (Za (Y7 rfl T.ze7) Zd)))))
 (Zc (Z4 (pF zd6 hr (Za (pv 3) (Za Zi (Za (Y7 rfl T.ze5) Zd)))))
 (Zc (Z6 (Ra (Lp hu (pv 1) (Zm (K:=K) rfl (pv 0) rfl)))
  (Zf (Yv Yu rfl T.zi5 rfl (Za (Wi (Zw (Xd ⋯) (Zw (Wb (pv 1)) (Zw (Xd ⋯) Wh))) ⋯) Zd)))
  Zr)
 (Zf (Z6 (Zn Ac (Zu Fu (by rfl) T.zfz PySem.boot_len (Za (Zm (K:=K) rfl (pv 0) rfl) Zd)) (Y7 rfl T.zes) (Zs _))
  (Zf (Yv Yu rfl T.zhv rfl (Za (Wi (Zw (Xd ⋯) (Zw (Wb (Y7 rfl T.zes)) (Zw (Xd ⋯) Wh))) ⋯) Zd)))
  Zr)))))),?_⟩
 obtain⟨sn,sg,sc⟩:=sm;obtain⟨⟨dx,kvs,hp,hd,en⟩,nd⟩:=id RA;have bad:∀ {A B:Prop},(badI n g c->(if badI n g c then A else B)->A):=fun hb z=>by rw[if_pos hb] at z;exact z
 refine⟨_,rfl,n,1,999,rfl,sn,Z5 ⋯,Z5 ⋯,?_⟩;refine K2 (fun b1=>bad (by unfold badI;omega) h) (fun b1=>?_);refine⟨_,rfl,g,1,9,rfl,sg,Z5 ⋯,Z5 ⋯,?_⟩;refine K2 (fun b2=>bad (by unfold badI;omega) h) (fun b2=>?_);refine⟨_,rfl,c,1,99,rfl,sc,Z5 ⋯,Z5 ⋯,?_⟩;refine K2 (fun b3=>bad (by unfold badI;omega) h) (fun b3=>?_);rw[if_neg (by unfold badI;omega)] at h;refine⟨_,rfl,_,rfl,p,a.zdt,dx,_,_,rfl,hp,T.zef,T.zet,Wd,d,_,rfl,DGet.k (k:=inl n) hd,_,rfl,?_⟩;rw[en.isSome nd];refine itD (fun hn=>?_) (fun hn=>?_)
 ·rw[if_pos hn] at h;exact⟨_,rfl,.inl ⟨_,rfl,sn⟩,fun z=>⟨sz1,h⟩⟩
 rw[if_neg hn] at h;refine⟨_,rfl,p,a.zdt,dx,_,_,rfl,hp,T.zef,T.zet,Wd,d,_,rfl,hd,_,_,rfl,rfl,_,rfl,?_⟩;rw[en.length];refine itD (fun hz=>?_) (fun hz=>?_)
 ·rw[if_pos ⋯] at h;exact⟨.inl ⟨_,rfl,Z5 ⋯⟩,fun z=>⟨sz1,h⟩⟩
 rw[if_neg ⋯] at h;exact h
noncomputable abbrev Y0:Stmt:=Zy (top 40) 2
theorem Tp:Zl ["self","number"] ["self","number"] (Zj Y0):=fnS
theorem Tq(F:Fun K "check_known" "Roster.check_known" Y0 f fd)(T:Tx K mg a):FnOk P w K mg base (CX1 P w) 1 f fd ["self","number"] (Tb (ca a)):=by
 refine F.okX Tp ⋯ fun _ _ _ _ H _ Q E hr h=>?_;obtain⟨p,d,R,n,rfl,RA,sn,h⟩:=h;have hu:=Vp hr;refine⟨_,(Zf (Z6 (Ra (Qu hu (pv 1) (Zm (K:=K) rfl (pv 0) rfl)))
  (Zf (Yv Yu rfl T.zih rfl (Za (Wi (Zw (Xd ⋯) (Zw (Wb (pv 1)) (Zw (Xd ⋯) Wh))) ⋯) Zd)))
  Zr)),?_⟩
 obtain⟨⟨dx,kvs,hp,hd,en⟩,nd⟩:=id RA;refine⟨_,rfl,_,rfl,p,a.zdt,dx,_,_,rfl,hp,T.zef,T.zet,Wd,d,_,rfl,DGet.k (k:=inl n) hd,_,rfl,?_⟩;rw[en.isSome nd];by_cases hn:n∈R.map (·.1)
 ·rw[zq2 hn];rw[if_pos hn] at h;exact iteF h
 ·rw[zq5 hn];rw[if_neg hn] at h;exact iteT ⟨_,rfl,.inl ⟨_,rfl,sn⟩,fun z=>⟨sz1,h⟩⟩
noncomputable abbrev Vx:Stmt:=Zy (top 40) 3
theorem Mg:Zl ["self","number","grade","club"] ["self","number","grade","club"] (Zj Vx):=fnS
theorem Mh(F:Fun K "add" "Roster.add" Vx f fd)(T:Tx K mg a)(zek:Zt P w K mg base a.zdt "check_new" 2 ["self","number","grade","club"] (Rl (ca a))):FnOk P w K mg base (CX1 P w) 3 f fd ["self","number","grade","club"] (Cp (ca a)):=by
 refine F.okX Mg ⋯ fun _ _ _ _ H _ Q E hr h=>?_;obtain⟨p,d,R,n,g,c,rfl,RA,sm,hl,h⟩:=h;have hu:=Vp hr;refine⟨_,(Zc (Z4 (Xl (pv 0) T.zef zek (hr.mono ⋯) Zk (Za (pv 1) (Za (pv 2) (Za (pv 3) Zd)))))
 (Zf (Si hu (Zm (K:=K) rfl (pv 0) rfl) (pv 1) (Yp (Za (pv 2) (Za (pv 3) Zd))) rfl))),?_⟩
 obtain⟨⟨dx,kvs,hp,hd,en⟩,nd⟩:=id RA;refine⟨_,rfl,p,dx,_,rfl,hp,Yt.no ⋯,_,rfl,_,rfl,_,rfl,p,d,R,n,g,c,rfl,RA,sm,?_⟩;refine it2 h (fun _ z=>z) fun hb h=>it2 h (fun _ z=>z) fun hn h=>it2 h (fun _ z=>z) fun hz h=>?_;refine⟨_,rfl,_,rfl,sz2,fun t ht=>?_⟩;have ntp:p≠t:=Zh hp ht;have ntd:d≠t:=Zh hd ht;have npd:p≠d:=Yl hp hd (by intro z;cases z);refine⟨_,rfl,p,a.zdt,dx,_,_,rfl,(by rw[Zg ntp];exact hp),T.zef,T.zet,Wd,_,rfl,d,_,rfl,DPut.k (k:=inl n) (by rw[Zg ntd];exact hd) (Ux (by rw[en.length];exact hl)),?_⟩;rw[Eh (en.val_none hn)];refine h _ ⟨⟨dx,_,(by rw[Zg npd,Zg ntp];exact hp),Zb,?_⟩,?_⟩ fun b o e hb=>(by rw[Zg hb,Zg (Zh e ht)];exact e)
 ·refine Wc.snoc (by rw[Zg (Ne.symm ntd)];exact Zb) (en.mono fun b xs e=>?_);rw[Zg (Yl e hd (by intro z;cases z)),Zg (Zh e ht)];exact e
 ·rw[zre];exact Lu nd hn
noncomputable abbrev X7:Stmt:=Zy (top 40) 4
theorem Q7:Zl ["self","number"] ["self","number"] (Zj X7):=fnS
theorem Q8(F:Fun K "strike" "Roster.strike" X7 f fd)(T:Tx K mg a):FnOk P w K mg base (CX1 P w) 1 f fd ["self","number"] (Jd (ca a)):=by
 refine F.okX Q7 ⋯ fun _ _ _ _ H _ Q E hr h=>?_;obtain⟨p,d,R,n,g,c,rfl,RA,h⟩:=h;refine⟨_,(Zf (Z4 (Dm (Zm (K:=K) rfl (pv 0) rfl) (pv 1) ⟨rfl,rfl,rfl,rfl⟩))),?_⟩;obtain⟨⟨dx,kvs,hp,hd,en⟩,nd⟩:=id RA;have npd:p≠d:=Yl hp hd (by intro z;cases z);obtain⟨t,e1,e2⟩:=en.val_some nd (show (n,g,c)∈R++[(n,g,c)] by simp);have hn:n∉R.map (·.1):=by
  rw[zre,List.nodup_append] at nd;exact fun z=>nd.2.2 n z n (by simp) rfl
 refine⟨_,rfl,p,a.zdt,dx,_,_,rfl,hp,T.zef,T.zet,Wd,d,rfl,.inl ⟨kvs,.inl hd⟩,_,rfl,kvs,inl n,_,hd,rfl,e1,?_⟩;refine h _ ⟨⟨dx,_,(by rw[Zg npd];exact hp),Zb,(en.unsnoc hn).mono fun b xs e=>?_⟩,?_⟩ fun b o e hb=>(by rw[Zg hb];exact e)
 ·rw[Zg (Yl e hd (by intro z;cases z))];exact e
 ·rw[zre,List.nodup_append] at nd;exact nd.1
noncomputable abbrev Xx:Stmt:=Zy (top 40) 6
theorem Qe:Zl ["self"] ["self"] (Zj Xx):=fnS
theorem Qf(F:Fun K "numbers" "Roster.numbers" Xx f fd)(T:Tx K mg a):FnOk P w K mg base (CX1 P w) 1 f fd ["self"] (Rm (ca a)):=by
 refine F.okX Qe ⋯ fun _ _ _ _ H _ Q E hr h=>?_;obtain⟨p,d,R,rfl,RA,h⟩:=h;refine⟨_,(Zf (Zp (Xb (Iz rfl) (by rfl) T.zfr PyProof.Rows.boot_list (Za (Zm (K:=K) rfl (pv 0) rfl) Zd)))),?_⟩;obtain⟨⟨dx,kvs,hp,hd,en⟩,nd⟩:=id RA;refine⟨_,rfl,p,a.zdt,dx,_,_,rfl,hp,T.zef,T.zet,Wd,d,kvs,rfl,.inl hd,fun l hl=>?_⟩;rw[en.keys];exact h l hl
noncomputable abbrev Wt:Stmt:=Zy (top 40) 7
theorem Pz:Zl ["self","number"] ["self","number"] (Zj Wt):=fnS
theorem P0(F:Fun K "entry" "Roster.entry" Wt f fd)(T:Tx K mg a)(zed:Zt P w K mg base a.zdt "check_known" 1 ["self","number"] (Tb (ca a))):FnOk P w K mg base (CX1 P w) 2 f fd ["self","number"] (Je (ca a)):=by
 refine F.okX Pz ⋯ fun _ _ _ _ H _ Q E hr h=>?_;obtain⟨p,d,R,n,rfl,RA,sn,h1,h2⟩:=h;have hu:=Vp hr;refine⟨_,(Zc (Z4 (Xl (pv 0) T.zef zed (hr.mono ⋯) Zk (Za (pv 1) Zd)))
 (Zf (Zp (pD hu (Zm (K:=K) rfl (pv 0) rfl) (pv 1))))),?_⟩
 obtain⟨⟨dx,kvs,hp,hd,en⟩,nd⟩:=id RA;refine⟨_,rfl,p,dx,_,rfl,hp,Yt.no ⋯,_,rfl,p,d,R,n,rfl,RA,sn,?_⟩;refine K2 (fun hn=>?_) (fun hn=>h1 hn);obtain⟨⟨m,g,c⟩,q,rfl⟩:=zrg.mp hn;obtain⟨t,e1,e2⟩:=en.val_some nd q;exact⟨_,rfl,p,a.zdt,dx,_,_,rfl,hp,T.zef,T.zet,Wd,_,rfl,d,_,rfl,(by rw[<- e1];exact DGet.k (k:=inl m) hd),h2 g c t q e2⟩
noncomputable abbrev X8:Stmt:=Zy (top 40) 10
theorem Q9:Zl ["self","number"] ["self","number"] (Zj X8):=fnS
theorem Pa(F:Fun K "person" "Roster.person" X8 f fd)(T:Tx K mg a)(zgi:Zt P w K mg base a.zdt "entry" 2 ["self","number"] (Je (ca a))):FnOk P w K mg base (CX1 P w) 3 f fd ["self","number"] (Jf (ca a)):=by
 refine F.okX Q9 ⋯ fun _ _ _ _ H _ Q E hr h=>?_;obtain⟨p,d,R,n,rfl,RA,sn,h1,h2⟩:=h;refine⟨_,(Zf (Zp (Ym (Jg (K:=K) rfl) (Yp (Za (pv 1) Zd)) (Xl (pv 0) T.zef zgi (hr.mono ⋯) Zk (Za (pv 1) Zd))))),?_⟩;obtain⟨⟨dx,kvs,hp,hd,en⟩,nd⟩:=id RA;refine⟨_,rfl,sz1,fun t1 ht1=>?_⟩;have s1:=Ze (o:=.tup [.int n]) ht1;have q1:upd H t1 (.tup [.int n]) t1=some (.tup [.int n]):=Zb;generalize upd H t1 (.tup [.int n])=H1 at s1 q1;refine⟨_,rfl,p,dx,_,rfl,s1 _ _ hp,Yt.no ⋯,_,rfl,p,d,R,n,rfl,RA.same s1,sn,fun hn=>h1 hn H1 s1,fun g c t q ht=>?_⟩;refine⟨t1,t,_,_,rfl,rfl,SqT.of q1,SqT.of ht,by simp,by show 1+2<=sizeLine;exact sz3,fun z=>absurd z (by simp),fun _ t2 ht2=>?_⟩;exact h2 g c t2 _ q Zb (s1.trans (Ze ht2)) (s1.free ht2)
noncomputable abbrev Qg:Stmt:=top 4
theorem Eo:Zl ["people","match","out","ledger","rest"] ["people","match","out","ledger","rest"] (Zj Qg):=fnS
theorem Ep(F:Fun K "takers" "takers" Qg f fd)(T:Tx K mg a)(zic:Yg P w K mg base "reasons" 3 ["referee","match","out","ledger","rest"] (M7 K a.zdr)):FnOk P w K mg base (CX1 P w) 4 f fd ["people","match","out","ledger","rest"] (Jb K a.zdr):=by
 refine F.okX Eo ⋯ fun _ _ _ _ H _ Q E hr h=>?_;obtain⟨lp,lo,tm,p,lr,ld,Rs,ts,Ms,os,h,gu,d,rest,rfl,hp,tl,ho,hoo,ht,LA,hl,hq⟩:=h;refine⟨_,(Zf (Zp (U2 rfl (cT ["match","ledger","rest","out"] [1,3,4,2]) (Yw (K:=K) rfl (pv 0)) (fun _ _ _ _ _=>Ly (Tu (M5 (K:=K) rfl (Gi zic (hr.mono ⋯) Gh rfl (Za (pv 0) (Za (pv 1) (Za (U8 (Rg (K:=K) rfl) (pI (iU K) (pv 0) Zi) (pv 4) (by with_unfolding_all rfl)) (Za (pv 2) (Za (pv 3) Zd)))))) (fun _=>rfl)))) (fun _ _ _ _ _=>(pI (iU K) (pv 0) Zi))))),?_⟩;have hlen:ts.length=Ms.length:=by rw[tl.length,zqx]
 refine⟨_,rfl,lp,rfl,⟨_,SqL.of hp⟩,?_⟩;refine V2 (K:=K) (a:=lp) (xs:=ts) (fun i ys H'=>Same H H'/\ys=((Ms.take i).filter (T3 Rs h gu d os rest)).map fun m=>V.int m.1) ⟨Same.refl _,rfl⟩ (fun i ys H' _ ⟨s,_⟩=>SqL.of (s _ _ hp)) (by rw[hlen];exact szN hl) (fun i ys H' ⟨_,e⟩=>by rw[e,zqx];exact zro (zsd _ _) (List.length_take_le _ _)) ?_ ?_
 ·rintro i x ys H' hx ⟨sm,rfl⟩;obtain⟨t,m,rfl,hm,htt⟩:=D9 tl hx;have htt':=sm _ _ htt;refine⟨_,rfl,_,rfl,_,rfl,t,_,_,_,rfl,rfl,SqT.of htt',(show atI (pV m) 0=some _ from rfl),_,rfl,lo,os,rfl,.inl (SqL.of (sm _ _ ho)),rfl,List.all_eq_true.mpr (fun y hy=>D7 (hoo y hy)),_,rfl,_,rfl,t,tm,p,lr,ld,Rs,m.1,m.2.1,m.2.2,h,gu,d,rest,inV (.int m.1) os,rfl,htt',sm _ _ ht,LA.same sm,fun l H2 hl2 s2 _=>?_⟩;refine⟨_,.inl ⟨_,SqL.of hl2,rfl⟩,?_⟩;have e:((L6 Rs m.1 m.2.1 m.2.2 h gu d (inV (.int m.1) os) rest).map V.str).isEmpty=T3 Rs h gu d os rest m:=by unfold T3;rw[List.isEmpty_map]
  have hys:∀ ys',((Ms.take (i+1)).filter (T3 Rs h gu d os rest)).map (fun m=>V.int m.1)=((Ms.take i).filter (T3 Rs h gu d os rest)).map (fun m=>V.int m.1)++ys'↔ys'=if T3 Rs h gu d os rest m then [V.int m.1] else []:=fun ys'=>by
   rw[zry,hm,List.filter_append,zre,List.append_cancel_left_eq];cases q:T3 Rs h gu d os rest m<;>simp[q,eq_comm]
  dsimp only;rw[e];refine itB (fun hb=>?_) (fun hb=>?_)
  ·rw[Bool.not_not] at hb;refine⟨_,rfl,t,_,_,_,rfl,rfl,SqT.of (s2 _ _ htt'),(show atI (pV m) 0=some _ from rfl),sm.trans s2,?_⟩;exact((hys [V.int m.1]).mpr (by rw[hb];rfl)).symm
  ·rw[Bool.not_not] at hb;refine⟨sm.trans s2,?_⟩;have:=(hys []).mpr (by rw[hb];rfl);rw[List.append_nil] at this;exact this.symm
 ·rintro ys H' ⟨sm,rfl⟩ l hl';rw[hlen,zrm];exact hq l _ Zb (sm.trans (Ze hl')) (sm.free hl')
noncomputable abbrev Wu:Stmt:=top 42
theorem X9:Zl ["given","taken","place","number"] ["given"] (Zj Wu):=fnS
theorem P1(F:Fun K "places_taken" "places_taken" Wu f fd)(T:Tx K mg a):FnOk P w K mg base (CX1 P w) 1 f fd ["given"] (Gv K):=by
 refine F.okX X9 ⋯ fun _ _ _ _ H _ Q E hr h=>?_;obtain⟨b,gs,rfl,hb,ho,hinj,hl,h⟩:=h;have hu:=Vp hr;refine⟨_,(Zc (pS 1 X9.nd K0)
 (Zc (V6 PassesOwn.leaving rfl (Bz (K:=K) rfl rfl T.zfy (Za (pv 0) Zd)) (Ui (K:=K) (n:=2) rfl rfl (Yd (pN 2 X9.nd) (Yd (pN 3 X9.nd) Ue)))
  (Zf (Z6 (Zn R4 (pv 3) Xm (Zs _))
   (Zf (Si hu (pv 1) (pv 3) (pv 2) rfl))
   Zr)))
 (Zf (Zp (pv 1))))),?_⟩
 have line:100<sizeLine:=by rw[sizeLine_eq];decide
 intro d hd
 let jv1:Nat->L2.St->Hp->Prop:=fun i σ' H'=>(∃ u v,σ'=[some (.ref b),some (.ref d),u,v])/\Same H H'/\∃ kvs,H' d=some (.dK kvs)/\kvs.length<=i/\(∀ (n:Int) (j:Nat),j<i->gs[j]?=some (.int n)->valV kvs (inl n:Key)=some (.int (j:Nat)))/\(∀ n:Int,(∀ j:Nat,j<i->gs[j]?≠some (.int n))->valV kvs (inl n:Key)=none)
 refine⟨_,rfl,b,rfl,⟨gs,SqL.of (Ze hd _ _ hb)⟩,Cf (xs:=gs) jv1
  ⟨⟨none,none,rfl⟩,Ze hd,[],Zb,zq1 _,fun n j hj=>absurd hj (zsl _),fun n _=>rfl⟩ (fun i σ' H' hi p=>SqL.of (p.2.1 _ _ hb)) (fun i x t σ' H' hx p htn=>?_) (fun σ' H' p=>?_)⟩
 ·obtain⟨⟨u,v,rfl⟩,hs,kvs,hk,hkl,h1,h2⟩:=p;have s2:=hs.trans (Ze (o:=.tup [.int (i:Nat),x]) htn);have hk2:=Ze (o:=.tup [.int (i:Nat),x]) htn _ _ hk;refine⟨t,_,rfl,SqT.of Zb,rfl,_,_,rfl,_,_,rfl,rfl,?_⟩;generalize upd H' t (.tup [.int (i:Nat),x])=H2 at s2 hk2;have hi:i<gs.length:=(zqz.mp hx).1;refine U9 (b:=!decide (x=.non)) (fun Q k=>⟨_,rfl,rfl,_,rfl,k⟩) ?_;rcases ho x (zq9 hx) with rfl|⟨n,rfl⟩
  ·refine iteF (Zq ⟨⟨_,_,rfl⟩,s2,kvs,hk2,by omega,fun n j hj hg=>?_,fun n hn=>h2 n fun j hj=>hn j ⋯⟩);by_cases e:j=i
   ·subst e;rw[hx] at hg;cases hg
   ·exact h1 n j ⋯ hg
  ·refine iteT ⟨_,rfl,_,rfl,_,rfl,d,_,rfl,DPut.k (k:=inl n) hk2 ⋯,⟨_,_,rfl⟩,?_,_,Zb,?_,fun m j hj hg=>?_,fun m hm=>?_⟩
   ·exact Wf hd s2
   ·exact zro (Xs kvs _ _) ⋯
   ·rw[Uv];by_cases e:j=i
    ·subst e;rw[hx] at hg;cases hg;rw[if_pos rfl]
    ·have hne:¬ ((inl m:Key)=inl n):=fun z=>by
      rw[inl.inj z] at hg;exact e (hinj j i n hg hx)
     rw[if_neg hne];exact h1 m j ⋯ hg
   ·have hne:¬ ((inl m:Key)=inl n):=fun z=>by
     rw[inl.inj z] at hm;exact hm i ⋯ hx
    rw[Uv,if_neg hne];exact h2 m fun j hj=>hm j ⋯
 ·obtain⟨⟨u,v,rfl⟩,hs,kvs,hk,hkl,h1,h2⟩:=p;exact⟨_,rfl,h d kvs H' hk ⟨fun n j hj=>h1 n j (zqz.mp hj).1 hj,fun n hn=>h2 n fun j _=>hn j⟩ hs hd⟩
noncomputable abbrev Vy:Stmt:=top 43
theorem Y5:Zl ["may","taken","start","into","waiting","done","place","number"] ["may","taken","start"] (Zj Vy):=fnS
theorem Mi(F:Fun K "steps_into" "steps_into" Vy f fd)(T:Tx K mg a):FnOk P w K mg base (CX1 P w) 1 f fd ["may","taken","start"] (Cn K):=by
 refine F.okX Y5 ⋯ fun _ _ _ _ H _ Q E hr h=>?_;obtain⟨l,d,ls,rows,kvs,gs,p,rfl,hl,il,hrl,hd,tk,FP,hp,h⟩:=h;have hu:=Vp hr;refine⟨_,(Zc (pS 3 Y5.nd (Bo (Dk (pv 2) Xm Bn) rfl rfl (by simp) ⋯))
 (Zc (pS 4 Y5.nd (Z3 (Za (pv 2) Zd)))
 (Zc (pS 5 Y5.nd Zi)
 (Zc (Kr PassesOwn.leaving (Zn Pe (pv 5) (Zu (cL K) (by rfl) T.zfz PySem.boot_len (Za (pv 4) Zd)) (Zs _))
  (Zc (pS 6 Y5.nd (pI (iL K) (pv 4) (pv 5)))
  (Zc (pS 5 Y5.nd (Ym Ib (pv 5) Zi))
  (Zf (V6 PassesOwn.leaving rfl (Yw (K:=K) rfl (pI (iL K) (pv 0) (pv 6))) (pN 7 Y5.nd)
   (Zf (Z6 (PW.pt (Tt (Ra (Lp hu (pv 7) (pv 1))) (Ud (Ra (Qu hu (pD hu (pv 1) (pv 7)) (pv 3))))))
    (Zc (Si hu (pv 3) (pD hu (pv 1) (pv 7)) (Yp (Za (pv 6) (Za (pv 7) Zd))) rfl)
    (Zf (Xe (pv 4) (pD hu (pv 1) (pv 7)))))
    Zr)))))))
 (Zf (Zp (pv 3))))))),?_⟩
 show let y1:TS:=_;let y2:TS:=Z7 _ y1;let y3:TS:=_;let y4:TS:=Z7 (E2 _ (Z7 _ y2)) y3;let y5:TS:=Z7 _ y4;let y6:TS:=Z7 _ y5;Z7 _ y6 _ _ _;intro y1 y2 y3 y4 y5 y6;have line0:200<sizeLine:=by rw[sizeLine_eq];decide
 intro ld hld;refine⟨_,rfl,Zb,[(inl (p:Int),.non)],rfl,(by show 1<=15;decide),?_⟩;have s0:Same H (upd (upd H ld (.dK [])) ld (.dK (Tw [] [(inl (p:Int),.non)]))):=Wf hld (Ze hld);have q0:upd (upd H ld (.dK [])) ld (.dK (Tw [] [(inl (p:Int),.non)])) ld=some (.dK [((inl (p:Int):Key),V.non)]):=Zb;generalize upd (upd H ld (.dK [])) ld (.dK (Tw [] [(inl (p:Int),.non)]))=H1 at s0 q0;refine⟨_,rfl,sz1,fun ln hln=>?_⟩;have s1:=Ze (o:=.lst [.int p]) hln;have e1:upd H1 ln (.lst [.int p]) ln=some (.lst (Tj [p])):=Zb;have q1:=s1 _ _ q0;have s01:=s0.trans s1;have nln:ld≠ln:=Zh q0 hln;have fln:H ln=none:=s0.free hln;generalize upd H1 ln (.lst [.int p])=H2 at s1 e1 q1 s01;have hbound:∀ line:List Nat,line.Nodup->(∀ c∈line,c<rows.length)->line.length<=rows.length:=fun line nd hc=>by
  have:=nd.length_le_of_subset (l₂:=List.range rows.length) fun c hcc=>zsh.mpr (hc c hcc);rw[zr9] at this;exact this
 refine⟨fun m σ' H'=>∃ (line:List Nat) (dep:Nat->Nat) (fr:Nat->Option (Nat×Int)) (into:List (Key×V)) (dn:Nat) (v6 v7:Option V),m=rows.length-dn/\dn<=line.length/\σ'=[some (.ref l),some (.ref d),some (.int p),some (.ref ld),some (.ref ln),some (.int (dn:Nat)),v6,v7]/\Same H H'/\H' ld=some (.dK into)/\H' ln=some (.lst (Tj line))/\Y4 H' into line fr/\Bfs rows gs p line dep/\Done rows gs line dep dn/\Ua rows gs p line dep fr/\(∀ q∈line,q<rows.length)/\∀ here,line[dn]?=some here->∀ x∈line,dep x<=dep here+1,
  ⟨_,[p],fun _=>0,fun _=>none,_,0,_,_,rfl,zrj _,rfl,s01,q1,e1,Hf _ _,Ec rows gs p,fun i q hi=>absurd hi (zsl _),Hg,by simpa using hp,fun here _ x _=>zrj _⟩,?_⟩
 rintro m σ Ha ⟨line,dep,fr,into,dn,v6,v7,rfl,hdn,rfl,sa,hda,hna,io,B,Dn,fo,hlt,near⟩;have hll:=hbound _ B.nodup hlt;have hnl:(Tj line).length=line.length:=by unfold Tj;rw[zqx]
 refine⟨_,rfl,_,rfl,ln,_,rfl,.inl (SqL.of hna),_,_,rfl,rfl,_,rfl,?_⟩;rw[hnl];by_cases hlt2:dn<line.length
 ·rw[zq2 (show ((dn:Nat):Int)<(line.length:Nat) by omega)];refine iteT ?_;obtain⟨here,hh⟩:∃ here,line[dn]?=some here:=⟨_,zqy hlt2⟩;have hhm:=zq9 hh;have hhere:=hlt here hhm;have hhv:(Tj line)[dn]?=some (.int (here:Nat)):=by unfold Tj;rw[zq7,hh];rfl
  refine⟨fun σ' H'=>∃ (line:List Nat) (dep:Nat->Nat) (fr:Nat->Option (Nat×Int)) (into:List (Key×V)) (v6 v7:Option V),dn+1<=line.length/\σ'=[some (.ref l),some (.ref d),some (.int p),some (.ref ld),some (.ref ln),some (.int ((dn+1:Nat):Int)),v6,v7]/\Same H H'/\H' ld=some (.dK into)/\H' ln=some (.lst (Tj line))/\Y4 H' into line fr/\Bfs rows gs p line dep/\Done rows gs line dep (dn+1)/\Ua rows gs p line dep fr/\(∀ q∈line,q<rows.length)/\∀ here,line[dn+1]?=some here->∀ x∈line,dep x<=dep here+1,
   fun σ' H' ⟨line,dep,fr,into,v6,v7,a1,a2,a3,a4,a5,a6,a7,a8,a9,a10,a11⟩=>⟨rows.length-(dn+1),by omega,line,dep,fr,into,dn+1,v6,v7,rfl,a1,a2,a3,a4,a5,a6,a7,a8,a9,a10,a11⟩,?_⟩
  have hr':rows[here]?=some (rows[here]'hhere):=zqy hhere;generalize (rows[here]'hhere)=r at hr';obtain⟨lr,e2,e3⟩:=il.getR hr';have hl':(ls.map V.ref)[here]?=some (.ref lr):=by rw[zq7,e2];rfl
  refine⟨_,rfl,_,rfl,ln,_,_,_,rfl,rfl,SqL.of hna,Y6 hhv,?_⟩;refine⟨_,rfl,_,_,rfl,rfl,?_⟩;refine⟨_,rfl,_,rfl,l,_,_,_,rfl,rfl,SqL.of (sa _ _ hl),Y6 hl',lr,rfl,⟨_,SqL.of (sa _ _ e3)⟩,?_⟩
  let jv2:Nat->L2.St->Hp->Prop:=fun j σ' H'=>∃ (line:List Nat) (dep:Nat->Nat) (fr:Nat->Option (Nat×Int)) (into:List (Key×V)) (v7:Option V),σ'=[some (.ref l),some (.ref d),some (.int p),some (.ref ld),some (.ref ln),some (.int ((dn+1:Nat):Int)),some (.int (here:Nat)),v7]/\Same H H'/\H' ld=some (.dK into)/\H' ln=some (.lst (Tj line))/\Y4 H' into line fr/\Bfs rows gs p line dep/\Done rows gs line dep dn/\Ua rows gs p line dep fr/\(∀ q∈line,q<rows.length)/\line[dn]?=some here/\(∀ x∈line,dep x<=dep here+1)/\∀ n∈r.take j,∀ q':Nat,gs[q']?=some (.int n)->q'∈line
  refine V7 (K:=K) (a:=lr) (xs:=r.map V.int) jv2
   ⟨line,dep,fr,into,_,rfl,sa,hda,hna,io,B,Dn,fo,hlt,hh,near here hh,by simp⟩ (fun j σ' H' _ ⟨_,_,_,_,_,_,z,_⟩=>SqL.of (z _ _ e3)) ?_ ?_
  ·rintro j y σ' Hx hy ⟨line,dep,fr,into,w7,rfl,sx,hdx,hnx,io,B,Dn,fo,hlt,hh,near,pr⟩;have hj:j<r.length:=by have:=(zqz.mp hy).1;rw[zqx] at this;exact this
   have hhm:=zq9 hh;have hrj:r[j]?=some (r[j]'hj):=zqy hj;have etk:r.take (j+1)=r.take j++[r[j]'hj]:=zrr hj;generalize (r[j]'hj)=n at hrj etk;have ey:y=.int n:=by rw[zq7,hrj] at hy;exact(Option.some.inj hy).symm
   subst ey;have hnr:=zq9 hrj;have hll:=hbound _ B.nodup hlt;have prev:(∀ q':Nat,gs[q']?=some (.int n)->q'∈line)->∀ m∈r.take (j+1),∀ q':Nat,gs[q']?=some (.int m)->q'∈line:=fun k m hm=>by
    rw[etk] at hm;rcases zrd.mp hm with z|z
    ·exact pr m z
    ·rw[zq3.mp z];exact k
   rcases tk.iff n with ⟨q',hq',hv⟩|⟨hno,hv⟩
   ·by_cases hin:q'∈line
    ·refine U9 (b:=false) (fun Q k=>?_) (iteF (Zq ⟨line,dep,fr,into,_,rfl,sx,hdx,hnx,io,B,Dn,fo,hlt,hh,near,prev fun q2 h2=>by rw[FP.inj q2 q' n h2 hq'];exact hin⟩));refine⟨_,rfl,_,rfl,d,_,rfl,DGet.k (k:=inl n) (sx _ _ hd),_,rfl,?_⟩;rw[hv];refine iteT ⟨_,rfl,_,rfl,d,_,rfl,hv▸DGet.k (k:=inl n) (sx _ _ hd),_,rfl,ld,_,rfl,DGet.k (k:=inl (q':Int)) hdx,_,rfl,?_⟩;rw[(io.has q').mpr hin];exact k
    ·have hnin:(valV into (inl (q':Int):Key)).isSome=false:=by
      rw[Bool.eq_false_iff];exact fun z=>hin ((io.has q').mp z)
     have hq'l:q' < rows.length:=by
      have:=(zqz.mp hq').1;rw[FP.len] at this;exact this
     have ha:adjN rows gs here n q':=⟨⟨r,hr',hnr⟩,hq'⟩;obtain⟨B',old,all⟩:=B.app (dn:=dn) hh near ha hin;refine U9 (b:=true) (fun Q k=>?_) (iteT ?_)
     ·refine⟨_,rfl,_,rfl,d,_,rfl,DGet.k (k:=inl n) (sx _ _ hd),_,rfl,?_⟩;rw[hv];refine iteT ⟨_,rfl,_,rfl,d,_,rfl,hv▸DGet.k (k:=inl n) (sx _ _ hd),_,rfl,ld,_,rfl,DGet.k (k:=inl (q':Int)) hdx,_,rfl,?_⟩;rw[hnin];exact k
     ·refine⟨_,rfl,_,rfl,sz2,fun t ht=>?_⟩;have t1:=Ze (o:=.tup [.int (here:Nat),.int n]) ht;have st:=sx.trans t1;have hdt:=t1 _ _ hdx;have hnt:=t1 _ _ hnx;have et:upd Hx t (.tup [.int (here:Nat),.int n]) t=some (.tup [.int (here:Nat),.int n]):=Zb;have iot:=io.same t1;generalize upd Hx t (.tup [.int (here:Nat),.int n])=Ht at t1 st hdt hnt et iot;refine⟨_,rfl,_,rfl,_,rfl,d,_,rfl,hv▸DGet.k (k:=inl n) (st _ _ hd),ld,_,rfl,DPut.k (k:=inl (q':Int)) hdt ?_,?_⟩
      ·have:=io.len;omega
      have sd:Same H (upd Ht ld (.dK (putK into (inl (q':Int)) (.ref t)))):=Wf hld st;have ed:upd Ht ld (.dK (putK into (inl (q':Int)) (.ref t))) ld=some (.dK (putK into (inl (q':Int)) (.ref t))):=Zb;have en:upd Ht ld (.dK (putK into (inl (q':Int)) (.ref t))) ln=some (.lst (Tj line)):=by rw[Zg (Ne.symm nln)];exact hnt
      have iod:Y4 (upd Ht ld (.dK (putK into (inl (q':Int)) (.ref t)))) (putK into (inl (q':Int)) (.ref t)) (line++[q']) (Pn fr q' (here,n)) :=
       (iot.app hin et).mono fun c xs e=>by rw[Zg (Yl e hdt (fun z=>nomatch z))];exact e
      generalize upd Ht ld (.dK (putK into (inl (q':Int)) (.ref t)))=Hd at sd ed en iod;have hsz:(Tj line).length<sizeLine:=by unfold Tj;rw[zqx];omega
      refine⟨_,rfl,ln,_,rfl,en,_,rfl,_,rfl,d,_,rfl,hv▸DGet.k (k:=inl n) (sd _ _ hd),_,en,hsz,line++[q'],Wl dep q' (dep here+1),Pn fr q' (here,n),putK into (inl (q':Int)) (.ref t),_,rfl,Wf fln sd,?_,?_,?_,B',Dn.app ?_ ⟨_,rfl⟩ old,fo.app hin B.memp hhm ha,?_,?_,?_,?_⟩
      ·rw[Zg nln];exact ed
      ·rw[Zb];unfold Tj;rw[zre];rfl
      ·exact iod.mono fun c xs e=>by rw[Zg (Yl e en (fun z=>nomatch z))];exact e
      ·have:=(zqz.mp hh).1;omega
      ·intro q hq;rcases zrd.mp hq with z|z
       ·exact hlt q z
       ·rw[zq3.mp z];exact hq'l
      ·rw[zrv (zqz.mp hh).1];exact hh
      ·intro x hx;rw[old here hhm];exact all x hx
      ·intro m hm q2 h2;rw[etk] at hm;rcases zrd.mp hm with z|z
       ·exact zrn _ (pr m z q2 h2)
       ·rw[zq3.mp z] at h2;rw[FP.inj q2 q' n h2 hq'];exact zri _ (zq3.mpr rfl)
   ·refine U9 (b:=false) (fun Q k=>?_) (iteF (Zq ⟨line,dep,fr,into,_,rfl,sx,hdx,hnx,io,B,Dn,fo,hlt,hh,near,prev fun q2 h2=>absurd h2 (hno q2)⟩));refine⟨_,rfl,_,rfl,d,_,rfl,DGet.k (k:=inl n) (sx _ _ hd),_,rfl,?_⟩;rw[hv];exact iteF k
  ·rintro σ' Hx ⟨line,dep,fr,into,w7,rfl,sx,hdx,hnx,io,B,Dn,fo,hlt,hh,near,pr⟩;rw[zqx,zrm] at pr;have hlt3:=(zqz.mp hh).1;refine⟨line,dep,fr,into,_,_,by omega,rfl,sx,hdx,hnx,io,B,fun i q hi hq n q' ha=>?_,fo,hlt,fun here2 hh2 x hx=>?_⟩
   ·by_cases e:i=dn
    ·rw[e,hh] at hq;cases hq;obtain⟨⟨r2,h1,h2⟩,h3⟩:=ha;rw[hr'] at h1;cases h1;have hm:=pr n h2 q' h3;exact⟨hm,near q' hm⟩
    ·exact Dn i q ⋯ hq n q' ha
   ·have:=B.sorted dn (dn+1) here here2 ⋯ hh hh2;have:=near x hx;omega
 ·rw[zq5 (show ¬ (((dn:Nat):Int)<(line.length:Nat)) by omega)];refine iteF ⟨_,rfl,?_⟩;have e:dn=line.length:=by omega
  subst e;exact h ld into line dep fr Ha hda io B Dn fo hlt sa hld
noncomputable abbrev Wv:Stmt:=top 44
theorem Tn:Zl ["numbers","taken","number"] ["numbers","taken"] (Zj Wv):=fnS
theorem P2(F:Fun K "free_referee" "free_referee" Wv f fd)(T:Tx K mg a):FnOk P w K mg base (CX1 P w) 1 f fd ["numbers","taken"] (Lc K):=by
 refine F.okX Tn ⋯ fun _ _ _ _ H _ Q E hr h=>?_;obtain⟨l,d,r,kvs,rfl,hl,hd,h⟩:=h;have hu:=Vp hr;refine⟨_,(Zc (V6 PassesOwn.leaving rfl (Yw (K:=K) rfl (pv 0)) (pN 2 Tn.nd)
  (Zf (Z6 (Ra (Qu hu (pv 2) (pv 1)))
   (Zf (Zp (pv 2)))
   Zr)))
 (Zf (Zp Xm))),?_⟩
 let jv3:Nat->L2.St->Hp->Prop:=fun i σ' H'=>(∃ u,σ'=[some (.ref l),some (.ref d),u])/\H'=H/\∀ n∈r.take i,(valV kvs (inl n:Key)).isSome=true
 refine⟨_,rfl,l,rfl,⟨_,SqL.of hl⟩,V7 (xs:=r.map V.int) jv3
  ⟨⟨none,rfl⟩,rfl,by simp⟩ (fun i σ' H' hi p=>by rw[p.2.1];exact SqL.of hl) (fun i x σ' H' hx p=>?_) (fun σ' H' p=>?_)⟩
 ·obtain⟨⟨u,rfl⟩,rfl,hp⟩:=p;have hi:i<r.length:=by have:=(zqz.mp hx).1;rw[zqx] at this;exact this
  have e:x=.int (r[i]'hi):=by
   rw[zq7,zqy hi] at hx;exact(Option.some.inj hx).symm
  subst e;refine U9 (b:=!(valV kvs (inl (r[i]'hi):Key)).isSome) (fun Q k=>⟨_,rfl,_,rfl,d,_,rfl,DGet.k (k:=inl (r[i]'hi)) hd,_,rfl,k⟩) ?_;cases hv:valV kvs (inl (r[i]'hi):Key) with
  | none=>exact iteT ⟨_,rfl,h (some (r[i]'hi)) (fun n hn=>by cases hn;exact⟨zr3 hi,hv⟩) (fun z=>nomatch z)⟩
  | some y =>
    refine iteF (Zq ⟨⟨_,rfl⟩,rfl,fun n hn=>?_⟩);rw[zrr hi] at hn;rcases zrd.mp hn with z|z
    ·exact hp n z
    ·rw[zq3.mp z,hv];rfl
 ·obtain⟨⟨u,rfl⟩,rfl,hp⟩:=p;rw[zqx,zrm] at hp;exact h none (fun n z=>nomatch z) fun _=>hp
noncomputable abbrev Qh:Stmt:=top 45
theorem Su:Zl ["into","place","number","steps","step"] ["into","place","number"] (Zj Qh):=fnS
theorem Er(F:Fun K "traced" "traced" Qh f fd)(T:Tx K mg a):FnOk P w K mg base (CX1 P w) 1 f fd ["into","place","number"] (Jc K):=by
 refine F.okX Su ⋯ fun _ _ _ _ H _ Q E hr h=>?_;obtain⟨t,q,p,w,rows,gs,into,line,dep,fr,rfl,ht,io,fo,d0,hp,hq,hdq,h⟩:=h;have hu:=Vp hr;refine⟨_,(Zc (pS 3 Su.nd (Z3 (Za (Yp (Za (pv 1) (Za (pv 2) Zd))) Zd)))
 (Zc (pS 4 Su.nd (pD hu (pv 0) (pv 1)))
 (Zc (Kr PassesOwn.leaving (Zn R4 (pv 4) Xm (Zs _))
  (Zc (Xe (pv 3) (pv 4))
  (Zf (pS 4 Su.nd (pD hu (pv 0) (pI (iU K) (pv 4) Zi))))))
 (Zc (Z4 (Dq PySem.F.plainAttrs_list PySem.F.slot_list_reverse PySem.F.type_list_reverse Iw (pv 3)))
 (Zf (Zp (pv 3))))))),?_⟩
 have line0:200<sizeLine:=by rw[sizeLine_eq];decide
 have get:∀ {H':Hp},Same H H'->∀ k:Nat,DGet H' t (.int (k:Nat)) (valV into (inl (k:Int):Key)):=fun {H'} hs k=>.inl ⟨into,inl (k:Int),ht.imp (hs _ _) (fun ⟨o,e⟩=>⟨o,hs _ _ e⟩),rfl,rfl⟩;have fr0:∀ c∈line,fr c=none->c=p:=fun c hc hf=>by
  by_cases e:c=p
  ·exact e
  ·obtain⟨par,n,h1,_⟩:=fo.2 c hc e;rw[hf] at h1;cases h1
 have some_of:∀ c∈line,∃ v,valV into (inl (c:Int):Key)=some v:=fun c hc=>zr1.mp ((io.has c).mpr hc);refine⟨_,rfl,_,rfl,sz2,fun m hm=>⟨sz1,fun lt hlt=>?_⟩⟩;have s1:=Ze (o:=.tup [.int (q:Nat),oV w]) hm;have e1:upd H m (.tup [.int (q:Nat),oV w]) m=some (.tup (W6 (q,w))):=Zb;generalize upd H m (.tup [.int (q:Nat),oV w])=H1 at s1 e1 hlt;have s2:=Ze (o:=.lst [V.ref m]) hlt;have e2:upd H1 lt (.lst [V.ref m]) lt=some (.lst [V.ref m]):=Zb;have e3:=s2 _ _ e1;have s3:=s1.trans s2;have hltn:H lt=none:=s1.free hlt;generalize upd H1 lt (.lst [V.ref m])=H2 at s2 e2 e3 s3;obtain⟨v0,hv0⟩:=some_of q hq;refine⟨_,rfl,_,rfl,t,v0,rfl,hv0▸get s3 q,?_⟩;refine⟨fun mm σ' H'=>∃ (cur:Nat) (st:List (Nat×Option Int)) (ts:List V) (v:V),mm=dep cur/\cur∈line/\valV into (inl (cur:Int):Key)=some v/\σ'=[some (.ref t),some (.int (q:Nat)),some (oV w),some (.ref lt),some v]/\Same H H'/\H' lt=some (.lst ts)/\TupL H' ts (st.reverse.map W6)/\Ch rows gs cur st q w/\st.length+dep cur=dep q+1,
  ⟨_,q,[(q,w)],_,v0,rfl,hq,hv0,rfl,s3,e2,.cons e3 .nil,.one q w,by show 1+dep q=_;omega⟩,?_⟩
 rintro mm σ' Ha ⟨cur,st,ts,v,rfl,hc,hv,rfl,sa,hta,htl,hch,hlen⟩;have htsl:ts.length=st.length:=by have:=htl.length;rw[zqx,List.length_reverse] at this;exact this
 refine⟨_,rfl,rfl,_,rfl,?_⟩;cases hf:fr cur with
 | none =>
   have hcp:=fr0 cur hc hf;subst hcp;have hvn:=io.none cur hc hf;rw[hv] at hvn;cases hvn;refine iteF ?_;refine⟨_,rfl,.inl ⟨rfl,_,SqL.of hta⟩,lt,ts,rfl,rfl,hta,_,rfl,?_⟩;refine h lt ts.reverse st _ Zb ?_ hch ⋯ (Wf hltn sa) hltn;have hr:=htl.reverse;rw[<- List.map_reverse,List.reverse_reverse] at hr;exact hr.mono fun c xs e=>by rw[Zg (Yl e hta (fun z=>nomatch z))];exact e
 | some x =>
   obtain⟨par,n⟩:=x;obtain⟨tt,h1,h2⟩:=io.some cur hc par n hf;rw[hv] at h1;cases h1;have hcp:cur≠p:=fun z=>by rw[z,fo.1] at hf;cases hf
   obtain⟨par',n',h3,h4,h5,h6⟩:=fo.2 cur hc hcp;rw[hf] at h3;cases h3;obtain⟨v',hv'⟩:=some_of par h4;refine iteT ?_;refine⟨fun σ' H'=>∃ (st:List (Nat×Option Int)) (ts:List V),σ'=[some (.ref t),some (.int (q:Nat)),some (oV w),some (.ref lt),some v']/\Same H H'/\H' lt=some (.lst ts)/\TupL H' ts (st.reverse.map W6)/\Ch rows gs par st q w/\st.length+dep par=dep q+1,
    fun σ' H' ⟨st,ts,a1,a2,a3,a4,a5,a6⟩=>⟨dep par,by omega,par,st,ts,v',rfl,h4,hv',a1,a2,a3,a4,a5,a6⟩,?_⟩
   have s4:Same H (upd Ha lt (.lst (ts++[V.ref tt]))):=Wf hltn sa;refine⟨_,rfl,lt,_,rfl,hta,_,rfl,_,hta,by omega,?_⟩;refine⟨_,rfl,_,rfl,tt,_,_,_,rfl,rfl,SqT.of (s4 _ _ h2),rfl,t,v',rfl,hv'▸get s4 par,(par,some n) :: st,ts++[V.ref tt],rfl,s4,Zb,?_,.step h5 hch,?_⟩
   ·rw[zse,zre];exact(htl.mono fun c xs e=>by rw[Zg (Yl e hta (fun z=>nomatch z))];exact e).snoc (s4 _ _ h2)
   ·rw[zrc];omega
noncomputable abbrev Oo:Stmt:=top 46
theorem Sd:Zl ["may","given","place","taken","into","reached","number"] ["may","given","place"] (Zj Oo):=fnS
theorem C7(F:Fun K "chain" "chain" Oo f fd)(T:Tx K mg a)(zgl:Yg P w K mg base "places_taken" 1 ["given"] (Gv K))(zg4:Yg P w K mg base "steps_into" 1 ["may","taken","start"] (Cn K))(zgf:Yg P w K mg base "free_referee" 1 ["numbers","taken"] (Lc K))(zh2:Yg P w K mg base "traced" 1 ["into","place","number"] (Jc K)):FnOk P w K mg base (CX1 P w) 2 f fd ["may","given","place"] (Kb K):=by
 refine F.okX Sd ⋯ fun _ _ _ _ H _ Q E hr h=>?_;obtain⟨l,lg,ls,rows,nu,gs,p,rfl,hl,il,mo,hg,FP,hp,hgp,h⟩:=h;refine⟨_,(Zc (pS 3 Sd.nd (pF zgl hr (Za (pv 1) Zd)))
 (Zc (pS 4 Sd.nd (pF zg4 hr (Za (pv 0) (Za (pv 3) (Za (pv 2) Zd)))))
 (Zc (V6 PassesOwn.leaving rfl (B0 (pv 4)) (pN 5 Sd.nd)
  (Zc (pS 6 Sd.nd (pF zgf hr (Za (pI (iL K) (pv 0) (pv 5)) (Za (pv 3) Zd))))
  (Zf (Z6 (Zn R4 (pv 6) Xm (Zs _))
   (Zf (Zp (pF zh2 hr (Za (pv 4) (Za (pv 5) (Za (pv 6) Zd))))))
   Zr))))
 (Zf (Zp (pF zh2 hr (Za (pv 4) (Za (Zu (Ef rfl) (by rfl) T.zje PyProof.Rows.boot_max (Za (pv 4) Zd)) (Za Xm Zd))))))))),?_⟩
 have hrl:rows.length<=100:=zro mo.few ⋯;refine⟨_,rfl,lg,gs,rfl,hg,FP.one,FP.inj,by rw[FP.len];exact hrl,fun d kvs H1 hd1 tk s1 hdn=>?_⟩;refine⟨_,rfl,_,rfl,_,rfl,l,d,ls,rows,kvs,gs,p,rfl,s1 _ _ hl,il.same s1,hrl,hd1,tk,FP,hp,fun t into line dep fr H2 ht io B Dn fo hlt s2 htn=>?_⟩;have hbound:line.length<=rows.length:=by
  have:=B.nodup.length_le_of_subset (l₂:=List.range rows.length) fun c hcc=>zsh.mpr (hlt c hcc);rw[zr9] at this;exact this
 have hd2:=s2 _ _ hd1;have s02:=s1.trans s2;have hfree:∀ q n,(∃ r,rows[q]?=some r/\n∈r)->valV kvs (inl n:Key)=none->Rh rows gs q n:=fun q n hr hv=>⟨hr,fun j hj=>by rw[tk.has n j hj] at hv;cases hv⟩
 have hdep:∀ q∈line,dep q<=100:=fun q hq=>by
  obtain⟨pre,hc,hlp⟩:=fo.back B.d0 (dep q) q q none [(q,none)] rfl hq (.one q none);have nd:=hc.nodup fun k hk=>by
   rw[zq4,hlp];have:=(B.full Dn hk).2;show dep q+1<=k+1;omega
  have hlt':=hc.lt FP hp;have:=nd.length_le_of_subset (l₂:=List.range rows.length) fun x hx=>by
   obtain⟨s,hs,rfl⟩:=zrg.mp hx;exact zsh.mpr (hlt' s hs)
  rw[zqx,zr9,zq4,hlp] at this;omega
 have htH:H t=none:=s1.free htn;refine⟨_,rfl,t,into,rfl,ht,fun o=>?_⟩;have e0:upd H2 t (.frz o (.dK into)) t=some (.frz o (.dK into)):=Zb;have s3:Same H (upd H2 t (.frz o (.dK into))):=Wf htH s02;have hd3:upd H2 t (.frz o (.dK into)) d=some (.dK kvs):=by rw[Zg (Zh hd1 htn)];exact hd2
 have io3:Y4 (upd H2 t (.frz o (.dK into))) into line fr:=io.mono fun c xs e=>by rw[Zg (Yl e ht (fun z=>nomatch z))];exact e
 generalize upd H2 t (.frz o (.dK into))=H3 at e0 s3 hd3 io3;have hil:into.length=line.length:=io.len;have key:∀ (i:Nat) (k:Key) (v:V),into[i]?=some (k,v)->∃ q:Nat,line[i]?=some q/\k=inl (q:Int):=fun i k v e=>by
  have:=congrArg (·[i]?) io.keys;simp only[zq7,e,zrz] at this;cases hq:line[i]? with
  | none=>rw[hq] at this;cases this
  | some q=>rw[hq] at this;exact⟨q,rfl,Option.some.inj this⟩
 let jv4:Nat->L2.St->Hp->Prop:=fun i σ' H'=>(∃ u v,σ'=[some (.ref l),some (.ref lg),some (.int p),some (.ref d),some (.ref t),u,v])/\H'=H3/\∀ (j q:Nat),j<i->line[j]?=some q->¬ Vs rows gs q
 refine Cj (a:=t) (o:=o) (kvs:=into) jv4 ⟨⟨none,none,rfl⟩,rfl,fun j q hj=>absurd hj (zsl _)⟩ (fun i σ' H' _ p=>by rw[p.2.1];exact e0) (fun i k v σ' H' hk hP=>?_) (fun σ' H' hP=>?_)
 ·obtain⟨⟨u,v',rfl⟩,rfl,hno⟩:=hP;obtain⟨q,hq,rfl⟩:=key i k v hk;have hqm:=zq9 hq;have hqr:rows[q]?=some (rows[q]'(hlt q hqm)):=zqy (hlt q hqm);generalize (rows[q]'(hlt q hqm))=r at hqr;obtain⟨lr,e2,e3⟩:=il.getR hqr;have hl':(ls.map V.ref)[q]?=some (.ref lr):=by rw[zq7,e2];rfl
  refine⟨_,rfl,_,rfl,l,_,_,_,rfl,rfl,SqL.of (s3 _ _ hl),Y6 hl',_,rfl,lr,d,r,kvs,rfl,s3 _ _ e3,hd3,fun w hw1 hw2=>?_⟩;walk_at "if";refine U9 (b:=!decide (oV w=.non)) (fun Q k=>⟨_,rfl,rfl,_,rfl,k⟩) ?_;cases w with
  | none =>
    refine iteF (Zq ⟨⟨_,_,rfl⟩,rfl,fun j q2 hj hq2=>?_⟩);by_cases e:j=i
    ·rw[e,hq] at hq2;cases hq2;rintro⟨n,⟨r2,h1,h2⟩,h3⟩;rw[hqr] at h1;cases h1;have:=hw2 rfl n h2;rw[tk.not n h3] at this;cases this
    ·exact hno j q2 ⋯ hq2
  | some n =>
    obtain⟨hn1,hn2⟩:=hw1 n rfl;refine iteT ⟨_,rfl,_,rfl,_,rfl,t,q,p,some n,rows,gs,into,line,dep,fr,rfl,.inr ⟨o,e0⟩,io3,fo,B.d0,B.memp,hqm,hdep q hqm,fun lt ts st H4 h1 h2 h3 h4 s4 hltn=>?_⟩;have hf:=hfree q n ⟨r,hqr,hn1⟩ hn2;have Di:Done rows gs line dep i:=fun j x hj=>Dn j x (Nat.lt_trans hj (zqz.mp hq).1);exact h lt ts st q (some n) H4 h1 h2 (Hb B Di hq hno hf h3 h4) (s3.trans s4) (s3.free hltn)
 ·obtain⟨⟨u,v',rfl⟩,rfl,hno⟩:=hP;have hpos:0<line.length:=List.length_pos_of_mem B.memp;refine⟨_,rfl,⟨_,rfl,t,into,line.map fun q:Nat=>(q:Int),rfl,.inr ⟨o,e0⟩,by rw[io.keys,List.map_map];rfl,by rw[zqx];exact hpos,fun M hM hmax=>?_⟩⟩;obtain⟨e,he,rfl⟩:=zrg.mp hM;refine⟨t,e,p,none,rows,gs,into,line,dep,fr,rfl,.inr ⟨o,e0⟩,io3,fo,B.d0,B.memp,he,hdep e he,fun lt ts st H4 h1 h2 h3 h4 s4 hltn=>?_⟩;refine h lt ts st e none H4 h1 h2 (Hc B Dn (fun q hq=>?_) (fun q hq=>?_) h3 h4) (s3.trans s4) (s3.free hltn)
  ·obtain⟨j,hj,e2⟩:=zr6 hq;exact hno j q ⋯ (by rw[zqy hj,e2])
  ·have:=hmax _ (zrg.mpr ⟨q,hq,rfl⟩);omega
noncomputable abbrev Sv:Stmt:=top 47
theorem Tf:Zl ["given","steps","behind","place","number"] ["given","steps"] (Zj Sv):=fnS
theorem Hn(F:Fun K "stepped" "stepped" Sv f fd)(T:Tx K mg a):FnOk P w K mg base (CX1 P w) 1 f fd ["given","steps"] (Q0 K):=by
 refine F.okX Tf ⋯ fun _ _ _ _ H _ Q E hr h=>?_;obtain⟨b,c,xs,ts,st,rfl,hb,hc,ht,hst,ho,hl,hls,h⟩:=h;refine⟨_,(Zc (pS 2 Tf.nd (Xb (Y3 (K:=K) rfl) (by rfl) T.zfr PyProof.Rows.boot_list (Za (pv 0) Zd)))
 (Zc (V6 PassesOwn.leaving rfl (Yw (K:=K) rfl (pv 1)) (Ui (K:=K) (n:=2) rfl rfl (Yd (pN 3 Tf.nd) (Yd (pN 4 Tf.nd) Ue)))
  (Zf (A6 (pv 4) (A5 (pv 2) (pv 3) Dp))))
 (Zf (Zp (pv 2))))),?_⟩
 have htl:ts.length=st.length:=by have:=ht.length;rw[zqx] at this;exact this
 refine⟨_,rfl,b,_,rfl,.inl (SqL.of hb),fun l hln=>?_⟩
 let jv5:Nat->L2.St->Hp->Prop:=fun i σ' H'=>(∃ u v,σ'=[some (.ref b),some (.ref c),some (.ref l),u,v])/\H' l=some (.lst (Yo (st.take i) xs))/\(∀ a o,H a=some o->H' a=some o)
 refine⟨_,rfl,c,rfl,⟨ts,SqL.of (Ze hln _ _ hc)⟩,V7 (xs:=ts) jv5 ⟨⟨none,none,rfl⟩,Zb,Ze hln⟩ (fun i σ' H' hi p=>SqL.of (p.2.2 _ _ hc)) (fun i x σ' H' hx p=>?_) (fun σ' H' p=>?_)⟩
 ·obtain⟨⟨u,v,rfl⟩,hl2,hs⟩:=p;have hi:i<st.length:=by rw[<- htl];exact(zqz.mp hx).1
  obtain⟨t,e1,e2⟩:=zci ht (zqy hi);rw[hx] at e1;cases e1;refine⟨t,_,rfl,SqT.of (hs _ _ e2),rfl,_,_,rfl,_,_,rfl,rfl,?_⟩;have hlen:(Yo (st.take i) xs).length=xs.length:=Xw _ _;have hp:(st[i]'hi).1<xs.length:=hst _ (zr3 hi);have e3:Yo (st.take (i+1)) xs=(Yo (st.take i) xs).set (st[i]'hi).1 (oV (st[i]'hi).2):=by
   rw[zrr hi,Lb];rfl
  refine⟨_,rfl,_,rfl,_,rfl,l,_,_,(st[i]'hi).1,rfl,rfl,hl2,(show ixN _ (((st[i]'hi).1:Nat):Int)=some _ by unfold ixN;rw[if_pos ⋯,if_pos ⋯,zsg]),⟨_,_,rfl⟩,?_,fun a o q=>?_⟩
  ·rw[e3];exact Zb
  ·rw[Zg (Zh q hln)];exact hs a o q
 ·obtain⟨⟨u,v,rfl⟩,hl2,hs⟩:=p;rw[htl,zrm] at hl2;exact⟨_,rfl,h l H' hl2 hs hln⟩
noncomputable abbrev Kj:Stmt:=top 49
theorem Oq:Zl ["may","given","place"] ["may"] (Zj Kj):=fnS
theorem Aa(F:Fun K "fill" "fill" Kj f fd)(T:Tx K mg a)(zfs:Yg P w K mg base "stepped" 1 ["given","steps"] (Q0 K))(zhh:Yg P w K mg base "chain" 2 ["may","given","place"] (Kb K)):FnOk P w K mg base (CX1 P w) 3 f fd ["may"] (Ca K):=by
 refine F.okX Oq ⋯ fun _ _ _ _ H _ Q E hr h=>?_;obtain⟨l,ls,rows,nu,rfl,hl,il,mo,h⟩:=h;refine⟨_,(Zc (Pq (i:=1) Oq.nd rfl rfl rfl (cT [] []) (Yw (K:=K) rfl (pv 0)) (fun _ _ _ _ _=>Uh) (fun _ _ _ _ _=>Xm))
 (Zc (V6 PassesOwn.leaving rfl (Qq rfl T.zgn (Za (Zu (cL K) (by rfl) T.zfz PySem.boot_len (Za (pv 0) Zd)) Zd)) (pN 2 Oq.nd)
  (Zf (pS 1 Oq.nd (pF zfs hr (Za (pv 1) (Za (pF zhh hr (Za (pv 0) (Za (pv 1) (Za (pv 2) Zd)))) Zd))))))
 (Zf (Zp (pv 1))))),?_⟩
 have hlen:=il.length;have hrl:rows.length<=100:=zro mo.few ⋯;refine⟨_,rfl,l,rfl,⟨_,SqL.of hl⟩,?_⟩;refine V2 (K:=K) (a:=l) (xs:=ls.map V.ref) (fun i ys H'=>H'=H/\ys=(rows.take i).map fun _=>V.non) ⟨rfl,by simp⟩ (fun i ys H' _ z=>by rw[z.1];exact SqL.of hl) (szN (by rw[zqx];omega)) (fun i ys H' z=>by rw[z.2,zqx,List.length_take];omega) ?_ ?_
 ·rintro i x ys H' hx ⟨rfl,rfl⟩;have hi:i<rows.length:=by
   have:=(zqz.mp hx).1;rw[zqx] at this;omega
  unfold tYes;dsimp only;rw[if_pos rfl];refine⟨rfl,?_⟩;rw[zrr hi,zre];rfl
 ·rintro ys H' ⟨rfl,rfl⟩ lg hlg;rw[zqx,hlen,zrm];have s1:=Ze (o:=.lst (rows.map fun _=>V.non)) hlg;have e1:upd H' lg (.lst (rows.map fun _=>V.non)) lg=some (.lst (rows.map fun _=>V.non)):=Zb;generalize upd H' lg (.lst (rows.map fun _=>V.non))=H1 at s1 e1;refine⟨_,rfl,l,_,rfl,.inl (SqL.of (s1 _ _ hl)),_,rfl,by omega,by rw[zqx];omega,?_⟩;rw[zqx,hlen,zsg]
  let jv6:Nat->L2.St->Hp->Prop:=fun i σ' Hx=>∃ (lg:Addr) (gs:List V) (v2:Option V),σ'=[some (.ref l),some (.ref lg),v2]/\Same H' Hx/\Hx lg=some (.lst gs)/\Vt rows gs i/\H' lg=none
  refine Mt jv6 ⟨lg,_,_,rfl,s1,e1,Mb rows,hlg⟩ ?_ ?_
  ·rintro i σ' Hx hi ⟨lg,gs,v2,rfl,sx,hgx,F,hn⟩;rw[Int.zero_add];refine⟨_,rfl,⟨_,rfl,_,rfl,_,rfl,l,lg,ls,rows,nu,gs,i,rfl,sx _ _ hl,il.same sx,mo,hgx,F.fill,hi,F.non (zq1 _) hi,fun lt ts st e w H2 h1 h2 c s2 hltn=>?_⟩⟩;refine⟨lg,lt,gs,ts,st,rfl,s2 _ _ hgx,h1,h2,fun s hs=>?_,F.fill.one,by rw[F.fill.len];omega,?_,fun l' H3 h3 s3 hl'=>?_⟩
   ·rw[F.fill.len];exact c.ch.lt F.fill hi s hs
   ·have:=c.len F.fill hi;omega
   ·exact⟨l',_,_,rfl,(sx.trans s2).trans s3,h3,F.step hi c,(sx.trans s2).free hl'⟩
  ·rintro σ' Hx ⟨lg,gs,v2,rfl,sx,hgx,F,hn⟩;exact⟨_,rfl,h lg gs Hx hgx F.fill F.last sx hn⟩
noncomputable abbrev Tg:Stmt:=top 50
theorem Jx:Zl ["given","number"] ["given","number"] (Zj Tg):=fnS
theorem Jy(F:Fun K "place_of" "place_of" Tg f fd)(T:Tx K mg a):FnOk P w K mg base (CX1 P w) 1 f fd ["given","number"] (M8 K):=by
 refine F.okX Jx ⋯ fun _ _ _ _ H _ Q E hr h=>?_;obtain⟨b,xs,n,rfl,hb,ho,hl,h⟩:=h;refine⟨_,(Zf (Zp (Kq (Zn (Rg (K:=K) rfl) (pv 1) (pv 0) (by with_unfolding_all rfl)) (Aj PySem.F.plainAttrs_list PySem.F.slot_list_index PySem.F.type_list_index Cd (pv 0) (Za (pv 1) Zd)) Xm))),?_⟩;have fl:xs.all Uw=true:=List.all_eq_true.mpr fun x hx=>by rcases ho x hx with rfl|⟨_,rfl⟩<;>rfl
 refine⟨_,rfl,_,rfl,b,xs,rfl,.inl (SqL.of hb),rfl,fl,_,rfl,?_⟩;have key:=@Ce xs n ho;show if inV (V.int n) xs=true then _ else _
 cases hp:Wk xs n with
 | none =>
   rw[hp] at h;have hno:¬ inV (V.int n) xs=true:=fun z=>by
    obtain⟨j,hj⟩:=key.mp z;have:=List.find?_eq_none.mp hp j (zsh.mpr (zqz.mp hj).1);exact this (zq2 hj)
   rw[if_neg hno];exact h H (Same.refl H)
 | some j =>
   rw[hp] at h;obtain⟨h1,h2,h3⟩:=List.find?_range_eq_some.mp hp;have hj:xs[j]?=some (.int n):=of_decide_eq_true h1;rw[if_pos (key.mpr ⟨j,hj⟩)];refine⟨_,rfl,?_,_,rfl,b,xs,.int n,j,rfl,rfl,hb,rfl,fl,⟨_,hj,(Oj (.inr ⟨_,rfl⟩)).mpr rfl⟩,fun m z hm hz=>?_,h H (Same.refl H)⟩
   ·exact .inl ⟨rfl,xs,SqL.of hb⟩
   ·have:=h3 m hm;have hne:¬ z=.int n:=fun q=>by
     rw[q] at hz;rw[zq2 hz] at this;cases this
    cases hb2:eqV z (.int n) with
    | false=>rfl
    | true=>exact absurd ((Oj (ho z (zq9 hz))).mp hb2) hne
noncomputable abbrev Xy:Stmt:=Zy (top 52) 0
theorem Qi:Zl ["self","listed","lists","given","gaps"] ["self","listed","lists","given","gaps"] (Zj Xy):=fnS
theorem Qj(F:Fun K "__init__" "Sheet.__init__" Xy f fd)(T:Tx K mg a):FnOk P w K mg base (CX1 P w) 1 f fd ["self","listed","lists","given","gaps"] (Qd (ca a)):=by
 refine F.okX Qi ⋯ fun _ _ _ _ H _ Q E hr h=>?_;obtain⟨q,dx,l1,l2,l3,l4,rfl,hq,h⟩:=h;refine⟨_,(Zc (Yi (K:=K) rfl (pv 0) (pv 1) rfl)
 (Zc (Yi (K:=K) rfl (pv 0) (pv 2) rfl)
 (Zc (Yi (K:=K) rfl (pv 0) (pv 3) rfl)
 (Zf (Yi (K:=K) rfl (pv 0) (pv 4) rfl))))),?_⟩
 refine⟨_,rfl,_,rfl,q,a.zdu,dx,[],rfl,hq,T.zee,T.zfm,⋯,?_⟩;refine⟨_,rfl,_,rfl,q,a.zdu,dx,[("listed",.ref l1)],rfl,Zb,T.zee,T.zh0,(by show 1<1000;decide),?_⟩;rw[zde];refine⟨_,rfl,_,rfl,q,a.zdu,dx,_,rfl,Zb,T.zee,T.zfv,(by show 2<1000;decide),?_⟩;rw[zdf];refine⟨_,rfl,_,rfl,q,a.zdu,dx,_,rfl,Zb,T.zee,T.zhb,(by show 3<1000;decide),?_⟩;rw[zdg];refine h _ ?_;rw[Of,Of,Of];rfl
noncomputable abbrev Ww:Stmt:=Zy (top 52) 1
theorem P4:Zl ["self","lists"] ["self","lists"] (Zj Ww):=fnS
theorem P5(F:Fun K "barred" "Sheet.barred" Ww f fd)(T:Tx K mg a)(zf6:V9 P w K mg base "Sheet" a.zdu 1 ["self","listed","lists","given","gaps"] (Qd (ca a))):FnOk P w K mg base (CX1 P w) 3 f fd ["self","lists"] (Ji (ca a)):=by
 refine F.okX P4 ⋯ fun _ _ _ _ H _ Q E hr h=>?_;obtain⟨ok,q,l2,ls,rows,s,rfl,SA,hl2,il,ok2,okl,no,h⟩:=h;refine⟨_,(Zf (Zp (O3 zf6 (hr.mono ⋯) Zk rfl (Za (Zm (K:=K) rfl (pv 0) rfl) (Za (pv 1) (Za (Zm (K:=K) rfl (pv 0) rfl) (Za (Zm (K:=K) rfl (pv 0) rfl) Zd))))))),?_⟩;obtain⟨dx,m1,m2,m3,m4,ts,ms,gts,a1,a2,a3,a4,a5,a6,a7,a8,o1,o2,o3,o4,o5,o6⟩:=id SA;refine⟨_,rfl,q,a.zdu,dx,_,_,rfl,a1,T.zee,T.zfm,Sn,_,rfl,_,rfl,q,a.zdu,dx,_,_,rfl,a1,T.zee,T.zfv,T6,_,rfl,q,a.zdu,dx,_,_,rfl,a1,T.zee,T.zhb,Ke,?_⟩;intro q' dx' hq' hdx' ne;refine⟨q',dx',m1,l2,m3,m4,rfl,Zb,fun H' e=>⟨rfl,?_⟩⟩;obtain⟨s1,q1⟩:=Rn (C:=a.zdu) (l1:=m1) (l2:=l2) (l3:=m3) (l4:=m4) hq' hdx' ne;rw[<- e] at s1 q1;exact h q' H' ⟨dx',m1,l2,m3,m4,ts,ls,gts,q1,s1 _ _ a2,a3.same s1,s1 _ _ hl2,il.same s1,s1 _ _ a6,s1 _ _ a7,a8.keep (fun _ _ _ z=>s1 _ _ z) (fun _ _ z=>s1 _ _ z),no _ hq',o2,ok2,o4,o5,okl⟩ s1 hq'
noncomputable abbrev Xh:Stmt:=Zy (top 52) 2
theorem Y8:Zl ["self","number","lists","place","gap","steps"] ["self","number","lists"] (Zj Xh):=fnS
theorem Sz(F:Fun K "fallen_out" "Sheet.fallen_out" Xh f fd)(T:Tx K mg a)(ze0:Zt P w K mg base a.zdu "where" 2 ["self","number"] (Q4 (ca a)))(zfs:Yg P w K mg base "stepped" 1 ["given","steps"] (Q0 K))(zhh:Yg P w K mg base "chain" 2 ["may","given","place"] (Kb K))(zf6:V9 P w K mg base "Sheet" a.zdu 1 ["self","listed","lists","given","gaps"] (Qd (ca a))):FnOk P w K mg base (CX1 P w) 3 f fd ["self","number","lists"] (Jj (ca a)):=by
 refine F.okX Y8 ⋯ fun _ _ _ _ H _ Q E hr h=>?_;obtain⟨ok,q,l2,ls,rows,nu,s,n,p,rfl,SA,hl2,il,ok2,okl,no,mo,ho,hgp,hun,FP,hgz,h⟩:=h;refine⟨_,(Zc (pS 3 Y8.nd (Xl (pv 0) T.zee ze0 (hr.mono ⋯) Zk (Za (pv 1) Zd)))
 (Zc (pS 4 Y8.nd (pF zfs hr (Za (Zm (K:=K) rfl (pv 0) rfl) (Za (Z3 (Za (Yp (Za (pv 3) (Za Xm Zd))) Zd)) Zd))))
 (Zc (pS 5 Y8.nd (pF zhh hr (Za (pv 2) (Za (pv 4) (Za (pv 3) Zd)))))
 (Zf (Zp (O3 zf6 (hr.mono ⋯) Zk rfl (Za (Zm (K:=K) rfl (pv 0) rfl) (Za (pv 2) (Za (pF zfs hr (Za (pv 4) (Za (pv 5) Zd))) (Za (Ym Vm (Zm (K:=K) rfl (pv 0) rfl) (Z3 (Za (Yp (Za (pv 1) (Za (pv 5) Zd))) Zd))) Zd)))))))))),?_⟩
 obtain⟨dx,m1,m2,m3,m4,ts,ms,gts,a1,a2,a3,a4,a5,a6,a7,a8,o1,o2,o3,o4,o5,o6⟩:=id SA;have hrl:rows.length<=100:=zro mo.few ⋯;have hgl:s.gv.length<=100:=by have:=FP.len;rw[zr5] at this;omega
 have hpl:p<s.gv.length:=(zqz.mp hgp).1;have hpr:p<rows.length:=by have:=FP.len;rw[zr5] at this;omega
 have hplace:Wk s.gv n=some p:=by
  unfold Wk;rw[List.find?_eq_some_iff_getElem];refine⟨zq2 hgp,p,by rw[zr9];exact hpl,by rw[List.getElem_range],fun j hj=>?_⟩;rw[List.getElem_range,Bool.not_eq_true',decide_eq_false_iff_not];exact fun z=>absurd (hun j z) ⋯
 refine⟨_,rfl,q,dx,_,rfl,a1,T7 ⋯ ⋯ ⋯ ⋯,_,rfl,ok,q,s,n,rfl,SA,ho,hgl,fun H1 s1=>?_⟩;rw[hplace,show oN (some p)=V.int (p:Nat) from rfl];have SA1:=SA.same s1;refine⟨_,rfl,q,a.zdu,dx,_,_,rfl,s1 _ _ a1,T.zee,T.zfv,T6,_,rfl,sz2,fun t1 ht1=>⟨sz1,fun lx hlx=>?_⟩⟩;have s2:=Ze (o:=.tup [.int (p:Nat),.non]) ht1;have q2:upd H1 t1 (.tup [.int (p:Nat),.non]) t1=some (.tup (W6 (p,none))):=Zb;generalize upd H1 t1 (.tup [.int (p:Nat),.non])=H2 at s2 q2 hlx;have s3:=Ze (o:=.lst [V.ref t1]) hlx;have q3:upd H2 lx (.lst [V.ref t1]) lx=some (.lst [V.ref t1]):=Zb;have q23:=s3 _ _ q2;generalize upd H2 lx (.lst [V.ref t1])=H3 at s3 q3 q23;have s13:=s1.trans (s2.trans s3);refine⟨m3,lx,s.gv,[V.ref t1],[(p,none)],rfl,s13 _ _ a6,q3,.cons q23 .nil,fun st hst=>by rw[zq3.mp hst];exact hpl,ho,hgl,by show 1<=100;decide,fun lg H4 hg4 s4 f4=>?_⟩;have s14:=s13.trans s4;have hg4:H4 lg=some (.lst (s.gv.set p .non)):=hg4;refine⟨_,rfl,_,rfl,_,rfl,l2,lg,ls,rows,nu,s.gv.set p .non,p,rfl,s14 _ _ hl2,il.same s14,mo,hg4,FP,hpr,by rw[zrw hpl],fun lt us st e w H5 hlt tl CR s5 f5=>?_⟩;have s15:=s14.trans s5;have hst100:st.length<=100:=zro (CR.len FP hpr) hrl;refine⟨_,rfl,q,a.zdu,dx,_,_,rfl,s15 _ _ a1,T.zee,T.zfm,Sn,_,rfl,_,rfl,_,rfl,lg,lt,s.gv.set p .non,us,st,rfl,s5 _ _ hg4,hlt,tl,fun x hx=>?_,FP.one,by rw[FP.len];exact hrl,hst100,fun l3 H6 h6 s6 f6=>?_⟩
 ·rw[FP.len];exact CR.ch.lt FP hpr x hx
 have s16:=s15.trans s6;refine⟨_,rfl,q,a.zdu,dx,_,_,rfl,s16 _ _ a1,T.zee,T.zhb,Ke,_,rfl,_,rfl,sz2,fun t2 ht2=>⟨sz1,fun ly hly=>?_⟩⟩;have s7:=Ze (o:=.tup [.int n,.ref lt]) ht2;have q7:upd H6 t2 (.tup [.int n,.ref lt]) t2=some (.tup [.int n,.ref lt]):=Zb;generalize upd H6 t2 (.tup [.int n,.ref lt])=H7 at s7 q7 hly;have s8:=Ze (o:=.lst [V.ref t2]) hly;have q8:upd H7 ly (.lst [V.ref t2]) ly=some (.lst [V.ref t2]):=Zb;have q78:=s8 _ _ q7;generalize upd H7 ly (.lst [V.ref t2])=H8 at s8 q8 q78;have s18:=s16.trans (s7.trans s8);refine⟨m4,ly,gts,[V.ref t2],rfl,rfl,s18 _ _ a7,q8,by have:=a8.length;show gts.length+1<=sizeLine;have:=Uz;omega,fun l4 hl4=>?_⟩;have s9:=Ze (o:=.lst (gts++[V.ref t2])) hl4;have q9:upd H8 l4 (.lst (gts++[V.ref t2])) l4=some (.lst (gts++[V.ref t2])):=Zb;generalize upd H8 l4 (.lst (gts++[V.ref t2]))=H9 at s9 q9;have s19:=s18.trans s9;intro q' dx' hq' hdx' ne;refine⟨q',dx',m1,l2,l3,l4,rfl,Zb,fun H' e'=>⟨rfl,?_⟩⟩;obtain⟨s10,q10⟩:=Rn (C:=a.zdu) (l1:=m1) (l2:=l2) (l3:=l3) (l4:=l4) hq' hdx' ne;rw[<- e'] at s10 q10;have s:=s19.trans s10;have s6x:=s7.trans (s8.trans (s9.trans s10));have s5x:=s6.trans s6x;refine h q' st e w H' ⟨dx',m1,l2,l3,l4,ts,ls,gts++[V.ref t2],q10,s _ _ a2,a3.same s,s _ _ hl2,il.same s,s6x _ _ h6,s10 _ _ q9,?_,no _ (s19.free hq'),o2,ok2,no _ (s15.free f6),no _ (s18.free hl4),okl⟩ CR s (s19.free hq');exact(a8.keep (fun _ _ _ z=>s _ _ z) (fun _ _ z=>s _ _ z)).snoc ((s9.trans s10) _ _ q78) (s5x _ _ hlt) (tl.same s5x) (no _ (s14.free f5))
noncomputable abbrev Wa:Stmt:=Zy (top 52) 3
theorem Pb:Zl ["self"] ["self"] (Zj Wa):=fnS
theorem Pc(F:Fun K "matches" "Sheet.matches" Wa f fd)(T:Tx K mg a):FnOk P w K mg base (CX1 P w) 1 f fd ["self"] (Po (ca a)):=by
 refine F.okX Pb ⋯ fun _ _ _ _ H _ Q E hr h=>?_;obtain⟨ok,q,s,rfl,SA,h⟩:=h;refine⟨_,(Zf (Zp (Xb (Y3 (K:=K) rfl) (by rfl) T.zfr PyProof.Rows.boot_list (Za (Zm (K:=K) rfl (pv 0) rfl) Zd)))),?_⟩;obtain⟨dx,m1,m2,m3,m4,ts,ms,gts,a1,a2,a3,a4,a5,a6,a7,a8,o1,o2,o3,o4,o5,o6⟩:=id SA;refine⟨_,rfl,q,a.zdu,dx,_,_,rfl,a1,T.zee,T.zfm,Sn,m1,_,rfl,.inl (SqL.of a2),fun l hl=>?_⟩;exact h l ts _ Zb (a3.same (Ze hl)) (Ze hl) hl
noncomputable abbrev Vz:Stmt:=Zy (top 52) 7
theorem Mj:Zl ["self"] ["self"] (Zj Vz):=fnS
theorem Ml(F:Fun K "goes" "Sheet.goes" Vz f fd)(T:Tx K mg a):FnOk P w K mg base (CX1 P w) 1 f fd ["self"] (Jk (ca a)):=by
 refine F.okX Mj ⋯ fun _ _ _ _ H _ Q E hr h=>?_;obtain⟨ok,q,s,rfl,SA,h⟩:=h;refine⟨_,(Zf (Zp (Xb (Y3 (K:=K) rfl) (by rfl) T.zfr PyProof.Rows.boot_list (Za (Zm (K:=K) rfl (pv 0) rfl) Zd)))),?_⟩;obtain⟨dx,m1,m2,m3,m4,ts,ms,gts,a1,a2,a3,a4,a5,a6,a7,a8,o1,o2,o3,o4,o5,o6⟩:=id SA;refine⟨_,rfl,q,a.zdu,dx,_,_,rfl,a1,T.zee,T.zfv,T6,m3,_,rfl,.inl (SqL.of a6),fun l hl=>?_⟩;exact h l _ Zb (Ze hl) hl
noncomputable abbrev Ve:Stmt:=Zy (top 52) 8
theorem Nw:Zl ["self","number"] ["self","number"] (Zj Ve):=fnS
theorem Ny(F:Fun K "where" "Sheet.where" Ve f fd)(T:Tx K mg a)(zhp:Yg P w K mg base "place_of" 1 ["given","number"] (M8 K)):FnOk P w K mg base (CX1 P w) 2 f fd ["self","number"] (Q4 (ca a)):=by
 refine F.okX Nw ⋯ fun _ _ _ _ H _ Q E hr h=>?_;obtain⟨ok,q,s,n,rfl,SA,ho,hgl,h⟩:=h;refine⟨_,(Zf (Zp (pF zhp hr (Za (Zm (K:=K) rfl (pv 0) rfl) (Za (pv 1) Zd))))),?_⟩;obtain⟨dx,m1,m2,m3,m4,ts,ms,gts,a1,a2,a3,a4,a5,a6,a7,a8,o1,o2,o3,o4,o5,o6⟩:=id SA;exact⟨_,rfl,q,a.zdu,dx,_,_,rfl,a1,T.zee,T.zfv,T6,_,rfl,m3,s.gv,n,rfl,a6,ho,hgl,fun H' s'=>h H' s'⟩
noncomputable abbrev Wx:Stmt:=Zy (top 52) 11
theorem P6:Zl ["self"] ["self"] (Zj Wx):=fnS
theorem P7(F:Fun K "chains" "Sheet.chains" Wx f fd)(T:Tx K mg a):FnOk P w K mg base (CX1 P w) 1 f fd ["self"] (Nf (ca a)):=by
 refine F.okX P6 ⋯ fun _ _ _ _ H _ Q E hr h=>?_;obtain⟨ok,q,s,rfl,SA,hgz,h⟩:=h;refine⟨_,(Zf (Zp (Nd rfl (Qa.mk (xo:=["number","steps"]) (ys:=[]) (js:=[]) rfl rfl ⋯ ⋯ rfl (by repeat' (first|exact True.intro|apply And.intro|rfl)) (by repeat' (first|exact True.intro|apply And.intro|rfl)) ⋯) (Yw (K:=K) rfl (Zm (K:=K) rfl (pv 0) rfl)) (fun _ _ _ _ _=>Uh) (fun _ _ _ _ _=>(Ui (K:=K) (n:=2) rfl rfl (Yd (Vq (i:=0) (show List.Nodup [("number":Str),("steps":Str)] by decide +kernel) rfl (by first|exact Or.inl rfl|exact Or.inr rfl)) (Yd (Vq (i:=1) (show List.Nodup [("number":Str),("steps":Str)] by decide +kernel) rfl (by first|exact Or.inl rfl|exact Or.inr rfl)) Ue)))) (fun _ _ _ _ _=>(Yp (Za (pv 0) (Za (Xb (Y3 (K:=K) rfl) (by rfl) T.zfr PyProof.Rows.boot_list (Za (pv 1) Zd)) Zd))))))),?_⟩;obtain⟨dx,m1,m2,m3,m4,ts,ms,gts,a1,a2,a3,a4,a5,a6,a7,a8,o1,o2,o3,o4,o5,o6⟩:=id SA;have hgts:=a8.length;refine⟨_,rfl,q,a.zdu,dx,_,_,rfl,a1,T.zee,T.zhb,Ke,m4,rfl,⟨_,SqL.of a7⟩,?_⟩;refine Ng (K:=K) (xs:=gts) (fun i ys H'=>Same H H'/\We (fun x=>H x=none) H' ys (s.gaps.take i)/\ys.length=i) ⟨Same.refl _,.nil,rfl⟩ (fun i ys H' _ ⟨s',_⟩=>SqL.of (s' _ _ a7)) (szN ⋯) (fun i ys H' ⟨_,_,e⟩=>by omega) ?_ ?_
 ·rintro i x ys H' hx ⟨s1,gl,hyl⟩;obtain⟨t,l,n,us,st,rfl,hgi,ht,hl,tl,_⟩:=a8.get hx;have ht1:=s1 _ _ ht;have hl1:=s1 _ _ hl;refine⟨t,_,rfl,SqT.of ht1,rfl,_,_,rfl,_,_,rfl,rfl,⟨[some (.int n),some (.ref l)],rfl,rfl⟩,?_⟩;unfold tYes;dsimp only;rw[if_pos rfl];refine⟨_,rfl,_,rfl,l,_,rfl,.inl (SqL.of hl1),fun l2 hl2=>?_⟩;have s2:=Ze (o:=.lst us) hl2;have q2:upd H' l2 (.lst us) l2=some (.lst us):=Zb;have f2:H l2=none:=s1.free hl2;generalize upd H' l2 (.lst us)=H2 at s2 q2;refine⟨sz2,fun t2 ht2=>?_⟩;have s3:=Ze (o:=.tup [.int n,.ref l2]) ht2;have s23:=s2.trans s3;refine⟨s1.trans s23,?_,by rw[zq4,hyl];rfl⟩;have e:s.gaps.take (i+1)=s.gaps.take i++[(n,st)]:=by rw[zry,hgi];rfl
  rw[e];exact(gl.keep (fun _ _ _ z=>s23 _ _ z) (fun _ _ z=>s23 _ _ z)).snoc Zb (s3 _ _ q2) (tl.same (s1.trans s23)) f2
 ·rintro ys H' ⟨s1,gl,hyl⟩ l hl;rw[hgts,zrm] at gl;refine h l ys _ Zb ?_ (s1.trans (Ze hl)) (s1.free hl);exact(gl.imp (ok':=fun x=>H x=none/\x≠l) fun x ⟨o,e⟩ z=>⟨z,Zh e hl⟩).keep (fun _ _ _ z=>Ze hl _ _ z) (fun _ _ z=>Ze hl _ _ z)
noncomputable abbrev V0:Stmt:=Zy (top 52) 12
theorem Mm:Zl ["self"] ["self"] (Zj V0):=fnS
theorem Mn(F:Fun K "rows" "Sheet.rows" V0 f fd)(T:Tx K mg a):FnOk P w K mg base (CX1 P w) 1 f fd ["self"] (Jl (ca a)):=by
 refine F.okX Mm ⋯ fun _ _ _ _ H _ Q E hr h=>?_;obtain⟨ok,q,s,rfl,SA,ho,hgl,hml,h⟩:=h;refine⟨_,(Zf (Zp (Nd rfl (Qa.mk (xo:=["match","number"]) (ys:=[]) (js:=[]) rfl rfl ⋯ ⋯ rfl (by repeat' (first|exact True.intro|apply And.intro|rfl)) (by repeat' (first|exact True.intro|apply And.intro|rfl)) ⋯) (za5 (K:=K) rfl rfl T.zjj (Za (Zm (K:=K) rfl (pv 0) rfl) (Za (Zm (K:=K) rfl (pv 0) rfl) Zd))) (fun _ _ _ _ _=>Uh) (fun _ _ _ _ _=>(Ui (K:=K) (n:=2) rfl rfl (Yd (Vq (i:=0) (show List.Nodup [("match":Str),("number":Str)] by decide +kernel) rfl (by first|exact Or.inl rfl|exact Or.inr rfl)) (Yd (Vq (i:=1) (show List.Nodup [("match":Str),("number":Str)] by decide +kernel) rfl (by first|exact Or.inl rfl|exact Or.inr rfl)) Ue)))) (fun _ _ _ _ _=>(Ym (Jg (K:=K) rfl) (pv 0) (Yp (Za (pv 1) Zd))))))),?_⟩;obtain⟨dx,m1,m2,m3,m4,ts,ms,gts,a1,a2,a3,a4,a5,a6,a7,a8,o1,o2,o3,o4,o5,o6⟩:=id SA;have hts:ts.length=s.ms.length:=by rw[a3.length,zqx]
 refine⟨_,rfl,q,a.zdu,dx,_,_,rfl,a1,T.zee,T.zfm,Sn,_,rfl,q,a.zdu,dx,_,_,rfl,a1,T.zee,T.zfv,T6,m1,m3,rfl,⟨_,SqL.of a2⟩,⟨_,SqL.of a6⟩,?_⟩;refine Ei (K:=K) (xs:=ts) (zs:=s.gv) (fun i ys H'=>Same H H'/\TupL H' ys (((W8 s).take i).map Qy)/\ys.length=i) ⟨Same.refl _,.nil,rfl⟩ ⋯ (fun i ys H' _ ⟨s',_⟩=>⟨SqL.of (s' _ _ a2),SqL.of (s' _ _ a6)⟩) (szN ⋯) (fun i ys H' ⟨_,_,e⟩=>by omega) ?_ ?_
 ·rintro i x z t ys H' hx hz ⟨s1,tl,hyl⟩ ht;obtain⟨tm,m,rfl,hm,htm⟩:=D9 a3 hx;have oz:=ho z (zq9 hz);have s2:=s1.trans (Ze (o:=.tup [.ref tm,z]) ht);have tl2:=tl.same (Ze (o:=.tup [.ref tm,z]) ht);have q2:upd H' t (.tup [.ref tm,z]) t=some (.tup [.ref tm,z]):=Zb;generalize upd H' t (.tup [.ref tm,z])=H2 at s2 tl2 q2;refine⟨t,_,rfl,SqT.of q2,rfl,_,_,rfl,_,_,rfl,rfl,⟨[some (.ref tm),some z],rfl,rfl⟩,?_⟩;unfold tYes;dsimp only;rw[if_pos rfl];refine⟨_,rfl,_,rfl,sz1,fun t1 ht1=>?_⟩;have s3:=Ze (o:=.tup [z]) ht1;have q3:upd H2 t1 (.tup [z]) t1=some (.tup [z]):=Zb;generalize upd H2 t1 (.tup [z])=H3 at s3 q3;refine⟨tm,t1,_,_,rfl,rfl,SqT.of ((s2.trans s3) _ _ htm),SqT.of q3,by unfold pV;simp,by show 3+1<=sizeLine;exact sz4,fun z=>absurd z (by simp),fun _ t2 ht2=>?_⟩;have s4:=Ze (o:=.tup (pV m++[z])) ht2;refine⟨s2.trans (s3.trans s4),?_,by rw[zq4,hyl];rfl⟩;rw[Ej hm hz,zre];refine((tl2.same s3).same s4).snoc ?_;rw[Zb,zba m oz];rfl
 ·rintro ys H' ⟨s1,tl,hyl⟩ l hl;rw[hts,<- Jm hgl,zrm] at tl;exact h l ys _ Zb (tl.same (Ze hl)) (s1.trans (Ze hl)) (s1.free hl)
noncomputable abbrev Vf:Stmt:=top 53
theorem Nz:Zl ["listed","lists"] ["listed","lists"] (Zj Vf):=fnS
theorem N0(F:Fun K "drawn_sheet" "drawn_sheet" Vf f fd)(T:Tx K mg a)(zf6:V9 P w K mg base "Sheet" a.zdu 1 ["self","listed","lists","given","gaps"] (Qd (ca a)))(zjn:Yg P w K mg base "fill" 3 ["may"] (Ca K)):FnOk P w K mg base (CX1 P w) 4 f fd ["listed","lists"] (Gy (ca a)):=by
 refine F.okX Nz ⋯ fun _ _ _ _ H _ Q E hr h=>?_;obtain⟨ok,l1,l2,ts,ls,ms,rows,nu,rfl,hl1,tl,hl2,il,ok1,ok2,okl,no,mo,h⟩:=h;refine⟨_,(Zf (Zp (O3 zf6 (hr.mono ⋯) Zk rfl (Za (pv 0) (Za (pv 1) (Za (pF zjn hr (Za (pv 1) Zd)) (Za (Z3 Zd) Zd))))))),?_⟩;refine⟨_,rfl,_,rfl,_,rfl,l2,ls,rows,nu,rfl,hl2,il,mo,fun l3 gv H1 h3 FP SP s1 f3=>?_⟩;refine⟨by show 0<=sizeLine;decide,fun l4 hl4=>?_⟩;have s2:=Ze (o:=.lst []) hl4;have q2:upd H1 l4 (.lst []) l4=some (.lst []):=Zb;generalize upd H1 l4 (.lst [])=H2 at s2 q2;have s12:=s1.trans s2;intro q dx hq hdx ne;refine⟨q,dx,l1,l2,l3,l4,rfl,Zb,fun H' e=>⟨rfl,?_⟩⟩;obtain⟨s3,q3⟩:=Rn (C:=a.zdu) (l1:=l1) (l2:=l2) (l3:=l3) (l4:=l4) hq hdx ne;rw[<- e] at s3 q3;have s:=s12.trans s3;exact h q gv H' ⟨dx,l1,l2,l3,l4,ts,ls,[],q3,s _ _ hl1,tl.same s,s _ _ hl2,il.same s,s3 _ _ (s2 _ _ h3),s3 _ _ q2,.nil,no _ (s12.free hq),ok1,ok2,no _ f3,no _ (s1.free hl4),okl⟩ FP SP s (s12.free hq)
noncomputable abbrev Xp:Stmt:=Zy (top 55) 0
theorem Rx:Zl ["self","rounds","rest"] ["self","rounds","rest"] (Zj Xp):=fnS
theorem Ry(F:Fun K "__init__" "Season.__init__" Xp f fd)(T:Tx K mg a)(zd6:Yg P w K mg base "check_range" 1 ["value","least","most"] (Qc a.zd0))(zi4:V9 P w K mg base "Roster" a.zdt 1 ["self"] (Gw (ca a)))(ziy:V9 P w K mg base "Ledger" a.zdr 1 ["self"] (Gp a.zdr)):FnOk P w K mg base (CX1 P w) 3 f fd ["self","rounds","rest"] (Kh (ca a)):=by
 refine F.okX Rx ⋯ fun _ _ _ _ H _ Q E hr h=>?_;obtain⟨p,dx,r,q,rfl,hp,sr,sq,h⟩:=h;refine⟨_,(Zc (Z4 (pF zd6 hr (Za (pv 1) (Za Zi (Za (Y7 rfl T.ze1) Zd)))))
 (Zc (Z4 (pF zd6 hr (Za (pv 2) (Za Zi (Za (Y7 rfl T.zfh) Zd)))))
 (Zc (Yi (K:=K) rfl (pv 0) (pv 1) rfl)
 (Zc (Yi (K:=K) rfl (pv 0) (pv 2) rfl)
 (Zc (Yi (K:=K) rfl (pv 0) (Gj zi4 (hr.mono ⋯) Zk rfl) rfl)
 (Zc (Yi (K:=K) rfl (pv 0) (Gj ziy (hr.mono ⋯) Zk rfl) rfl)
 (Zc (Yi (K:=K) rfl (pv 0) K1 rfl)
 (Zc (Yi (K:=K) rfl (pv 0) (Z3 Zd) rfl)
 (Zc (Yi (K:=K) rfl (pv 0) Xm rfl)
 (Zf (Yi (K:=K) rfl (pv 0) (Z3 Zd) rfl))))))))))),?_⟩
 show let y1:TS:=_;let y2:TS:=Z7 _ y1;let y3:TS:=Z7 _ y2;let y4:TS:=Z7 _ y3;let y5:TS:=Z7 _ y4;let y6:TS:=Z7 _ y5;let y7:TS:=Z7 _ y6;let y8:TS:=Z7 _ y7;let y9:TS:=Z7 _ y8;Z7 _ y9 _ _ _;intro y1 y2 y3 y4 y5 y6 y7 y8 y9;refine⟨_,rfl,r,0,60,rfl,sr,Z5 ⋯,Z5 ⋯,?_⟩;refine it2 h (fun _ z=>z) fun h1 h=>?_;refine⟨_,rfl,q,0,10,rfl,sq,Z5 ⋯,Z5 ⋯,?_⟩;refine it2 h (fun _ z=>z) fun h2 hF=>?_;have er:r=((r.toNat:Nat):Int):=by omega
 have eq':q=((q.toNat:Nat):Int):=by omega
 generalize r.toNat=rn at hF er;generalize q.toNat=qn at hF eq';subst er eq';refine⟨_,rfl,_,rfl,p,a.zdp,dx,_,rfl,hp,T.zdq,T.zf8,(by show 0<1000;decide),?_⟩;rw[pF1];refine⟨_,rfl,_,rfl,p,a.zdp,dx,_,rfl,Zb,T.zdq,T.zid,(by show 1<1000;decide),?_⟩;rw[pF2,Of];have b1:Wn p H (upd H p (.ins a.zdp dx (sF2 (.int rn) (.int qn)))):=.put;have q1:upd H p (.ins a.zdp dx (sF2 (.int rn) (.int qn))) p=some (.ins a.zdp dx (sF2 (.int rn) (.int qn))):=Zb;generalize upd H p (.ins a.zdp dx (sF2 (.int rn) (.int qn)))=H1 at b1 q1;intro pr dxr hpr hdxr ne;refine⟨pr,dxr,rfl,Zb,fun dr hdr=>⟨rfl,?_⟩⟩;have ndp:dr≠pr:=fun z=>by rw[z,Zb] at hdr;cases hdr
 have ndx:dr≠dxr:=fun z=>by rw[z,Zg ne,Zb] at hdr;cases hdr
 have hdr1:H1 dr=none:=by rw[Zg ndp,Zg ndx] at hdr;exact hdr
 have s2:Same H1 (upd (upd (upd (upd H1 dxr (.own pr)) pr (.ins a.zdt dxr [])) dr (.dK [])) pr (.ins a.zdt dxr [("entries",.ref dr)])):=fun b o e=>by
  rw[Zg (Zh e hpr),Zg (Zh e hdr1),Zg (Zh e hpr),Zg (Zh e hdxr)];exact e
 have R2:Yt a.zdt (upd (upd (upd (upd H1 dxr (.own pr)) pr (.ins a.zdt dxr [])) dr (.dK [])) pr (.ins a.zdt dxr [("entries",.ref dr)])) pr dr []:=⟨⟨dxr,[],Zb,by rw[Zg ndp,Zb],.nil⟩,List.nodup_nil⟩;generalize upd (upd (upd (upd H1 dxr (.own pr)) pr (.ins a.zdt dxr [])) dr (.dK [])) pr (.ins a.zdt dxr [("entries",.ref dr)])=H2 at s2 R2;refine⟨_,rfl,p,a.zdp,dx,_,rfl,s2 _ _ q1,T.zdq,T.zex,(by show 2<1000;decide),?_⟩;rw[pF3];have np2:pr≠p/\dr≠p:=⟨Ne.symm (Zh q1 hpr),Ne.symm (Zh q1 hdr1)⟩;have b3:Wn p H (upd H2 p (.ins a.zdp dx (sF3 (.int rn) (.int qn) (.ref pr)))):=b1.trans ((Wn.of s2).trans .put);have q3:upd H2 p (.ins a.zdp dx (sF3 (.int rn) (.int qn) (.ref pr))) p=some (.ins a.zdp dx (sF3 (.int rn) (.int qn) (.ref pr))):=Zb;have kt3:∀ t xs,H2 t=some (.tup xs)->upd H2 p (.ins a.zdp dx (sF3 (.int rn) (.int qn) (.ref pr))) t=some (.tup xs):=fun t xs e=>by rw[Zg (Yl e (s2 _ _ q1) (fun z=>nomatch z))];exact e
 have R3:=R2.keep (H':=upd H2 p (.ins a.zdp dx (sF3 (.int rn) (.int qn) (.ref pr)))) (fun o e=>by rw[Zg np2.1];exact e) (fun o e=>by rw[Zg np2.2];exact e) kt3;have fdr:H dr=none:=Wn.free b1 ⟨_,q1⟩ hdr1;have hr2:H2 dr=some (.dK [])/\∃ o,H2 pr=some o:=by
  obtain⟨⟨x,kv,z1,z2,z3⟩,_⟩:=R2;cases z3;exact⟨z2,_,z1⟩
 generalize upd H2 p (.ins a.zdp dx (sF3 (.int rn) (.int qn) (.ref pr)))=H3 at b3 q3 R3;intro pl dxl hpl hdxl nel;refine⟨pl,dxl,rfl,Zb,fun lr ld H4 L0 k0 f0 g0 n0=>⟨rfl,?_⟩⟩;obtain⟨s4,fr0,fd0⟩:=D6 hpl hdxl nel k0 f0 g0;refine⟨_,rfl,p,a.zdp,dx,_,rfl,s4 _ _ q3,T.zdq,T.ze4,(by show 3<1000;decide),?_⟩;rw[pF4];have q4:=s4 _ _ q3;have np4:pl≠p/\lr≠p/\ld≠p:=⟨Ne.symm (Zh q3 hpl),Ne.symm (Zh q3 fr0),Ne.symm (Zh q3 fd0)⟩;have b5:Wn p H (upd H4 p (.ins a.zdp dx (sF4 (.int rn) (.int qn) (.ref pr) (.ref pl)))):=b3.trans ((Wn.of s4).trans .put);have q5:upd H4 p (.ins a.zdp dx (sF4 (.int rn) (.int qn) (.ref pr) (.ref pl))) p=some (.ins a.zdp dx (sF4 (.int rn) (.int qn) (.ref pr) (.ref pl))):=Zb;have kt5:∀ t xs,H4 t=some (.tup xs)->upd H4 p (.ins a.zdp dx (sF4 (.int rn) (.int qn) (.ref pr) (.ref pl))) t=some (.tup xs):=fun t xs e=>by rw[Zg (Yl e q4 (fun z=>nomatch z))];exact e
 have R5:=(R3.same s4).keep (H':=upd H4 p (.ins a.zdp dx (sF4 (.int rn) (.int qn) (.ref pr) (.ref pl)))) (fun o e=>by rw[Zg np2.1];exact e) (fun o e=>by rw[Zg np2.2];exact e) kt5;have L5:=L0.keep (H':=upd H4 p (.ins a.zdp dx (sF4 (.int rn) (.int qn) (.ref pr) (.ref pl)))) (fun o e=>by rw[Zg np4.1];exact e) (fun o e=>by rw[Zg np4.2.1];exact e) (fun o e=>by rw[Zg np4.2.2];exact e) kt5;have flr:H lr=none:=Wn.free b3 ⟨_,q3⟩ fr0;have fld:H ld=none:=Wn.free b3 ⟨_,q3⟩ fd0;have nrp:pr≠pl/\dr≠pl/\pr≠lr/\dr≠lr/\pr≠ld/\dr≠ld:=by
  obtain⟨⟨x,kv,z1,z2,_⟩,_⟩:=R3;exact⟨Zh z1 hpl,Zh z2 hpl,Zh z1 fr0,Zh z2 fr0,Zh z1 fd0,Zh z2 fd0⟩
 generalize upd H4 p (.ins a.zdp dx (sF4 (.int rn) (.int qn) (.ref pr) (.ref pl)))=H5 at b5 q5 R5 L5;intro da hda;have npa:da≠p:=Ne.symm (Zh q5 hda);refine⟨_,rfl,p,a.zdp,dx,_,rfl,Ze (o:=.dT []) hda _ _ q5,T.zdq,T.zfk,(by show 4<1000;decide),?_⟩;rw[pF5];have b7:Wn p H5 (upd (upd H5 da (.dT [])) p (.ins a.zdp dx (sF5 (.int rn) (.int qn) (.ref pr) (.ref pl) (.ref da)))):=(Wn.of (Ze hda)).trans .put;have q7:upd (upd H5 da (.dT [])) p (.ins a.zdp dx (sF5 (.int rn) (.int qn) (.ref pr) (.ref pl) (.ref da))) p=some (.ins a.zdp dx (sF5 (.int rn) (.int qn) (.ref pr) (.ref pl) (.ref da))):=Zb;have d7:upd (upd H5 da (.dT [])) p (.ins a.zdp dx (sF5 (.int rn) (.int qn) (.ref pr) (.ref pl) (.ref da))) da=some (.dT []):=by rw[Zg npa,Zb]
 generalize upd (upd H5 da (.dT [])) p (.ins a.zdp dx (sF5 (.int rn) (.int qn) (.ref pr) (.ref pl) (.ref da)))=H7 at b7 q7 d7;refine⟨by show 0<=sizeLine;decide,fun ls hls=>?_⟩;have nps:ls≠p:=Ne.symm (Zh q7 hls);refine⟨_,rfl,p,a.zdp,dx,_,rfl,Ze (o:=.lst []) hls _ _ q7,T.zdq,T.zgx,(by show 5<1000;decide),?_⟩;rw[pF6];have b9:Wn p H7 (upd (upd H7 ls (.lst [])) p (.ins a.zdp dx (sF6 (.int rn) (.int qn) (.ref pr) (.ref pl) (.ref da) (.ref ls)))):=(Wn.of (Ze hls)).trans .put;have q9:upd (upd H7 ls (.lst [])) p (.ins a.zdp dx (sF6 (.int rn) (.int qn) (.ref pr) (.ref pl) (.ref da) (.ref ls))) p=some (.ins a.zdp dx (sF6 (.int rn) (.int qn) (.ref pr) (.ref pl) (.ref da) (.ref ls))):=Zb;have l9:upd (upd H7 ls (.lst [])) p (.ins a.zdp dx (sF6 (.int rn) (.int qn) (.ref pr) (.ref pl) (.ref da) (.ref ls))) ls=some (.lst []):=by rw[Zg nps,Zb]
 generalize upd (upd H7 ls (.lst [])) p (.ins a.zdp dx (sF6 (.int rn) (.int qn) (.ref pr) (.ref pl) (.ref da) (.ref ls)))=H9 at b9 q9 l9;refine⟨_,rfl,p,a.zdp,dx,_,rfl,q9,T.zdq,T.zem,(by show 6<1000;decide),?_⟩;rw[pF7];have b10:Wn p H9 (upd H9 p (.ins a.zdp dx (sF7 (.int rn) (.int qn) (.ref pr) (.ref pl) (.ref da) (.ref ls) .non))):=.put;have q10:upd H9 p (.ins a.zdp dx (sF7 (.int rn) (.int qn) (.ref pr) (.ref pl) (.ref da) (.ref ls) .non)) p=some (.ins a.zdp dx (sF7 (.int rn) (.int qn) (.ref pr) (.ref pl) (.ref da) (.ref ls) .non)):=Zb;generalize upd H9 p (.ins a.zdp dx (sF7 (.int rn) (.int qn) (.ref pr) (.ref pl) (.ref da) (.ref ls) .non))=H10 at b10 q10;refine⟨by show 0<=sizeLine;decide,fun lt hlt=>?_⟩;have npt:lt≠p:=Ne.symm (Zh q10 hlt);refine⟨_,rfl,p,a.zdp,dx,_,rfl,Ze (o:=.lst []) hlt _ _ q10,T.zdq,T.zer,(by show 7<1000;decide),?_⟩;rw[pF8];have b12:Wn p H10 (upd (upd H10 lt (.lst [])) p (.ins a.zdp dx (sF8 (.int rn) (.int qn) (.ref pr) (.ref pl) (.ref da) (.ref ls) .non (.ref lt)))):=(Wn.of (Ze hlt)).trans .put;have q12:upd (upd H10 lt (.lst [])) p (.ins a.zdp dx (sF8 (.int rn) (.int qn) (.ref pr) (.ref pl) (.ref da) (.ref ls) .non (.ref lt))) p=some (.ins a.zdp dx (sF8 (.int rn) (.int qn) (.ref pr) (.ref pl) (.ref da) (.ref ls) .non (.ref lt))):=Zb;have l12:upd (upd H10 lt (.lst [])) p (.ins a.zdp dx (sF8 (.int rn) (.int qn) (.ref pr) (.ref pl) (.ref da) (.ref ls) .non (.ref lt))) lt=some (.lst []):=by rw[Zg npt,Zb]
 generalize upd (upd H10 lt (.lst [])) p (.ins a.zdp dx (sF8 (.int rn) (.int qn) (.ref pr) (.ref pl) (.ref da) (.ref ls) .non (.ref lt)))=H12 at b12 q12 l12;have b912:=b10.trans b12;have b712:=b9.trans b912;have b512:=b7.trans b712;have bb:=b5.trans b512;have kt:∀ t xs,H5 t=some (.tup xs)->H12 t=some (.tup xs):=fun t xs e=>b512 t _ e (Yl e q5 (fun z=>nomatch z));have R12:=R5.keep (fun o e=>b512 _ o e np2.1) (fun o e=>b512 _ o e np2.2) kt;have L12:=L5.keep (fun o e=>b512 _ o e np4.1) (fun o e=>b512 _ o e np4.2.1) (fun o e=>b512 _ o e np4.2.2) kt;have d12:=b712 _ _ d7 npa;have l912:=b912 _ _ l9 nps;have fda:H da=none:=Wn.free b5 ⟨_,q5⟩ hda;have fls:H ls=none:=Wn.free (b5.trans b7) ⟨_,q7⟩ hls;have flt:H lt=none:=Wn.free (b5.trans (b7.trans (b9.trans b10))) ⟨_,q10⟩ hlt;have ex5:(∃ o,H5 pr=some o)/\(∃ o,H5 dr=some o)/\(∃ o,H5 pl=some o)/\(∃ o,H5 lr=some o)/\(∃ o,H5 ld=some o):=by
  obtain⟨⟨x,kv,z1,z2,_⟩,_⟩:=id R5;obtain⟨⟨y,w1⟩,⟨rs,w2,_⟩,⟨ks,w3,_⟩⟩:=id L5;exact⟨⟨_,z1⟩,⟨_,z2⟩,⟨_,w1⟩,⟨_,w2⟩,⟨_,w3⟩⟩
 have n5:∀ {x y:Addr},(∃ o,H5 x=some o)->H5 y=none->x≠y:=fun ⟨o,e⟩ hy=>Zh e hy;have fls5:H5 ls=none:=Wn.free b7 ⟨_,q7⟩ hls;have flt5:H5 lt=none:=Wn.free (b7.trans (b9.trans b10)) ⟨_,q10⟩ hlt;have ndas:da≠ls:=Zh d7 hls;have ndat:da≠lt:=Zh (b10 _ _ (b9 _ _ d7 npa) npa) hlt;have nst:ls≠lt:=Zh (b10 _ _ l9 nps) hlt;obtain⟨e1,e2,e3,e4,e5⟩:=ex5;have nrl:lr≠ld:=n0;refine hF ⟨p,pr,dr,pl,lr,ld,da,ls,lt⟩ H12 rfl ⟨⟨dx,.non,q12,rfl⟩,R12,L12,⟨[],d12,fun i n=>rfl,zq1 _⟩,⟨[],l912,.nil⟩,⟨[],l12,.nil⟩,?_,?_⟩ bb ?_
 ·show [p,dr,lr,ld,da,ls,lt].Nodup;simp only[zrl,zq0,zru,or_false,not_or];exact⟨⟨Ne.symm np2.2,Ne.symm np4.2.1,Ne.symm np4.2.2,Ne.symm npa,Ne.symm nps,Ne.symm npt⟩,⟨nrp.2.2.2.1,nrp.2.2.2.2.2,n5 e2 hda,n5 e2 fls5,n5 e2 flt5⟩,⟨nrl,n5 e4 hda,n5 e4 fls5,n5 e4 flt5⟩,⟨n5 e5 hda,n5 e5 fls5,n5 e5 flt5⟩,⟨ndas,ndat⟩,nst,by simp,List.nodup_nil⟩
 ·have hpr5:∃ x fs,H5 pr=some (.ins a.zdt x fs):=by obtain⟨⟨x,kv,z1,_⟩,_⟩:=R5;exact⟨_,_,z1⟩
  have hdr5:∃ kv,H5 dr=some (.dK kv):=by obtain⟨⟨x,kv,_,z2,_⟩,_⟩:=R5;exact⟨_,z2⟩
  have hpl5:∃ x fs,H5 pl=some (.ins a.zdr x fs):=by obtain⟨⟨y,w1⟩,_⟩:=L5;exact⟨_,_,w1⟩
  obtain⟨x1,y1,z1⟩:=hpr5;obtain⟨y2,z2⟩:=hdr5;obtain⟨x3,y3,z3⟩:=hpl5;obtain⟨_,⟨rs,w2,_⟩,⟨ks,w3,_⟩⟩:=id L5;have nm:∀ m,m∈([p,dr,lr,ld,da,ls,lt]:List Addr)↔m=p\/m=dr\/m=lr\/m=ld\/m=da\/m=ls\/m=lt:=fun m=>by simp
  refine⟨fun hm=>?_,fun hm=>?_⟩
  ·rcases(nm _).mp hm with q|q|q|q|q|q|q
   ·exact np2.1 q
   ·exact Yl z1 z2 (fun z=>nomatch z) q
   ·exact nrp.2.2.1 q
   ·exact nrp.2.2.2.2.1 q
   ·exact n5 e1 hda q
   ·exact n5 e1 fls5 q
   ·exact n5 e1 flt5 q
  ·rcases(nm _).mp hm with q|q|q|q|q|q|q
   ·exact np4.1 q
   ·exact nrp.2.1 q.symm
   ·exact Yl z3 w2 (fun z=>nomatch z) q
   ·exact Yl z3 w3 (fun z=>nomatch z) q
   ·exact n5 e3 hda q
   ·exact n5 e3 fls5 q
   ·exact n5 e3 flt5 q
 ·intro x hx hxp;simp only[SAd.fp,zq0,zru,or_false] at hx;rcases hx with q|q|q|q|q|q|q
  ·exact absurd q hxp
  ·rw[q];exact fdr
  ·rw[q];exact flr
  ·rw[q];exact fld
  ·rw[q];exact fda
  ·rw[q];exact fls
  ·rw[q];exact flt
noncomputable abbrev Yk:Stmt:=Zy (top 55) 1
theorem Up:Zl ["self"] ["self"] (Zj Yk):=fnS
theorem Uq(F:Fun K "check_not_over" "Season.check_not_over" Yk f fd)(T:Tx K mg a)(zds:Zt P w K mg base a.zdp "at_hand" 2 ["self"] (Wm (ca a))):FnOk P w K mg base (CX1 P w) 3 f fd ["self"] (Q5 (ca a)):=by
 refine F.okX Up ⋯ fun _ _ _ _ H _ Q E hr h=>?_;obtain⟨A',S,rfl,SA,h⟩:=h;refine⟨_,(Zf (Z6 (Zn Tv (Ya (pv 0) T.zdq zds (hr.mono ⋯) Zk) (Zm (K:=K) rfl (pv 0) rfl) (Zs _))
  (Zf (Yv Yu rfl T.zjg rfl (Za Zx Zd)))
  Zr)),?_⟩
 obtain⟨⟨dx,v,a1,a2⟩,b,c,_⟩:=id SA;refine⟨_,rfl,A'.p,dx,_,rfl,a1,Yc ⋯,A',S,rfl,SA,_,rfl,A'.p,a.zdp,dx,_,_,rfl,a1,T.zdq,T.zf8,Le,_,_,rfl,rfl,_,rfl,?_⟩;refine itD (fun hc=>?_) (fun hc=>?_)
 ·rw[if_pos (by unfold atV at hc;omega)] at h;exact⟨sz1,h⟩
 ·rw[if_neg (by unfold atV at hc;omega)] at h;exact h
noncomputable abbrev Yr:Stmt:=Zy (top 55) 2
theorem U3:Zl ["self"] ["self"] (Zj Yr):=fnS
theorem U4(F:Fun K "check_undrawn" "Season.check_undrawn" Yr f fd)(T:Tx K mg a)(zd9:Zt P w K mg base a.zdp "check_not_over" 3 ["self"] (Q5 (ca a))):FnOk P w K mg base (CX1 P w) 4 f fd ["self"] (Q6 (ca a)):=by
 refine F.okX U3 ⋯ fun _ _ _ _ H _ Q E hr h=>?_;obtain⟨A',S,rfl,SA,h⟩:=h;refine⟨_,(Zc (Z4 (Ya (pv 0) T.zdq zd9 (hr.mono ⋯) Zk))
 (Zf (Z6 (Zn R4 (Zm (K:=K) rfl (pv 0) rfl) Xm (Zs _))
  (Zf (Yv Yu rfl T.zjp rfl (Za Zx Zd)))
  Zr))),?_⟩
 obtain⟨⟨dx,v,a1,a2⟩,b,c,_⟩:=id SA;refine⟨_,rfl,A'.p,dx,_,rfl,a1,Yc ⋯,A',S,rfl,SA,?_⟩;refine it2 h (fun _ z=>z) fun hn h=>?_;refine⟨_,rfl,A'.p,a.zdp,dx,_,_,rfl,a1,T.zdq,T.zem,Xt,rfl,_,rfl,?_⟩;cases hc:S.cur with
 | none =>
   rw[hc] at a2 h;have a2:v=.non:=a2;rw[a2];exact iteF h
 | some s =>
   rw[hc] at a2 h;obtain⟨q,rfl,_⟩:=a2;exact iteT ⟨sz1,h⟩
noncomputable abbrev Y1:Stmt:=Zy (top 55) 3
theorem Tr:Zl ["self","at"] ["self","at"] (Zj Y1):=fnS
theorem Ts(F:Fun K "check_round" "Season.check_round" Y1 f fd)(T:Tx K mg a):FnOk P w K mg base (CX1 P w) 1 f fd ["self","at"] (G0 (ca a)):=by
 refine F.okX Tr ⋯ fun _ _ _ _ H _ Q E hr h=>?_;obtain⟨A',S,i,rfl,SA,si,h⟩:=h;refine⟨_,(Zf (Z6 (PW.pt (Ur (Zn Pe (pv 1) Zi (Zs _)) (V5 (Zn Tv (pv 1) (Zm (K:=K) rfl (pv 0) rfl) (Zs _)))))
  (Zf (Yv Yu rfl T.zhk rfl (Za (Wi (Zw (Wb (pv 1)) (Zw (Xd ⋯) Wh)) ⋯) Zd)))
  Zr)),?_⟩
 obtain⟨⟨dx,v,a1,a2⟩,b,c,_⟩:=id SA;refine⟨_,rfl,_,_,rfl,rfl,_,rfl,?_⟩;refine itD (fun hc=>?_) (fun hc=>?_)
 ·rw[if_pos (.inl hc)] at h;refine iteT ?_;exact⟨_,rfl,.inl ⟨_,rfl,si⟩,fun z=>⟨sz1,h⟩⟩
 refine⟨_,rfl,_,rfl,A'.p,a.zdp,dx,_,_,rfl,a1,T.zdq,T.zf8,Le,_,_,rfl,rfl,_,rfl,?_⟩;refine itD (fun hc2=>?_) (fun hc2=>?_)
 ·rw[if_pos (.inr hc2)] at h;exact⟨_,rfl,.inl ⟨_,rfl,si⟩,fun z=>⟨sz1,h⟩⟩
 ·rw[if_neg (fun z=>z.elim hc hc2)] at h;exact h
noncomputable abbrev Y9:Stmt:=Zy (top 55) 4
theorem Se:Zl ["self"] ["self"] (Zj Y9):=fnS
theorem Sf(F:Fun K "check_room" "Season.check_room" Y9 f fd)(T:Tx K mg a):FnOk P w K mg base (CX1 P w) 1 f fd ["self"] (Kf (ca a)):=by
 refine F.okX Se ⋯ fun _ _ _ _ H _ Q E hr h=>?_;obtain⟨A',S,rfl,SA,h⟩:=h;refine⟨_,(Zf (Z6 (Zn Ac (Zu (cL K) (by rfl) T.zfz PySem.boot_len (Za (Zm (K:=K) rfl (pv 0) rfl) Zd)) (Y7 rfl T.zfa) (Zs _))
  (Zf (Yv Yu rfl T.zi8 rfl (Za (Wi (Zw (Wb (Y7 rfl T.zfa)) (Zw (Xd ⋯) Wh)) ⋯) Zd)))
  Zr)),?_⟩
 obtain⟨⟨dx,v,a1,a2⟩,b,c,d,f,⟨us,g1,g2⟩,nd,np⟩:=id SA;refine⟨_,rfl,A'.p,a.zdp,dx,_,_,rfl,a1,T.zdq,T.zer,Vk,A'.lt,_,rfl,.inl (SqL.of g1),_,_,rfl,rfl,_,rfl,?_⟩;rw[g2.length];refine itD (fun hc=>?_) (fun hc=>?_)
 ·rw[if_pos ⋯] at h;exact⟨.inl ⟨_,rfl,Z5 ⋯⟩,fun z=>⟨sz1,h⟩⟩
 ·rw[if_neg ⋯] at h;exact h
noncomputable abbrev Vg:Stmt:=Zy (top 55) 5
theorem N1:Zl ["self","word","number","at"] ["self","word","number","at"] (Zj Vg):=fnS
theorem N2(F:Fun K "note" "Season.note" Vg f fd)(T:Tx K mg a):FnOk P w K mg base (CX1 P w) 1 f fd ["self","word","number","at"] (Kg (ca a)):=by
 refine F.okX N1 ⋯ fun _ _ _ _ H _ Q E hr h=>?_;obtain⟨A',S,w',n,i,rfl,SA,hz,h⟩:=h;refine⟨_,(Zf (Xe (Zm (K:=K) rfl (pv 0) rfl) (Yp (Za (Yp (Za (pv 1) (Za (pv 2) (Za (pv 3) Zd)))) (Za (Zm (K:=K) rfl (pv 0) rfl) Zd))))),?_⟩;obtain⟨⟨dx,v,a1,a2⟩,b,c,⟨kvs,d1,d2⟩,⟨vs,f1,f2⟩,⟨us,g1,g2⟩,nd,np⟩:=id SA;refine⟨_,rfl,A'.p,a.zdp,dx,_,_,rfl,a1,T.zdq,T.zer,Vk,A'.lt,us,rfl,g1,?_⟩;refine⟨_,rfl,_,rfl,_,rfl,sz3,fun t1 ht1=>?_⟩;have s1:=Ze (o:=.tup [.str w',.int n,.int i]) ht1;have q1:upd H t1 (.tup [.str w',.int n,.int i]) t1=some (.tup (U0 (w',n,i))):=Zb;generalize upd H t1 (.tup [.str w',.int n,.int i])=H1 at s1 q1;refine⟨_,rfl,A'.p,a.zdp,dx,_,_,rfl,s1 _ _ a1,T.zdq,T.zem,Xt,sz2,fun t2 ht2=>?_⟩;have s2:=Ze (o:=.tup [.ref t1,v]) ht2;have q2:upd H1 t2 (.tup [.ref t1,v]) t2=some (.tup [.ref t1,v]):=Zb;have q12:=s2 _ _ q1;have s12:=s1.trans s2;generalize upd H1 t2 (.tup [.ref t1,v])=H2 at s2 q2 q12 s12;refine⟨us,s12 _ _ g1,by have:=g2.length;have:=Uz;omega,?_⟩;have fr:FrS A' H (upd H2 A'.lt (.lst (us++[.ref t2]))):=fun b o e hb=>by
  rw[Zg (fun z=>hb (by rw[z];simp[SAd.fp]))];exact s12 _ _ e
 have kt:=SA.tups fr;have kp:∀ x o,x≠A'.lt->H x=some o->upd H2 A'.lt (.lst (us++[.ref t2])) x=some o:=fun x o hx e=>by rw[Zg hx];exact s12 _ _ e
 have kt2:∀ t xs,H2 t=some (.tup xs)->upd H2 A'.lt (.lst (us++[.ref t2])) t=some (.tup xs):=fun t xs e=>by
  rw[Zg (Yl e (s12 _ _ g1) (fun z=>nomatch z))];exact e
 have ko:∀ x o,x∉A'.fp->H x=some o->upd H2 A'.lt (.lst (us++[.ref t2])) x=some o:=fun x o hx e=>fr x o e hx;have nd':=nd;simp only[SAd.fp,zrl,zq0,zru,or_false,not_or] at nd';obtain⟨⟨n1,n2,n3,n4,n5,n6⟩,⟨n7,n8,n9,n10,n11⟩,⟨n12,n13,n14,n15⟩,⟨n16,n17,n18⟩,⟨n19,n20⟩,n21,_⟩:=nd';have npt:A'.pr≠A'.lt/\A'.pl≠A'.lt:=⟨fun z=>np.1 (by rw[z];simp[SAd.fp]),fun z=>np.2 (by rw[z];simp[SAd.fp])⟩;refine h _ ⟨⟨dx,v,kp _ _ n6 a1,a2.keep ko kt⟩,b.keep (fun o e=>kp _ o npt.1 e) (fun o e=>kp _ o n11 e) kt,c.keep (fun o e=>kp _ o npt.2 e) (fun o e=>kp _ o n15 e) (fun o e=>kp _ o n18 e) kt,⟨kvs,kp _ _ n20 d1,d2⟩,⟨vs,kp _ _ n21 f1,f2.keep ko kt⟩,⟨us++[.ref t2],Zb,?_⟩,nd,np⟩ fr;exact(g2.keep ko kt).snoc (kt2 _ _ q2) (kt2 _ _ q12) (a2.keep ko kt)
noncomputable abbrev Ys:Stmt:=Zy (top 55) 6
theorem U5:Zl ["self"] ["self"] (Zj Ys):=fnS
theorem U6(F:Fun K "sheet_at_hand" "Season.sheet_at_hand" Ys f fd)(T:Tx K mg a):FnOk P w K mg base (CX1 P w) 1 f fd ["self"] (Nh (ca a)):=by
 refine F.okX U5 ⋯ fun _ _ _ _ H _ Q E hr h=>?_;obtain⟨A',S,rfl,SA,h1,h2⟩:=h;refine⟨_,(Zc (Z6 (Zn Ov (Zm (K:=K) rfl (pv 0) rfl) Xm (Zs _))
  (Zf (Yv Yu rfl T.zjm rfl (Za Zx Zd)))
  Zr)
 (Zf (Zp (Zm (K:=K) rfl (pv 0) rfl)))),?_⟩
 obtain⟨⟨dx,v,a1,a2⟩,b,c,_⟩:=id SA;refine⟨_,rfl,A'.p,a.zdp,dx,_,_,rfl,a1,T.zdq,T.zem,Xt,rfl,_,rfl,?_⟩;cases hc:S.cur with
 | none =>
   rw[hc] at a2;have a2:v=.non:=a2;rw[a2];exact iteT ⟨sz1,h1 hc⟩
 | some s =>
   rw[hc] at a2;obtain⟨q,rfl,hs⟩:=a2;refine iteF ?_;exact⟨_,rfl,A'.p,a.zdp,dx,_,_,rfl,a1,T.zdq,T.zem,Xt,h2 s q hc hs⟩
noncomputable abbrev Xi:Stmt:=Zy (top 55) 8
theorem Xa:Zl ["self","listed","people","at","out"] ["self","listed"] (Zj Xi):=fnS
theorem S1(F:Fun K "takers_of" "Season.takers_of" Xi f fd)(T:Tx K mg a)(zei:Zt P w K mg base a.zdt "numbers" 1 ["self"] (Rm (ca a)))(zf1:Zt P w K mg base a.zdt "person" 3 ["self","number"] (Jf (ca a)))(zds:Zt P w K mg base a.zdp "at_hand" 2 ["self"] (Wm (ca a)))(zi3:Yg P w K mg base "takers" 4 ["people","match","out","ledger","rest"] (Jb K a.zdr)):FnOk P w K mg base (CX1 P w) 5 f fd ["self","listed"] (Ro (ca a)):=by
 refine F.okX Xa ⋯ fun _ _ _ _ H _ Q E hr h=>?_;obtain⟨A',S,l,ts,ms,rfl,SA,hl,tl,hml,hpl,hsm,h⟩:=h;have hu:=Vp hr;refine⟨_,(Zc (pS 2 Xa.nd (U2 rfl (cT ["self"] [0]) (Yw (K:=K) rfl (Ya (Zm (K:=K) rfl (pv 0) rfl) T.zef zei (hr.mono ⋯) Zk)) (fun _ _ _ _ _=>Uh) (fun _ _ _ _ _=>(Xl (Zm (K:=K) rfl (pv 1) rfl) T.zef zf1 (hr.mono ⋯) Gh (Za (pv 0) Zd)))))
 (Zc (pS 3 Xa.nd (Ya (pv 0) T.zdq zds (hr.mono ⋯) Zk))
 (Zc (pS 4 Xa.nd (U2 rfl (cT ["at","self"] [3,0]) (Yw (K:=K) rfl (Ya (Zm (K:=K) rfl (pv 0) rfl) T.zef zei (hr.mono ⋯) Zk)) (fun _ _ _ _ _=>Ly (Ra (Lp hu (Yp (Za (pv 1) (Za (pv 0) Zd))) (Zm (K:=K) rfl (pv 2) rfl)))) (fun _ _ _ _ _=>(pv 0))))
 (Zf (Zp (U2 rfl (cT ["people","out","self"] [2,4,0]) (Yw (K:=K) rfl (pv 1)) (fun _ _ _ _ _=>Uh) (fun _ _ _ _ _=>(Gi zi3 (hr.mono ⋯) Gh rfl (Za (pv 1) (Za (pv 0) (Za (pv 2) (Za (Zm (K:=K) rfl (pv 3) rfl) (Za (Zm (K:=K) rfl (pv 3) rfl) Zd))))))))))))),?_⟩
 obtain⟨⟨dx,v,a1,a2⟩,b,c,⟨kvs,d1,d2⟩,_⟩:=id SA;obtain⟨⟨dxr,kvr,hpr,hdr,en⟩,ndr⟩:=id b;refine⟨_,rfl,A'.p,a.zdp,dx,_,_,rfl,a1,T.zdq,T.zex,Wg,A'.pr,dxr,_,rfl,hpr,Yt.no ⋯,A'.pr,A'.dr,S.ppl,rfl,b,fun ln hln=>?_⟩;have s1:=Ze (o:=.lst (S.ppl.map fun x=>V.int x.1)) hln;have q1:upd H ln (.lst (S.ppl.map fun x=>V.int x.1)) ln=some (.lst (S.ppl.map fun x=>V.int x.1)):=Zb;generalize upd H ln (.lst (S.ppl.map fun x=>V.int x.1))=H1 at s1 q1;have hnl:(S.ppl.map fun x=>V.int x.1).length=S.ppl.length:=by rw[zqx]
 refine⟨ln,rfl,⟨_,SqL.of q1⟩,V2 (K:=K) (xs:=S.ppl.map fun x=>V.int x.1) (fun i ys H'=>Same H H'/\Same H1 H'/\TupL H' ys ((S.ppl.take i).map pV)/\ys.length=i) ⟨s1,Same.refl _,.nil,rfl⟩ (fun i ys H' _ ⟨_,z,_⟩=>SqL.of (z _ _ q1)) (szN ⋯) (fun i ys H' ⟨_,_,_,e⟩=>by omega) ?_ ?_⟩
 ·rintro i x ys H' hx ⟨sh,s1',tl',hyl⟩;have hi:i<S.ppl.length:=by have:=(zqz.mp hx).1;omega
  have hpi:S.ppl[i]?=some (S.ppl[i]'hi):=zqy hi;have etk:S.ppl.take (i+1)=S.ppl.take i++[S.ppl[i]'hi]:=zrr hi;have hmem:S.ppl[i]'hi∈S.ppl:=zr3 hi;have ex:x=.int (S.ppl[i]'hi).1:=by rw[zq7,hpi] at hx;exact(Option.some.inj hx).symm
  generalize (S.ppl[i]'hi)=pp at hpi etk hmem ex;subst ex;unfold tYes;dsimp only;rw[if_pos rfl];refine⟨_,rfl,A'.p,a.zdp,dx,_,_,rfl,sh _ _ a1,T.zdq,T.zex,Wg,A'.pr,dxr,_,rfl,sh _ _ hpr,Yt.no ⋯,_,rfl,A'.pr,A'.dr,S.ppl,pp.1,rfl,b.same sh,hsm pp hmem,fun z=>absurd (zrg.mpr ⟨pp,hmem,rfl⟩) z,fun g c' t H2 hm ht s2 _=>?_⟩;have epp:=B3 b.nd hm hmem rfl;rw[epp] at ht;refine⟨sh.trans s2,s1'.trans s2,?_,by rw[zq4,hyl];rfl⟩;rw[etk,zre];exact(tl'.same s2).snoc ht
 rintro ys H2 ⟨sh2,s12,tl2,hyl⟩ lp hlp;rw[hnl,zrm] at tl2;have s3:=sh2.trans (Ze (o:=.lst ys) hlp);have q3:upd H2 lp (.lst ys) lp=some (.lst ys):=Zb;have tl3:=tl2.same (Ze (o:=.lst ys) hlp);generalize upd H2 lp (.lst ys)=H3 at s3 q3 tl3;have SA3:=SA.same s3;refine⟨_,rfl,A'.p,dx,_,rfl,s3 _ _ a1,Yc ⋯,A',S,rfl,SA3,?_⟩;refine⟨_,rfl,A'.p,a.zdp,dx,_,_,rfl,s3 _ _ a1,T.zdq,T.zex,Wg,A'.pr,dxr,_,rfl,s3 _ _ hpr,Yt.no ⋯,A'.pr,A'.dr,S.ppl,rfl,b.same s3,fun ln4 hln4=>?_⟩;have s4:=Ze (o:=.lst (S.ppl.map fun x=>V.int x.1)) hln4;have q4:upd H3 ln4 (.lst (S.ppl.map fun x=>V.int x.1)) ln4=some (.lst (S.ppl.map fun x=>V.int x.1)):=Zb;generalize upd H3 ln4 (.lst (S.ppl.map fun x=>V.int x.1))=H4 at s4 q4;refine⟨ln4,rfl,⟨_,SqL.of q4⟩,V2 (K:=K) (xs:=S.ppl.map fun x=>V.int x.1) (fun i ys H'=>Same H4 H'/\ys=((S.ppl.take i).filter (pIn S.out (atV S))).map fun x=>V.int x.1) ⟨Same.refl _,rfl⟩ (fun i ys H' _ ⟨z,_⟩=>SqL.of (z _ _ q4)) (szN ⋯) (fun i ys H' ⟨_,e⟩=>by rw[e,zqx];exact zro (zsd _ _) (List.length_take_le _ _)) ?_ ?_⟩
 ·rintro i x zs H' hx ⟨s4',rfl⟩;have hi:i<S.ppl.length:=by have:=(zqz.mp hx).1;omega
  have hpi:S.ppl[i]?=some (S.ppl[i]'hi):=zqy hi;have etk:S.ppl.take (i+1)=S.ppl.take i++[S.ppl[i]'hi]:=zrr hi;have ex:x=.int (S.ppl[i]'hi).1:=by rw[zq7,hpi] at hx;exact(Option.some.inj hx).symm
  generalize (S.ppl[i]'hi)=pp at hpi etk ex;subst ex;refine⟨_,rfl,_,rfl,sz2,fun t ht=>?_⟩;have s5:=Ze (o:=.tup [.int (atV S),.int pp.1]) ht;have q5:upd H' t (.tup [.int (atV S),.int pp.1]) t=some (.tup (([inl (atV S),inl pp.1]:List Key).map kV)):=Zb;generalize upd H' t (.tup [.int (atV S),.int pp.1])=H5 at s5 q5;have sh5:=s3.trans (s4.trans (s4'.trans s5));refine⟨_,rfl,A'.p,a.zdp,dx,_,_,rfl,sh5 _ _ a1,T.zdq,T.zfk,So,A'.da,_,rfl,DGet.t (k:=[inl (atV S),inl pp.1]) (sh5 _ _ d1) q5,_,rfl,?_⟩;rw[d2.isSome];have e2:∀ ws,((S.ppl.take (i+1)).filter (pIn S.out (atV S))).map (fun x=>V.int x.1)=((S.ppl.take i).filter (pIn S.out (atV S))).map (fun x=>V.int x.1)++ws↔ws=if pIn S.out (atV S) pp then [V.int pp.1] else []:=fun ws=>by
   rw[etk,List.filter_append,zre,List.append_cancel_left_eq];cases q:pIn S.out (atV S) pp<;>simp[q,eq_comm]
  refine itB (fun hb=>?_) (fun hb=>?_)
  ·exact⟨_,rfl,s4'.trans s5,((e2 [V.int pp.1]).mpr (by rw[show pIn S.out (atV S) pp=true from hb];rfl)).symm⟩
  ·refine⟨s4'.trans s5,?_⟩;have:=(e2 []).mpr (by rw[show pIn S.out (atV S) pp=false from hb];rfl);rw[List.append_nil] at this;exact this.symm
 rintro zs H5 ⟨s45,rfl⟩ lo hlo;rw[hnl,zrm];have s6:=s45.trans (Ze (o:=.lst (outV S)) hlo);have q6:upd H5 lo (.lst (outV S)) lo=some (.lst (outV S)):=Zb;show W4 4 (V.ref lo) _ (upd H5 lo (.lst (outV S))) _;generalize upd H5 lo (.lst (outV S))=H6 at s6 q6;have s36:=s4.trans s6;have s06:=s3.trans s36;have hl6:=s06 _ _ hl;have hts:ts.length=ms.length:=by rw[tl.length,zqx]
 refine⟨_,rfl,l,rfl,⟨_,SqL.of hl6⟩,V2 (K:=K) (xs:=ts) (fun i ys H'=>Same H6 H'/\∃ ls,ys=ls.map V.ref/\ILs H' ls ((mayS S ms).take i)/\ls.length=i/\∀ x∈ls,H x=none) ⟨Same.refl _,[],rfl,.nil,rfl,by simp⟩ (fun i ys H' _ ⟨z,_⟩=>SqL.of (z _ _ hl6)) (szN ⋯) (fun i ys H' ⟨_,ls,e1,_,e2,_⟩=>by rw[e1,zqx];omega) ?_ ?_⟩
 ·rintro i x ys' H' hx ⟨s6',ls,rfl,il,hll,hfr⟩;obtain⟨tm,m,rfl,hm,htm⟩:=D9 tl hx;have s0:=s06.trans s6';unfold tYes;dsimp only;rw[if_pos rfl];refine⟨_,rfl,_,rfl,_,rfl,_,rfl,A'.p,a.zdp,dx,_,_,rfl,s0 _ _ a1,T.zdq,T.ze4,V3,_,rfl,A'.p,a.zdp,dx,_,_,rfl,s0 _ _ a1,T.zdq,T.zid,B2,lp,lo,tm,A'.pl,A'.lr,A'.ld,S.led,ys,S.ppl,outV S,m.1,m.2.1,m.2.2,S.rest,rfl,(s36.trans s6') _ _ q3,tl3.same (s36.trans s6'),s6' _ _ q6,Cq S,s0 _ _ htm,c.same s0,by omega,fun l2 H2 hl2 s2 f2=>?_⟩;rw[zbb] at hl2;refine⟨s6'.trans s2,ls++[l2],by rw[zre];rfl,?_,by rw[zq4,hll];rfl,fun y hy=>?_⟩
  ·have e:(mayS S ms).take (i+1)=(mayS S ms).take i++[Jo S m]:=by
    unfold mayS;rw[zry,zq7,hm];rfl
   rw[e];exact(il.same s2).snoc hl2
  ·rcases zrd.mp hy with z|z
   ·exact hfr y z
   ·rw[zq3.mp z];exact s0.free f2
 ·rintro ys' H' ⟨s6',ls,rfl,il,hll,hfr⟩ l' hl';have hmy:(mayS S ms).length=ms.length:=by unfold mayS;rw[zqx]
  rw[hts,<- hmy,zrm] at il;have s0:=s06.trans s6';exact h l' ls _ Zb (il.same (Ze hl')) (s0.trans (Ze hl')) (s0.free hl') hfr
noncomputable abbrev Wy:Stmt:=Zy (top 55) 9
theorem P8:Zl ["self","number","grade","club"] ["self","number","grade","club"] (Zj Wy):=fnS
theorem P9(F:Fun K "enrol" "Season.enrol" Wy f fd)(T:Tx K mg a)(zeb:Zt P w K mg base a.zdp "check_undrawn" 4 ["self"] (Q6 (ca a)))(zek:Zt P w K mg base a.zdt "check_new" 2 ["self","number","grade","club"] (Rl (ca a)))(zd5:Zt P w K mg base a.zdp "check_room" 1 ["self"] (Kf (ca a)))(zel:Zt P w K mg base a.zdp "note" 1 ["self","word","number","at"] (Kg (ca a)))(zds:Zt P w K mg base a.zdp "at_hand" 2 ["self"] (Wm (ca a)))(zgy:Zt P w K mg base a.zdt "add" 3 ["self","number","grade","club"] (Cp (ca a))):FnOk P w K mg base (CX1 P w) 5 f fd ["self","number","grade","club"] (G1 (ca a)):=by
 refine F.okX P8 ⋯ fun _ _ _ _ H _ Q E hr h=>?_;obtain⟨A',S,n,g,c0,rfl,SA,sm,hz,hz2,h⟩:=h;refine⟨_,(Zc (Z4 (Ya (pv 0) T.zdq zeb (hr.mono ⋯) Zk))
 (Zc (Z4 (Xl (Zm (K:=K) rfl (pv 0) rfl) T.zef zek (hr.mono ⋯) Zk (Za (pv 1) (Za (pv 2) (Za (pv 3) Zd)))))
 (Zc (Z4 (Ya (pv 0) T.zdq zd5 (hr.mono ⋯) Zk))
 (Zc (Z4 (Xl (pv 0) T.zdq zel (hr.mono ⋯) Zk (Za Zx (Za (pv 1) (Za (Ya (pv 0) T.zdq zds (hr.mono ⋯) Zk) Zd)))))
 (Zf (Z4 (Xl (Zm (K:=K) rfl (pv 0) rfl) T.zef zgy (hr.mono ⋯) Zk (Za (pv 1) (Za (pv 2) (Za (pv 3) Zd)))))))))),?_⟩
 obtain⟨⟨dx,v,a1,a2⟩,b,c,_⟩:=id SA;obtain⟨⟨dxr,kvr,hpr,hdr,en⟩,ndr⟩:=id b;refine⟨_,rfl,A'.p,dx,_,rfl,a1,Yc ⋯,A',S,rfl,SA,?_⟩;refine it2 h (fun _ z=>z) fun h1 h=>it2 h (fun _ z=>z) fun h2 h=>?_;refine⟨_,rfl,A'.p,a.zdp,dx,_,_,rfl,a1,T.zdq,T.zex,Wg,A'.pr,dxr,_,rfl,hpr,Yt.no ⋯,_,rfl,_,rfl,_,rfl,A'.pr,A'.dr,S.ppl,n,g,c0,rfl,b,sm,?_⟩;refine it2 h (fun _ z=>z) fun h3 h=>it2 h (fun _ z=>z) fun h4 h=>it2 h (fun _ z=>z) fun h5 h=>?_;refine⟨_,rfl,A'.p,dx,_,rfl,a1,Yc ⋯,A',S,rfl,SA,?_⟩;refine it2 h (fun _ z=>z) fun h6 h=>?_;refine⟨_,rfl,A'.p,dx,_,rfl,a1,Yc ⋯,_,rfl,_,rfl,A'.p,dx,_,rfl,a1,Yc ⋯,A',S,rfl,SA,A',S,"enrol",n,atV S,rfl,SA,hz,fun H1 SA1 f1=>?_⟩;obtain⟨⟨dx1,v1,a11,a12⟩,b1,c1,_⟩:=id SA1;obtain⟨⟨dxr1,kvr1,hpr1,hdr1,en1⟩,ndr1⟩:=id b1;refine⟨_,rfl,A'.p,a.zdp,dx1,_,_,rfl,a11,T.zdq,T.zex,Wg,A'.pr,dxr1,_,rfl,hpr1,Yt.no ⋯,_,rfl,_,rfl,_,rfl,A'.pr,A'.dr,S.ppl,n,g,c0,rfl,b1,sm,hz2,?_⟩;rw[if_neg h3,if_neg h4,if_neg h5];intro H2 R2 k2;obtain⟨SA2,f2⟩:=SA1.setRos R2 k2;exact h H2 SA2 (f1.trans f2)
noncomputable abbrev Xz:Stmt:=Zy (top 55) 10
theorem Uj:Zl ["self","matches","listed"] ["self","matches"] (Zj Xz):=fnS
theorem Qk(F:Fun K "draw_up" "Season.draw_up" Xz f fd)(T:Tx K mg a)(zeb:Zt P w K mg base a.zdp "check_undrawn" 4 ["self"] (Q6 (ca a)))(zh6:Yg P w K mg base "checked" 3 ["matches"] (Nj K (ca a)))(zd5:Zt P w K mg base a.zdp "check_room" 1 ["self"] (Kf (ca a)))(zel:Zt P w K mg base a.zdp "note" 1 ["self","word","number","at"] (Kg (ca a)))(zds:Zt P w K mg base a.zdp "at_hand" 2 ["self"] (Wm (ca a)))(zgr:Yg P w K mg base "drawn_sheet" 4 ["listed","lists"] (Gy (ca a)))(zej:Zt P w K mg base a.zdp "takers_of" 5 ["self","listed"] (Ro (ca a)))(zg2:Zt P w K mg base a.zdu "goes" 1 ["self"] (Jk (ca a))):FnOk P w K mg base (CX1 P w) 6 f fd ["self","matches"] (Jr K (ca a)):=by
 refine F.okX Uj ⋯ fun _ _ _ _ H _ Q E hr h=>?_;obtain⟨A',S,b,ts,ms,rfl,SA,hs,tl,sm,hml,hz,po,h⟩:=h;refine⟨_,(Zc (Z4 (Ya (pv 0) T.zdq zeb (hr.mono ⋯) Zk))
 (Zc (pS 2 Uj.nd (pF zh6 hr (Za (pv 1) Zd)))
 (Zc (Z4 (Ya (pv 0) T.zdq zd5 (hr.mono ⋯) Zk))
 (Zc (Z4 (Xl (pv 0) T.zdq zel (hr.mono ⋯) Zk (Za Zx (Za (Zu (cL K) (by rfl) T.zfz PySem.boot_len (Za (pv 2) Zd)) (Za (Ya (pv 0) T.zdq zds (hr.mono ⋯) Zk) Zd)))))
 (Zc (Yi (K:=K) rfl (pv 0) (pF zgr hr (Za (pv 2) (Za (Xl (pv 0) T.zdq zej (hr.mono ⋯) Zk (Za (pv 2) Zd)) Zd))) rfl)
 (Zf (Zp (Ya (Zm (K:=K) rfl (pv 0) rfl) T.zee zg2 (hr.mono ⋯) Zk)))))))),?_⟩
 obtain⟨⟨dx,v,a1,a2⟩,br,cl,_⟩:=id SA;have hts:ts.length=ms.length:=by rw[tl.length,zqx]
 refine⟨_,rfl,A'.p,dx,_,rfl,a1,Yc ⋯,A',S,rfl,SA,?_⟩;refine it2 h (fun _ z=>z) fun h1 h=>it2 h (fun _ z=>z) fun h2 h=>?_;refine⟨_,rfl,b,ts,ms,rfl,hs,tl,sm,hml,h.1,h.2.1,h.2.2.1,fun g1 g2 g3 l1 hl1=>?_⟩;have h4:=h.2.2.2 g1 g2 g3;have s1:=Ze (o:=.lst ts) hl1;have q1:upd H l1 (.lst ts) l1=some (.lst ts):=Zb;generalize upd H l1 (.lst ts)=H1 at s1 q1;have SA1:=SA.same s1;have a11:=s1 _ _ a1;refine⟨_,rfl,A'.p,dx,_,rfl,a11,Yc ⋯,A',S,rfl,SA1,?_⟩;refine K2 (fun z=>h4.1 z H1 s1) (fun hroom=>?_);refine⟨_,rfl,A'.p,dx,_,rfl,a11,Yc ⋯,_,rfl,l1,_,rfl,.inl (SqL.of q1),_,rfl,A'.p,dx,_,rfl,a11,Yc ⋯,A',S,rfl,SA1,A',S,"draw up",(ts.length:Nat),atV S,rfl,SA1,hz,fun H2 SA2 f2=>?_⟩;rw[hts] at SA2;have ok1:l1∉A'.fp:=SA.newOk l1 hl1;have q12:=f2 _ _ q1 ok1;have tl2:=(tl.same s1).mono (SA1.tups f2);obtain⟨⟨dx2,v2,a21,a22⟩,br2,_⟩:=id SA2;refine⟨_,rfl,_,rfl,A'.p,dx2,_,rfl,a21,Yc ⋯,_,rfl,A',_,l1,ts,ms,rfl,SA2,q12,tl2,by omega,zro po.2 ⋯,po.small,fun l2 ls H3 h3 il3 s3 f3 fl3=>?_⟩;have SA3:=SA2.same s3;have mo:Na (mayS S ms) (S.ppl.map (·.1)):=po.may br2.nd g1;refine⟨(·∉A'.fp),l1,l2,ts,ls,ms,mayS S ms,_,rfl,s3 _ _ q12,tl2.same s3,h3,il3,ok1,SA2.newOk l2 f3,fun x hx=>SA2.newOk x (fl3 x hx),SA3.newOk,mo,fun q gv H4 ShA FP SP s4 fq=>?_⟩;have SA4:=SA3.same s4;obtain⟨⟨dx4,v4,a41,a42⟩,_⟩:=id SA4;refine⟨_,rfl,A'.p,a.zdp,dx4,_,rfl,a41,T.zdq,T.zem,(by show 8<1000;decide),?_⟩;obtain⟨SA5,f5,Sh5⟩:=SA4.newSheet a41 ShA;generalize upd H4 A'.p (.ins a.zdp dx4 (putF "sheet" (.ref q) (seaF A' S.len S.rest v4)))=H5 at SA5 f5 Sh5;obtain⟨⟨dx5,v5,a51,a52⟩,_⟩:=id SA5;obtain⟨q',rfl,Sq⟩:=a52;obtain⟨dxq,m1,m2,m3,m4,hq'⟩:=ShAt.ins Sq;refine⟨_,rfl,A'.p,a.zdp,dx5,_,_,rfl,a51,T.zdq,T.zem,Xt,q',dxq,_,rfl,hq',T7 ⋯ ⋯ ⋯ ⋯,(·∉A'.fp),q',_,rfl,Sq,fun l H6 hl s6 fl=>?_⟩;have fr5:FrS A' H H5:=(FrS.of A' s1).trans (f2.trans ((FrS.of A' (s3.trans s4)).trans f5));exact h4.2 ⋯ l gv H6 hl (SA5.same s6) FP SP (fr5.trans (FrS.of A' s6)) (fr5.free SA5 fl)
noncomputable abbrev Vh:Stmt:=Zy (top 55) 11
theorem N3:Zl ["self","at","number"] ["self","at","number"] (Zj Vh):=fnS
theorem N4(F:Fun K "away" "Season.away" Vh f fd)(T:Tx K mg a)(ze6:Zt P w K mg base a.zdp "check_round" 1 ["self","at"] (G0 (ca a)))(zea:Zt P w K mg base a.zdr "over" 1 ["self"] (O9 a.zdr))(zed:Zt P w K mg base a.zdt "check_known" 1 ["self","number"] (Tb (ca a)))(zd5:Zt P w K mg base a.zdp "check_room" 1 ["self"] (Kf (ca a)))(zel:Zt P w K mg base a.zdp "note" 1 ["self","word","number","at"] (Kg (ca a)))(zds:Zt P w K mg base a.zdp "at_hand" 2 ["self"] (Wm (ca a)))(zft:Zt P w K mg base a.zdp "step_in" 6 ["self","number"] (Js (ca a))):FnOk P w K mg base (CX1 P w) 7 f fd ["self","at","number"] (Cu (ca a)):=by
 refine F.okX N3 ⋯ fun _ _ _ _ H _ Q E hr h=>?_;obtain⟨A',S,i,n,rfl,SA,si,sn,hz,hoz,po,hcur,h⟩:=h;have hu:=Vp hr;refine⟨_,(Zc (Z4 (Xl (pv 0) T.zdq ze6 (hr.mono ⋯) Zk (Za (pv 1) Zd)))
 (Zc (Z6 (Zn zbs (pv 1) (Ya (Zm (K:=K) rfl (pv 0) rfl) T.zen zea (hr.mono ⋯) Zk) (Zs _))
  (Zf (Yv Yu rfl T.zjh rfl (Za (Wi (Zw (Xd ⋯) (Zw (Wb (pv 1)) (Zw (Xd ⋯) Wh))) ⋯) Zd)))
  Zr)
 (Zc (Z4 (Xl (Zm (K:=K) rfl (pv 0) rfl) T.zef zed (hr.mono ⋯) Zk (Za (pv 2) Zd)))
 (Zc (Z6 (Ra (Lp hu (Yp (Za (pv 1) (Za (pv 2) Zd))) (Zm (K:=K) rfl (pv 0) rfl)))
  (Zf (Yv Yu rfl T.zjd rfl (Za (Wi (Zw (Xd ⋯) (Zw (Wb (pv 2)) (Zw (Xd ⋯) (Zw (Wb (pv 1)) (Zw (Xd ⋯) Wh))))) ⋯) Zd)))
  Zr)
 (Zc (Z4 (Ya (pv 0) T.zdq zd5 (hr.mono ⋯) Zk))
 (Zc (Z4 (Xl (pv 0) T.zdq zel (hr.mono ⋯) Zk (Za Zx (Za (pv 2) (Za (pv 1) Zd)))))
 (Zc (Si hu (Zm (K:=K) rfl (pv 0) rfl) (Yp (Za (pv 1) (Za (pv 2) Zd))) V4 rfl)
 (Zc (Z6 (PW.pt (Ur (Zn Tv (pv 1) (Ya (pv 0) T.zdq zds (hr.mono ⋯) Zk) (Zs _)) (V5 (Zn Ov (Zm (K:=K) rfl (pv 0) rfl) Xm (Zs _)))))
  (Zf (Zp (Z3 Zd)))
  Zr)
 (Zf (Zp (Xl (pv 0) T.zdq zft (hr.mono ⋯) Zk (Za (pv 2) Zd)))))))))))),?_⟩
 show let y1:TS:=_;let y2:TS:=Z7 _ y1;let y3:TS:=Z7 _ y2;let y4:TS:=Z7 _ y3;let y5:TS:=Z7 _ y4;let y6:TS:=Z7 _ y5;let y7:TS:=Z7 _ y6;let y8:TS:=Z7 _ y7;Z7 _ y8 _ _ _;intro y1 y2 y3 y4 y5 y6 y7 y8;obtain⟨⟨dx,v,a1,a2⟩,br,cl,⟨kvs,d1,d2⟩,_⟩:=id SA;obtain⟨⟨dxl,hpl⟩,_⟩:=id cl;obtain⟨⟨dxr,kvr,hpr,hdr,en⟩,ndr⟩:=id br;refine⟨_,rfl,A'.p,dx,_,rfl,a1,Yc ⋯,_,rfl,A',S,i,rfl,SA,si,?_⟩;refine it2 h (fun _ z=>z) fun h1 h=>?_;refine⟨_,rfl,_,rfl,A'.p,a.zdp,dx,_,_,rfl,a1,T.zdq,T.ze4,V3,A'.pl,dxl,_,rfl,hpl,O8 ⋯ ⋯,A'.pl,A'.lr,A'.ld,S.led,rfl,cl,_,_,rfl,rfl,_,rfl,?_⟩;refine itD (fun hc=>?_) (fun hc=>?_)
 ·rw[if_pos hc] at h;exact⟨_,rfl,.inl ⟨_,rfl,si⟩,fun z=>⟨sz1,h⟩⟩
 rw[if_neg hc] at h;refine Zq ?_;refine⟨_,rfl,A'.p,a.zdp,dx,_,_,rfl,a1,T.zdq,T.zex,Wg,A'.pr,dxr,_,rfl,hpr,Yt.no ⋯,_,rfl,A'.pr,A'.dr,S.ppl,n,rfl,br,sn,?_⟩;refine it2 h (fun hk h=>?_) (fun _ z=>z);refine⟨_,rfl,_,rfl,sz2,fun t ht=>?_⟩;have s1:=Ze (o:=.tup [.int i,.int n]) ht;have q1:upd H t (.tup [.int i,.int n]) t=some (.tup (([inl i,inl n]:List Key).map kV)):=Zb;generalize upd H t (.tup [.int i,.int n])=H1 at s1 q1;have SA1:=SA.same s1;have a11:=s1 _ _ a1;refine⟨_,rfl,A'.p,a.zdp,dx,_,_,rfl,a11,T.zdq,T.zfk,So,A'.da,_,rfl,DGet.t (k:=[inl i,inl n]) (s1 _ _ d1) q1,_,rfl,?_⟩;rw[d2.isSome];refine itD (fun hm=>?_) (fun hm=>?_)
 ·rw[if_pos hm] at h;exact⟨_,rfl,.inl ⟨_,rfl,sn⟩,_,rfl,.inl ⟨_,rfl,si⟩,fun z=>⟨sz1,h H1 s1⟩⟩
 rw[if_neg hm] at h;refine Zq ?_;refine⟨_,rfl,A'.p,dx,_,rfl,a11,Yc ⋯,A',S,rfl,SA1,?_⟩;refine it2 h (fun _ z=>z H1 s1) fun h6 h=>?_;refine⟨_,rfl,A'.p,dx,_,rfl,a11,Yc ⋯,_,rfl,_,rfl,A',S,"away",n,i,rfl,SA1,hz,fun H2 SA2 f2=>?_⟩;obtain⟨⟨dx2,v2,a21,a22⟩,br2,cl2,⟨kvs2,d21,d22⟩,_⟩:=id SA2;refine⟨_,rfl,A'.p,a.zdp,dx2,_,_,rfl,a21,T.zdq,T.zfk,So,_,rfl,_,rfl,sz2,fun t2 ht2=>?_⟩;have s3:=Ze (o:=.tup [.int i,.int n]) ht2;have q3:upd H2 t2 (.tup [.int i,.int n]) t2=some (.tup (([inl i,inl n]:List Key).map kV)):=Zb;generalize upd H2 t2 (.tup [.int i,.int n])=H3 at s3 q3;have SA3:=SA2.same s3;refine⟨A'.da,_,rfl,DPut.t (k:=[inl i,inl n]) (s3 _ _ d21) q3 (by have:=d22.2;have h9:kvs2.length<=S.out.length:=this;have:=Uz;omega),?_⟩;obtain⟨SA4,f4⟩:=SA3.setOut (out:=S.out++[(i,n)]) Zb (d22.put i n) (fun b o e hb=>by rw[Zg hb];exact e);generalize upd H3 A'.da (.dT (putK kvs2 [inl i,inl n] (.bl true)))=H4 at SA4 f4;have SA4:Zv (ca a) H4 A' (W7 S i n):=SA4;have fr4:FrS A' H H4:=(FrS.of A' s1).trans (f2.trans ((FrS.of A' s3).trans f4));obtain⟨⟨dx4,v4,a41,a42⟩,br4,_⟩:=id SA4;have empty:(S.cur=none\/atV S<i)->∀ l,H4 l=none->Q (.ref l) (upd H4 l (.lst [])):=fun hz l hl=>h.1 hz l _ Zb (SA4.same (Ze hl)) (fr4.trans (FrS.of A' (Ze hl))) (fr4.free SA4 hl);refine⟨_,rfl,_,rfl,A'.p,dx4,_,rfl,a41,Yc ⋯,A',_,rfl,SA4,_,_,rfl,rfl,_,rfl,?_⟩;refine itD (fun hgt=>?_) (fun hle=>?_)
 ·refine iteT ?_;exact⟨by show 0<=sizeLine;decide,fun l hl=>empty (.inr hgt) l hl⟩
 have hat:i=atV S:=by
  have hle:¬ (atV S<i):=hle;unfold atV at hle ⊢;omega
 refine⟨_,rfl,A'.p,a.zdp,dx4,_,_,rfl,a41,T.zdq,T.zem,Xt,rfl,_,rfl,?_⟩;cases hc4:S.cur with
 | none =>
   have e4:v4=.non:=by
    have:ShO a.zdu (·∉A'.fp) H4 v4 S.cur:=a42;rw[hc4] at this;exact this
   rw[e4];refine iteT ?_;exact⟨by show 0<=sizeLine;decide,fun l hl=>empty (.inl hc4) l hl⟩
 | some s =>
   have e4:∃ q,v4=.ref q:=by
    have:ShO a.zdu (·∉A'.fp) H4 v4 S.cur:=a42;rw[hc4] at this;obtain⟨q,e,_⟩:=this;exact⟨q,e⟩
   obtain⟨q4,rfl⟩:=e4;refine iteF (Zq ?_);obtain⟨hm20,FP,emay,hgz⟩:=hcur s hc4;have po4:T8 (W7 S i n):=po;have hgl:s.gv.length<=100:=by rw[FP.len,emay];unfold mayS;rw[zqx];omega
   refine⟨_,rfl,A'.p,dx4,_,rfl,a41,Yc ⋯,_,rfl,A',W7 S i n,n,s,(W7 S i n).ppl.map (·.1),rfl,SA4,hc4,po4,hm20,FP.one,hgl,hgz,po4.may br4.nd hm20,fun hp l H5 hl SA5 f5 fl=>?_,fun p hp=>?_⟩
   ·exact h.2.1 s hat hc4 hp l H5 hl SA5 (fr4.trans f5) (fr4.free SA4 fl)
   ·have hgp:=Hh hp;refine⟨hgp,fun j hj=>FP.inj j p n hj hgp,?_,fun l us st e w' H5 hl tl CR SA5 f5 fl=>?_⟩
    ·rw[hat,Cv,<- emay];exact Kc FP hgp
    ·exact h.2.2 s p hat hc4 hp l us st e w' H5 hl tl CR SA5 (fr4.trans f5) (fr4.free SA4 fl)
noncomputable abbrev X0:Stmt:=Zy (top 55) 12
theorem Wz:Zl ["self","number","lists","fallen"] ["self","number"] (Zj X0):=fnS
theorem Ql(F:Fun K "step_in" "Season.step_in" X0 f fd)(T:Tx K mg a)(zej:Zt P w K mg base a.zdp "takers_of" 5 ["self","listed"] (Ro (ca a)))(zf2:Zt P w K mg base a.zdu "matches" 1 ["self"] (Po (ca a)))(ze0:Zt P w K mg base a.zdu "where" 2 ["self","number"] (Q4 (ca a)))(zgj:Zt P w K mg base a.zdu "barred" 3 ["self","lists"] (Ji (ca a)))(zff:Zt P w K mg base a.zdu "fallen_out" 3 ["self","number","lists"] (Jj (ca a)))(zgh:Zt P w K mg base a.zdu "chains" 1 ["self"] (Nf (ca a))):FnOk P w K mg base (CX1 P w) 6 f fd ["self","number"] (Js (ca a)):=by
 refine F.okX Wz ⋯ fun _ _ _ _ H _ Q E hr h=>?_;obtain⟨A',S,n,s,nu,rfl,SA,hc,po,hml,ho,hgl,hgz,mo,h1,h2⟩:=h;refine⟨_,(Zc (pS 2 Wz.nd (Xl (pv 0) T.zdq zej (hr.mono ⋯) Zk (Za (Ya (Zm (K:=K) rfl (pv 0) rfl) T.zee zf2 (hr.mono ⋯) Zk) Zd)))
 (Zc (Z6 (Zn Ov (Xl (Zm (K:=K) rfl (pv 0) rfl) T.zee ze0 (hr.mono ⋯) Zk (Za (pv 1) Zd)) Xm (Zs _))
  (Zc (Yi (K:=K) rfl (pv 0) (Xl (Zm (K:=K) rfl (pv 0) rfl) T.zee zgj (hr.mono ⋯) Zk (Za (pv 2) Zd)) rfl)
  (Zf (Zp (Z3 Zd))))
  Zr)
 (Zc (Yi (K:=K) rfl (pv 0) (Xl (Zm (K:=K) rfl (pv 0) rfl) T.zee zff (hr.mono ⋯) Zk (Za (pv 1) (Za (pv 2) Zd))) rfl)
 (Zc (pS 3 Wz.nd (Ya (Zm (K:=K) rfl (pv 0) rfl) T.zee zgh (hr.mono ⋯) Zk))
 (Zf (Zp (pI (iU K) (pI (iL K) (pv 3) (Hs Lo Zi)) Zi))))))),?_⟩
 obtain⟨⟨dx,v,a1,a2⟩,br,cl,_⟩:=id SA;rw[hc] at a2;obtain⟨q,rfl,Sq⟩:=a2;obtain⟨dxq,m1,m2,m3,m4,hq⟩:=ShAt.ins Sq;refine⟨_,rfl,A'.p,dx,_,rfl,a1,Yc ⋯,_,rfl,A'.p,a.zdp,dx,_,_,rfl,a1,T.zdq,T.zem,Xt,q,dxq,_,rfl,hq,T7 ⋯ ⋯ ⋯ ⋯,(·∉A'.fp),q,s,rfl,Sq,fun l1 ts H1 hl1 tl s1 f1=>?_⟩;have SA1:=SA.same s1;refine⟨A',S,l1,ts,s.ms,rfl,SA1,hl1,tl,by omega,zro po.2 ⋯,po.small,fun l2 ls H2 h3 il3 s2 f3 fl3=>?_⟩;have s12:=s1.trans s2;have SA2:=SA1.same s2;have Sq2:=Sq.same s12;refine⟨_,rfl,A'.p,a.zdp,dx,_,_,rfl,s12 _ _ a1,T.zdq,T.zem,Xt,q,dxq,_,rfl,s12 _ _ hq,T7 ⋯ ⋯ ⋯ ⋯,_,rfl,(·∉A'.fp),q,s,n,rfl,Sq2,ho,hgl,fun H3 s3=>?_⟩;have s13:=s12.trans s3;have SA3:=SA2.same s3;have Sq3:=Sq2.same s3;have il4:=il3.same s3;refine⟨rfl,_,rfl,?_⟩;cases hp:Wk s.gv n with
 | none =>
   refine iteT ?_;refine⟨_,rfl,A'.p,a.zdp,dx,_,_,rfl,s13 _ _ a1,T.zdq,T.zem,Xt,q,dxq,_,rfl,s13 _ _ hq,T7 ⋯ ⋯ ⋯ ⋯,_,rfl,(·∉A'.fp),q,l2,ls,mayS S s.ms,s,rfl,Sq3,s3 _ _ h3,il4,SA1.newOk l2 f3,fun x hx=>SA1.newOk x (fl3 x hx),SA3.newOk,fun q' H4 ShA s4 fq=>?_⟩;have SA4:=SA3.same s4;obtain⟨⟨dx4,v4,a41,a42⟩,_⟩:=id SA4;refine⟨_,rfl,A'.p,a.zdp,dx4,_,rfl,a41,T.zdq,T.zem,(by show 8<1000;decide),?_⟩;obtain⟨SA5,f5,Sh5⟩:=SA4.newSheet a41 ShA;generalize upd H4 A'.p (.ins a.zdp dx4 (putF "sheet" (.ref q') (seaF A' S.len S.rest v4)))=H5 at SA5 f5 Sh5;have fr5:FrS A' H H5:=(FrS.of A' (s13.trans s4)).trans f5;refine⟨by show 0<=sizeLine;decide,fun l hl=>?_⟩;exact h1 hp l _ Zb (SA5.same (Ze hl)) (fr5.trans (FrS.of A' (Ze hl))) (fr5.free SA5 hl)
 | some p =>
   refine iteF (Zq ?_);obtain⟨hgp,hun,FP,h3'⟩:=h2 p hp;refine⟨_,rfl,A'.p,a.zdp,dx,_,_,rfl,s13 _ _ a1,T.zdq,T.zem,Xt,q,dxq,_,rfl,s13 _ _ hq,T7 ⋯ ⋯ ⋯ ⋯,_,rfl,_,rfl,(·∉A'.fp),q,l2,ls,mayS S s.ms,nu,s,n,p,rfl,Sq3,s3 _ _ h3,il4,SA1.newOk l2 f3,fun x hx=>SA1.newOk x (fl3 x hx),SA3.newOk,mo,ho,hgp,hun,FP,by omega,fun q' st e w' H4 ShA CR s4 fq=>?_⟩;have SA4:=SA3.same s4;obtain⟨⟨dx4,v4,a41,a42⟩,_⟩:=id SA4;refine⟨_,rfl,A'.p,a.zdp,dx4,_,rfl,a41,T.zdq,T.zem,(by show 8<1000;decide),?_⟩;obtain⟨SA5,f5,Sh5⟩:=SA4.newSheet a41 ShA;generalize upd H4 A'.p (.ins a.zdp dx4 (putF "sheet" (.ref q') (seaF A' S.len S.rest v4)))=H5 at SA5 f5 Sh5;have fr5:FrS A' H H5:=(FrS.of A' (s13.trans s4)).trans f5;obtain⟨⟨dx5,v5,a51,a52⟩,_⟩:=id SA5;obtain⟨q5,rfl,Sq5⟩:=a52;obtain⟨dxq5,m51,m52,m53,m54,hq5⟩:=ShAt.ins Sq5;refine⟨_,rfl,A'.p,a.zdp,dx5,_,_,rfl,a51,T.zdq,T.zem,Xt,q5,dxq5,_,rfl,hq5,T7 ⋯ ⋯ ⋯ ⋯,(·∉A'.fp),q5,_,rfl,Sq5,by show (s.gaps++[(n,st)]).length<=1000;rw[zq4];show s.gaps.length+1<=1000;omega,fun l us H6 hl gl s6 fl=>?_⟩;obtain⟨vs',t,l',us',rfl,ht,hl',tl',ok',_⟩:=We.unsnoc gl;refine⟨_,rfl,_,rfl,l,_,_,_,rfl,rfl,SqL.of hl,Cr,t,_,_,_,rfl,rfl,SqT.of ht,rfl,?_⟩;exact h3' l' us' st e w' H6 hl' tl' CR (SA5.same s6) (fr5.trans (FrS.of A' s6)) (fr5.free SA5 ok')
noncomputable abbrev W0:Stmt:=Zy (top 55) 13
theorem To:Zl ["self","sheet"] ["self"] (Zj W0):=fnS
theorem Oa(F:Fun K "close" "Season.close" W0 f fd)(T:Tx K mg a)(zd9:Zt P w K mg base a.zdp "check_not_over" 3 ["self"] (Q5 (ca a)))(zez:Zt P w K mg base a.zdp "sheet_at_hand" 1 ["self"] (Nh (ca a)))(zgb:Zt P w K mg base a.zdr "write" 1 ["self","rows"] (Jh a.zdr))(zg3:Zt P w K mg base a.zdu "rows" 1 ["self"] (Jl (ca a)))(zea:Zt P w K mg base a.zdr "over" 1 ["self"] (O9 a.zdr)):FnOk P w K mg base (CX1 P w) 4 f fd ["self"] (G2 (ca a)):=by
 refine F.okX To ⋯ fun _ _ _ _ H _ Q E hr h=>?_;obtain⟨A',S,rfl,SA,ht,hl,hol,hcur,h⟩:=h;refine⟨_,(Zc (Z4 (Ya (pv 0) T.zdq zd9 (hr.mono ⋯) Zk))
 (Zc (pS 1 To.nd (Ya (pv 0) T.zdq zez (hr.mono ⋯) Zk))
 (Zc (Z4 (Xl (Zm (K:=K) rfl (pv 0) rfl) T.zen zgb (hr.mono ⋯) Zk (Za (Ya (pv 1) T.zee zg3 (hr.mono ⋯) Zk) Zd)))
 (Zc (Xe (Zm (K:=K) rfl (pv 0) rfl) (pv 1))
 (Zc (Yi (K:=K) rfl (pv 0) Xm rfl)
 (Zc (Yi (K:=K) rfl (pv 0) (Z3 Zd) rfl)
 (Zf (Zp (Ya (Zm (K:=K) rfl (pv 0) rfl) T.zen zea (hr.mono ⋯) Zk))))))))),?_⟩
 obtain⟨⟨dx,v,a1,a2⟩,br,cl,_⟩:=id SA;obtain⟨⟨dxl,hpl⟩,_⟩:=id cl;refine⟨_,rfl,A'.p,dx,_,rfl,a1,Yc ⋯,A',S,rfl,SA,?_⟩;refine it2 h (fun _ z=>z) fun h1 h=>?_;refine⟨_,rfl,A'.p,dx,_,rfl,a1,Yc ⋯,A',S,rfl,SA,h.1,fun s q hc Sq=>?_⟩;obtain⟨ho,hgl,hml⟩:=hcur s hc;obtain⟨dxq,m1,m2,m3,m4,hq⟩:=ShAt.ins Sq;refine⟨_,rfl,A'.p,a.zdp,dx,_,_,rfl,a1,T.zdq,T.ze4,V3,A'.pl,dxl,_,rfl,hpl,O8 ⋯ ⋯,_,rfl,q,dxq,_,rfl,hq,T7 ⋯ ⋯ ⋯ ⋯,(·∉A'.fp),q,s,rfl,Sq,ho,hgl,hml,fun l1 ts H1 hl1 tl s1 f1=>?_⟩;have SA1:=SA.same s1;have ok1:l1∉A'.fp:=SA.newOk l1 f1;refine⟨A'.pl,A'.lr,A'.ld,S.led,l1,ts,W8 s,rfl,SA1.led,hl1,fun z=>ok1 (by rw[z];simp[SAd.fp]),tl,by rw[Jm hgl];omega,hl,fun H2 L2' k2=>?_⟩;obtain⟨SA2,f2⟩:=SA1.setLed L2' k2;obtain⟨⟨dx2,v2,a21,a22⟩,br2,cl2,d2,⟨vs,f21,f22⟩,_⟩:=id SA2;have Sq2:=(Sq.same s1).keep (fun x o hx e=>f2 x o e hx) (SA1.tups f2);refine⟨_,rfl,A'.p,a.zdp,dx2,_,_,rfl,a21,T.zdq,T.zgx,Ek,A'.ls,vs,rfl,f21,_,rfl,vs,f21,by have:=f22.length;have h9:vs.length=S.old.length:=this;have:=Uz;omega,?_⟩;have k3:∀ b o,H2 b=some o->b≠A'.ls->upd H2 A'.ls (.lst (vs++[.ref q])) b=some o:=fun b o e hb=>by rw[Zg hb];exact e
 have kt3:∀ t xs,H2 t=some (.tup xs)->upd H2 A'.ls (.lst (vs++[.ref q])) t=some (.tup xs):=fun t xs e=>k3 t _ e (Yl e f21 (fun z=>nomatch z));have ko3:∀ x o,x∉A'.fp->H2 x=some o->upd H2 A'.ls (.lst (vs++[.ref q])) x=some o:=fun x o hx e=>k3 x o e fun z=>hx (by rw[z];simp[SAd.fp]);obtain⟨SA3,f3⟩:=SA2.setOld (old:=S.old++[s]) Zb ((f22.keep ko3 kt3).snoc (Sq2.keep ko3 kt3)) k3;generalize upd H2 A'.ls (.lst (vs++[.ref q]))=H3 at SA3 f3;obtain⟨⟨dx3,v3,a31,a32⟩,_⟩:=id SA3;refine⟨_,rfl,A'.p,a.zdp,dx3,_,rfl,a31,T.zdq,T.zem,(by show 8<1000;decide),?_⟩;obtain⟨SA4,f4⟩:=SA3.setCur (H':=upd H3 A'.p (.ins a.zdp dx3 (putF "sheet" .non (seaF A' S.len S.rest v3)))) (cur:=none) (v:=.non) ⟨dx3,by rw[Zb];exact congrArg (fun x=>some (HO.ins a.zdp dx3 x)) Rp⟩ rfl (fun b o e hb=>by rw[Zg hb];exact e);generalize upd H3 A'.p (.ins a.zdp dx3 (putF "sheet" .non (seaF A' S.len S.rest v3)))=H4 at SA4 f4;obtain⟨⟨dx4,v4,a41,a42⟩,_⟩:=id SA4;refine⟨by show 0<=sizeLine;decide,fun x hx=>?_⟩;have npx:A'.p≠x:=Zh a41 hx;refine⟨_,rfl,A'.p,a.zdp,dx4,_,rfl,(by rw[Zg npx];exact a41),T.zdq,T.zer,(by show 8<1000;decide),?_⟩;obtain⟨SA5,f5⟩:=SA4.freshStd hx a41 a42 rfl;have fr4:FrS A' H H4:=(FrS.of A' s1).trans (f2.trans (f3.trans f4));have fx:H x=none:=fr4.free SA4 hx;generalize upd (upd H4 x (.lst [])) A'.p (.ins a.zdp dx4 (putF "standing" (.ref x) (seaF A' S.len S.rest v4)))=H5 at SA5 f5;have SA5:Zv (ca a) H5 { A' with lt:=x } (Ki S s):=SA5;obtain⟨⟨dx5,v5,a51,a52⟩,br5,cl5,_⟩:=id SA5;obtain⟨⟨dxl5,hpl5⟩,_⟩:=id cl5;refine⟨_,rfl,A'.p,a.zdp,dx5,_,_,rfl,a51,T.zdq,T.ze4,V3,A'.pl,dxl5,_,rfl,hpl5,O8 ⋯ ⋯,A'.pl,A'.lr,A'.ld,S.led++[W8 s],rfl,cl5,?_⟩;have hfin:=h.2 s x H5 hc SA5 (fr4.trans f5) fx;have e:(((S.led++[W8 s]).length:Nat):Int)=atV S:=by rw[zq4];rfl
 rw[e];exact hfin
noncomputable abbrev Xj:Stmt:=Zy (top 55) 14
theorem X3:Zl ["self","last","deed"] ["self"] (Zj Xj):=fnS
theorem S3(F:Fun K "take_back" "Season.take_back" Xj f fd)(T:Tx K mg a)(zf0:Zt P w K mg base a.zdt "strike" 1 ["self","number"] (Jd (ca a))):FnOk P w K mg base (CX1 P w) 2 f fd ["self"] (Nl (ca a)):=by
 refine F.okX X3 ⋯ fun _ _ _ _ H _ Q E hr h=>?_;obtain⟨A',S,rfl,SA,h1,h2⟩:=h;have hu:=Vp hr;refine⟨_,(Zc (Z6 (Tu (M5 (K:=K) rfl (Zm (K:=K) rfl (pv 0) rfl) (fun _=>rfl)))
  (Zf (Yv Yu rfl T.zhi rfl (Za Zx Zd)))
  Zr)
 (Zc (pS 1 X3.nd (Dq PySem.F.plainAttrs_list PySem.F.slot_list_pop PySem.F.type_list_pop zap (Zm (K:=K) rfl (pv 0) rfl)))
 (Zc (pS 2 X3.nd (pI (iU K) (pv 1) Zi))
 (Zc (Yi (K:=K) rfl (pv 0) (pI (iU K) (pv 1) Zi) rfl)
 (Zc (Z6 (Zn Xr (pI (iU K) (pv 2) Zi) Zx (Zs _))
  (Zf (Z4 (Xl (Zm (K:=K) rfl (pv 0) rfl) T.zef zf0 (hr.mono ⋯) Zk (Za (pI (iU K) (pv 2) Zi) Zd))))
  Zr)
 (Zc (Z6 (Zn Xr (pI (iU K) (pv 2) Zi) Zx (Zs _))
  (Zf (Z4 (Co hu (Zm (K:=K) rfl (pv 0) rfl) (Yp (Za (pI (iU K) (pv 2) Zi) (Za (pI (iU K) (pv 2) Zi) Zd))) ⟨rfl,rfl,rfl,rfl⟩)))
  Zr)
 (Zf (Zp (pv 2))))))))),?_⟩
 show let y1:TS:=_;let y2:TS:=Z7 _ y1;let y3:TS:=Z7 _ y2;let y4:TS:=Z7 _ y3;let y5:TS:=Z7 _ y4;let y6:TS:=Z7 _ y5;Z7 _ y6 _ _ _;intro y1 y2 y3 y4 y5 y6;obtain⟨⟨dx,v,a1,a2⟩,br,cl,d0,f0,⟨us,g1,g2⟩,_⟩:=id SA;refine⟨_,rfl,A'.p,a.zdp,dx,_,_,rfl,a1,T.zdq,T.zer,Vk,_,.inl ⟨_,SqL.of g1,rfl⟩,?_⟩;have hul:=g2.length;rcases List.eq_nil_or_concat S.std with hn|⟨std',⟨d,s⟩,he⟩
 ·rw[hn] at hul;have hu0:us=[]:=List.length_eq_zero_iff.mp hul;rw[hu0];exact iteT ⟨sz1,h1 hn⟩
 have he:S.std=std'++[(d,s)]:=by rw[he,List.concat_eq_append]
 rw[he] at g2;obtain⟨vs',t,u,v',rfl,ht,hu',hs,g3⟩:=Vj.unsnoc g2;have hne:(vs'++[V.ref t]).isEmpty=false:=by cases vs'<;>rfl
 rw[hne];refine iteF (Zq ?_);obtain⟨ppl,out,hbk,hfin⟩:=h2 std' d s he;refine⟨_,rfl,A'.p,a.zdp,dx,_,_,rfl,a1,T.zdq,T.zer,Vk,.inl ⟨rfl,_,SqL.of g1⟩,A'.lt,_,V.ref t,rfl,rfl,g1,by simp,?_⟩;rw[List.dropLast_concat];have k1:∀ b o,H b=some o->b≠A'.lt->upd H A'.lt (.lst vs') b=some o:=fun b o e hb=>by rw[Zg hb];exact e
 have kt1:∀ t xs,H t=some (.tup xs)->upd H A'.lt (.lst vs') t=some (.tup xs):=fun t xs e=>k1 t _ e (Yl e g1 (fun z=>nomatch z));have ko1:∀ x o,x∉A'.fp->H x=some o->upd H A'.lt (.lst vs') x=some o:=fun x o hx e=>k1 x o e fun z=>hx (by rw[z];simp[SAd.fp]);obtain⟨SA1,f1⟩:=SA.setStd (std:=std') Zb (g3.keep ko1 kt1) k1;have ht1:=kt1 _ _ ht;have hu1:=kt1 _ _ hu';have hs1:=hs.keep ko1 kt1;generalize upd H A'.lt (.lst vs')=H1 at SA1 f1 ht1 hu1 hs1;refine⟨_,rfl,t,_,_,_,rfl,rfl,SqT.of ht1,rfl,?_⟩;obtain⟨⟨dx1,v1,a11,a12⟩,_⟩:=id SA1;refine⟨_,rfl,t,_,_,_,rfl,rfl,SqT.of ht1,rfl,_,rfl,A'.p,a.zdp,dx1,_,rfl,a11,T.zdq,T.zem,(by show 8<1000;decide),?_⟩;have k2:∀ b o,H1 b=some o->b≠A'.p->upd H1 A'.p (.ins a.zdp dx1 (putF "sheet" v' (seaF A' S.len S.rest v1))) b=some o:=fun b o e hb=>by rw[Zg hb];exact e
 have kt2:∀ t xs,H1 t=some (.tup xs)->upd H1 A'.p (.ins a.zdp dx1 (putF "sheet" v' (seaF A' S.len S.rest v1))) t=some (.tup xs):=fun t xs e=>k2 t _ e (Yl e a11 (fun z=>nomatch z));obtain⟨SA2,f2⟩:=SA1.setCur (cur:=s) (v:=v') ⟨dx1,by rw[Zb];exact congrArg (fun x=>some (HO.ins a.zdp dx1 x)) Rp⟩ (hs1.keep (fun x o hx e=>k2 x o e fun z=>hx (by rw[z];simp[SAd.fp])) kt2) k2;have hu2:=kt2 _ _ hu1;generalize upd H1 A'.p (.ins a.zdp dx1 (putF "sheet" v' (seaF A' S.len S.rest v1)))=H2 at SA2 f2 hu2;have fr2:=f1.trans f2;have d0:atI (U0 d) 0=some (.str d.1):=rfl;have d1:atI (U0 d) 1=some (.int d.2.1):=rfl;have d2:atI (U0 d) 2=some (.int d.2.2):=rfl;have es:∀ w:Str,decide (V.str d.1=V.str w)=decide (d.1=w):=fun w=>by
  by_cases z:d.1=w
  ·rw[zq2 z,zq2 (congrArg V.str z)]
  ·rw[zq5 z,zq5 (fun q=>z (V.str.inj q))]
 walk_at "if";refine Vn ?_;refine⟨_,rfl,u,_,_,_,rfl,rfl,SqT.of hu2,d0,rfl,_,rfl,?_⟩;rw[es];obtain⟨⟨dx2,v2,a21,a22⟩,br2,cl2,⟨kvs2,e21,e22⟩,_⟩:=id SA2;have n1:¬ (("enrol":Str)="away"):=by decide +kernel
 have n2:¬ (("draw up":Str)="away"):=by decide +kernel
 have n3:¬ (("draw up":Str)="enrol"):=by decide +kernel
 have n4:¬ (("away":Str)="enrol"):=by decide +kernel
 rcases hbk with ⟨hd,⟨g,c0,hp⟩,ho⟩|⟨hd,hp,ho,hno⟩|⟨hd,hp,ho⟩
 ·rw[zq2 hd];refine iteT ?_;obtain⟨⟨dxr,kvr,hpr,hdr,en⟩,ndr⟩:=id br2;refine⟨_,rfl,A'.p,a.zdp,dx2,_,_,rfl,a21,T.zdq,T.zex,Wg,A'.pr,dxr,_,rfl,hpr,Yt.no ⋯,_,rfl,u,_,_,_,rfl,rfl,SqT.of hu2,d1,A'.pr,A'.dr,ppl,d.2.1,g,c0,rfl,(show Yt a.zdt H2 A'.pr A'.dr (ppl++[(d.2.1,g,c0)]) by have:Yt a.zdt H2 A'.pr A'.dr S.ppl:=br2;rw[hp] at this;exact this),fun H3 R3 k3=>?_⟩;obtain⟨SA3,f3⟩:=SA2.setRos R3 k3;have hu3:=SA2.tups f3 _ _ hu2;refine⟨_,rfl,u,_,_,_,rfl,rfl,SqT.of hu3,d0,rfl,_,rfl,?_⟩;rw[es,zq5 (by rw[hd];exact n1)];refine iteF (Zq ⟨_,rfl,?_⟩);refine hfin u H3 hu3 ?_ (fr2.trans f3);rw[ho];exact SA3
 ·rw[zq5 (by rw[hd];exact n4)];refine iteF (Zq ?_);refine⟨_,rfl,u,_,_,_,rfl,rfl,SqT.of hu2,d0,rfl,_,rfl,?_⟩;rw[es,zq2 hd];refine iteT ?_;refine⟨_,rfl,A'.p,a.zdp,dx2,_,_,rfl,a21,T.zdq,T.zfk,So,A'.da,rfl,.inr ⟨kvs2,.inl e21⟩,_,rfl,u,_,_,_,rfl,rfl,SqT.of hu2,d2,_,rfl,u,_,_,_,rfl,rfl,SqT.of hu2,d1,sz2,fun tk htk=>?_⟩;have s3:=Ze (o:=.tup [.int d.2.2,.int d.2.1]) htk;have q3:upd H2 tk (.tup [.int d.2.2,.int d.2.1]) tk=some (.tup (([inl d.2.2,inl d.2.1]:List Key).map kV)):=Zb;generalize upd H2 tk (.tup [.int d.2.2,.int d.2.1])=H3 at s3 q3;have SA3:=SA2.same s3;have e22:T5 kvs2 S.out:=e22;rw[ho] at e22;have hv:∃ vv,valV kvs2 [inl d.2.2,inl d.2.1]=some vv:=zr1.mp (by rw[e22.1,zq2 (by simp)]);obtain⟨vv,hv⟩:=hv;refine⟨kvs2,[inl d.2.2,inl d.2.1],tk,vv,s3 _ _ e21,rfl,q3,hv,?_⟩;obtain⟨SA4,f4⟩:=SA3.setOut (out:=out) Zb (e22.drop hno) (fun b o e hb=>by rw[Zg hb];exact e);have hu4:=SA3.tups f4 _ _ (s3 _ _ hu2);refine⟨_,rfl,hfin u _ hu4 ?_ (fr2.trans ((FrS.of A' s3).trans f4))⟩;rw[hp];exact SA4
 ·rw[zq5 (by rw[hd];exact n3)];refine iteF (Zq ?_);refine⟨_,rfl,u,_,_,_,rfl,rfl,SqT.of hu2,d0,rfl,_,rfl,?_⟩;rw[es,zq5 (by rw[hd];exact n2)];refine iteF (Zq ⟨_,rfl,hfin u H2 hu2 ?_ fr2⟩);rw[hp,ho];exact SA2
noncomputable abbrev X1:Stmt:=Zy (top 55) 15
theorem Qm:Zl ["self"] ["self"] (Zj X1):=fnS
theorem Qn(F:Fun K "at_hand" "Season.at_hand" X1 f fd)(T:Tx K mg a)(zea:Zt P w K mg base a.zdr "over" 1 ["self"] (O9 a.zdr)):FnOk P w K mg base (CX1 P w) 2 f fd ["self"] (Wm (ca a)):=by
 refine F.okX Qm ⋯ fun _ _ _ _ H _ Q E hr h=>?_;obtain⟨A',S,rfl,SA,h⟩:=h;refine⟨_,(Zf (Zp (Ym Ib (Ya (Zm (K:=K) rfl (pv 0) rfl) T.zen zea (hr.mono ⋯) Zk) Zi))),?_⟩;obtain⟨⟨dx,v,a1,a2⟩,b,c,_⟩:=id SA;obtain⟨⟨dxl,hpl⟩,_⟩:=id c;refine⟨_,rfl,A'.p,a.zdp,dx,_,_,rfl,a1,T.zdq,T.ze4,V3,A'.pl,dxl,_,rfl,hpl,O8 ⋯ ⋯,A'.pl,A'.lr,A'.ld,S.led,rfl,c,_,_,rfl,rfl,?_⟩;exact h
noncomputable abbrev W2:Stmt:=Zy (top 55) 16
theorem Ob:Zl ["self"] ["self"] (Zj W2):=fnS
theorem Oc(F:Fun K "deeds" "Season.deeds" W2 f fd)(T:Tx K mg a):FnOk P w K mg base (CX1 P w) 1 f fd ["self"] (G3 (ca a)):=by
 refine F.okX Ob ⋯ fun _ _ _ _ H _ Q E hr h=>?_;obtain⟨A',S,rfl,SA,hz,h⟩:=h;have hu:=Vp hr;refine⟨_,(Zf (Zp (Nd rfl (Qa.mk (xo:=["deed","sheet"]) (ys:=[]) (js:=[]) rfl rfl ⋯ ⋯ rfl (by repeat' (first|exact True.intro|apply And.intro|rfl)) (by repeat' (first|exact True.intro|apply And.intro|rfl)) ⋯) (Yw (K:=K) rfl (Zm (K:=K) rfl (pv 0) rfl)) (fun _ _ _ _ _=>Uh) (fun _ _ _ _ _=>(Ui (K:=K) (n:=2) rfl rfl (Yd (Vq (i:=0) (show List.Nodup [("deed":Str),("sheet":Str)] by decide +kernel) rfl (by first|exact Or.inl rfl|exact Or.inr rfl)) (Yd (Vq (i:=1) (show List.Nodup [("deed":Str),("sheet":Str)] by decide +kernel) rfl (by first|exact Or.inl rfl|exact Or.inr rfl)) Ue)))) (fun _ _ _ _ _=>(pv 0))))),?_⟩;obtain⟨⟨dx,v,a1,a2⟩,br,cl,d0,f0,⟨us,g1,g2⟩,_⟩:=id SA;have hul:=g2.length;refine⟨_,rfl,A'.p,a.zdp,dx,_,_,rfl,a1,T.zdq,T.zer,Vk,A'.lt,rfl,⟨_,SqL.of g1⟩,?_⟩;refine Ng (K:=K) (xs:=us) (fun i ys H'=>H'=H/\TupL H ys ((S.std.take i).map fun x=>U0 x.1)/\ys.length=i) ⟨rfl,.nil,rfl⟩ (fun i ys H' _ ⟨e,_⟩=>by rw[e];exact SqL.of g1) (szN ⋯) (fun i ys H' ⟨_,_,e⟩=>by omega) ?_ ?_
 ·rintro i x ys H' hx ⟨rfl,tl,hyl⟩;obtain⟨t,u,v',d,s,rfl,hgi,ht,hu'⟩:=g2.get hx;refine⟨t,_,rfl,SqT.of ht,rfl,_,_,rfl,_,_,rfl,rfl,⟨[some (.ref u),some v'],rfl,rfl⟩,?_⟩;unfold tYes;dsimp only;rw[if_pos rfl];refine⟨_,rfl,rfl,?_,by rw[zq4,hyl];rfl⟩;have e:S.std.take (i+1)=S.std.take i++[(d,s)]:=by rw[zry,hgi];rfl
  rw[e,zre];exact tl.snoc hu'
 ·rintro ys H' ⟨rfl,tl,hyl⟩ l hl;rw[hul,zrm] at tl;exact h l ys _ Zb (tl.same (Ze hl)) (Ze hl) hl
noncomputable abbrev Xq:Stmt:=Zy (top 55) 17
theorem Rz:Zl ["self"] ["self"] (Zj Xq):=fnS
theorem R0(F:Fun K "referees" "Season.referees" Xq f fd)(T:Tx K mg a)(zei:Zt P w K mg base a.zdt "numbers" 1 ["self"] (Rm (ca a))):FnOk P w K mg base (CX1 P w) 2 f fd ["self"] (Nm (ca a)):=by
 refine F.okX Rz ⋯ fun _ _ _ _ H _ Q E hr h=>?_;obtain⟨A',S,rfl,SA,h⟩:=h;refine⟨_,(Zf (Zp (Ya (Zm (K:=K) rfl (pv 0) rfl) T.zef zei (hr.mono ⋯) Zk))),?_⟩;obtain⟨⟨dx,v,a1,a2⟩,br,cl,_⟩:=id SA;obtain⟨⟨dxr,kvr,hpr,hdr,en⟩,ndr⟩:=id br;exact⟨_,rfl,A'.p,a.zdp,dx,_,_,rfl,a1,T.zdq,T.zex,Wg,A'.pr,dxr,_,rfl,hpr,Yt.no ⋯,A'.pr,A'.dr,S.ppl,rfl,br,fun l hl=>h l _ Zb (Ze hl) hl⟩
noncomputable abbrev W3:Stmt:=Zy (top 55) 28
theorem Od:Zl ["self"] ["self"] (Zj W3):=fnS
theorem Oe(F:Fun K "facts" "Season.facts" W3 f fd)(T:Tx K mg a)(zds:Zt P w K mg base a.zdp "at_hand" 2 ["self"] (Wm (ca a)))(zgd:Zt P w K mg base a.zdr "facts" 1 ["self","at"] (Gq a.zdr a.zd1)):FnOk P w K mg base (CX1 P w) 3 f fd ["self"] (Li (ca a)):=by
 refine F.okX Od ⋯ fun _ _ _ _ H _ Q E hr h=>?_;obtain⟨A',S,rfl,SA,hl,h⟩:=h;refine⟨_,(Zf (Zp (U2 rfl (cT ["self"] [0]) (Ff rfl T.zgn (Za Zi (Za (Ya (pv 0) T.zdq zds (hr.mono ⋯) Zk) Zd))) (fun _ _ _ _ _=>Uh) (fun _ _ _ _ _=>(Xl (Zm (K:=K) rfl (pv 1) rfl) T.zen zgd (hr.mono ⋯) Gh (Za (pv 0) Zd)))))),?_⟩;obtain⟨⟨dx,v,a1,a2⟩,b,c,_⟩:=id SA;obtain⟨⟨dxl,lp⟩,_⟩:=id c;have eat:(atV S-1).toNat=S.led.length:=by unfold atV;omega
 refine⟨_,rfl,A'.p,dx,_,rfl,a1,Yc ⋯,A',S,rfl,SA,1,atV S,rfl,⟨by omega,by omega,by unfold atV;omega,by unfold atV;omega⟩,?_⟩;rw[eat];refine O1 (fun i ys H'=>Same H H'/\∃ ls,ys=ls.map V.ref/\RwL H' ls (S.led.take i)/\ls.length=i/\∀ x∈ls,H x=none) ⟨Same.refl _,[],rfl,.nil,rfl,by simp⟩ (szN ⋯) (fun i ys H' ⟨_,ls,e1,_,e2,_⟩=>by rw[e1,zqx];omega) (fun i ys H' hi p=>?_) (fun ys H' p l' hl'=>?_)
 ·obtain⟨s1,ls,rfl,rl,hll,hfr⟩:=p;have hri:S.led[i]?=some (S.led[i]'hi):=zqy hi;unfold tYes;dsimp only;rw[if_pos rfl];refine⟨_,rfl,A'.p,a.zdp,dx,_,_,rfl,s1 _ _ a1,T.zdq,T.ze4,V3,A'.pl,dxl,_,rfl,s1 _ _ lp,O8 ⋯ ⋯,_,rfl,A'.pl,A'.lr,A'.ld,S.led,1+(i:Int),rfl,c.same s1,Zz ⋯ ⋯,fun z=>by omega,fun k rs hk hrs l2 ts hl2 tl2=>?_⟩;have ek:k=i:=by omega
  subst ek;have s2:=Ze (o:=.lst ts) hl2;refine⟨s1.trans s2,ls++[l2],by rw[zre];rfl,?_,by rw[zq4,hll];rfl,fun y hy=>?_⟩
  ·rw[El hrs];exact(rl.same s2).snoc Zb (tl2.same s2)
  ·rcases zrd.mp hy with z|z
   ·exact hfr y z
   ·rw[zq3.mp z];exact s1.free hl2
 ·obtain⟨s1,ls,rfl,rl,hll,hfr⟩:=p;rw[zrm] at rl;exact h l' ls _ Zb (rl.same (Ze hl')) (s1.trans (Ze hl')) (s1.free hl') hfr
noncomputable abbrev Uk:Stmt:=top 57
theorem Kk:Zl ["_law_found"] ["_law_found"] (Zj Uk):=fnS
theorem Kl(F:Fun K "_law_whole" "_law_whole" Uk f fd)(T:Tx K mg a):FnOk P w K mg base (CX1 P w) 1 f fd ["_law_found"] Gm:=by
 refine F.okX Kk ⋯ fun _ _ _ _ H _ Q E hr h=>?_;obtain⟨i,rfl,h⟩:=h;refine⟨_,(Zf (Zp (J9 (Zu (Z1 (K:=K) rfl) (by rfl) T.zdv PyProof.Rows.boot_isinstance (Za (pv 0) (Za (R1 rfl T.zix PyProof.Rows.boot_int (show RelV (.ty "int") _ from rfl)) Zd))) (J2 (A0 (Zu (Z1 (K:=K) rfl) (by rfl) T.zdv PyProof.Rows.boot_isinstance (Za (pv 0) (Za (R1 rfl T.zi0 PyProof.Rows.boot_bool (show RelV (.ty "bool") _ from rfl)) Zd)))))))),?_⟩;refine⟨_,rfl,_,_,_,_,rfl,.of (.int i),.inl ⟨_,rfl⟩,zay K,_,rfl,?_⟩;refine iteT ?_;exact⟨_,rfl,_,_,_,_,rfl,.of (.int i),.inl ⟨_,rfl⟩,zaz K,_,rfl,h⟩
noncomputable abbrev Qo:Stmt:=top 58
theorem Es:Zl ["_law_script","_law_k"] ["_law_script","_law_k"] (Zj Qo):=fnS
theorem Et(F:Fun K "_law_at" "_law_at" Qo f fd)(T:Tx K mg a):FnOk P w K mg base (CX1 P w) 1 f fd ["_law_script","_law_k"] (zcg K):=by
 refine F.okX Es ⋯ fun _ _ _ _ H _ Q E hr h=>?_;obtain⟨b,ns,k,rfl,hs,h⟩:=h;refine⟨_,(Zc (Z6 (Zn Pe (pv 1) (Zu (cL K) (by rfl) T.zfz PySem.boot_len (Za (pv 0) Zd)) (Zs _))
  (Zf (Zp (pI (iL K) (pv 0) (pv 1))))
  Zr)
 (Zf (Zp Zi))),?_⟩
 refine⟨_,rfl,_,rfl,b,_,rfl,.inl hs,_,_,rfl,rfl,_,rfl,?_⟩;rw[zqx];refine itD (fun hk=>?_) (fun hk=>?_)
 ·have hk':k<ns.length:=by omega
  refine⟨_,rfl,_,rfl,b,_,_,_,rfl,rfl,hs,Y6 (show (ns.map V.int)[k]?=some (.int (X5 ns k)) from ?_),h⟩;unfold X5;rw[zq7,zqy hk'];rfl
 ·have e:X5 ns k=0:=by unfold X5;rw[List.getElem?_eq_none ⋯];rfl
  rw[e] at h;exact h
noncomputable abbrev V1:Stmt:=top 59
theorem Mo:Zl ["_law_found","_law_due_here"] ["_law_found","_law_due_here"] (Zj V1):=fnS
theorem Mp(F:Fun K "_law_one_is" "_law_one_is" V1 f fd)(T:Tx K mg a)(zhc:Yg P w K mg base "_law_whole" 1 ["_law_found"] Gm):FnOk P w K mg base (CX1 P w) 2 f fd ["_law_found","_law_due_here"] Oh:=by
 refine F.okX Mo ⋯ fun _ _ _ _ H _ Q E hr h=>?_;obtain⟨x,rfl,hx,h⟩:=h;refine⟨_,(Zf (Zp (Kq (Zn Ov (pv 1) Xm (Zs _)) (U8 Ov (pv 0) Xm (Zs _)) (J9 (pF zhc hr (Za (pv 0) Zd)) (J2 (U8 Xr (pv 0) (pv 1) (Zs _))))))),?_⟩;rcases hx with rfl|⟨i,rfl⟩
 ·refine⟨_,rfl,rfl,_,rfl,?_⟩;refine iteT ?_;exact⟨_,rfl,rfl,h⟩
 ·refine⟨_,rfl,rfl,_,rfl,?_⟩;refine iteF ?_;refine⟨_,rfl,i,rfl,_,rfl,?_⟩;refine iteT ?_;refine⟨_,rfl,_,rfl,rfl,?_⟩;rw[zq2 rfl];exact h
noncomputable abbrev Vi:Stmt:=top 60
theorem Sg:Zl ["_law_found","_law_due_here","_law_k"] ["_law_found","_law_due_here"] (Zj Vi):=fnS
theorem N5(F:Fun K "_law_list_is" "_law_list_is" Vi f fd)(T:Tx K mg a)(zep:Yg P w K mg base "_law_one_is" 2 ["_law_found","_law_due_here"] Oh):FnOk P w K mg base (CX1 P w) 3 f fd ["_law_found","_law_due_here"] (O7 K):=by
 refine F.okX Sg ⋯ fun _ _ _ _ H _ Q E hr h=>?_;obtain⟨b,c,xs,rfl,hb,hc,ho,hl,h⟩:=h;refine⟨_,(Zc (Z6 (PW.pt (Ur (Tu (Uo (Zu (Z1 (K:=K) rfl) (by rfl) T.zdv PyProof.Rows.boot_isinstance (Za (pv 0) (Za (R1 rfl T.zfr PyProof.Rows.boot_list (show RelV (.ty "list") _ from rfl)) Zd))))) (V5 (Zn Hy (Zu (cL K) (by rfl) T.zfz PySem.boot_len (Za (pv 0) Zd)) (Zu (cL K) (by rfl) T.zfz PySem.boot_len (Za (pv 1) Zd)) (Zs _)))))
  (Zf (Zp V4))
  Zr)
 (Zc (V6 PassesOwn.leaving rfl (Qq rfl T.zgn (Za (Zu (cL K) (by rfl) T.zfz PySem.boot_len (Za (pv 1) Zd)) Zd)) (pN 2 Sg.nd)
  (Zf (Z6 (Tu (Uo (pF zep hr (Za (pI (iL K) (pv 0) (pv 2)) (Za (pI (iL K) (pv 1) (pv 2)) Zd)))))
   (Zf (Zp V4))
   Zr)))
 (Zf (Zp V4)))),?_⟩
 refine⟨_,rfl,_,_,_,_,rfl,.of (.lst hb),.inl ⟨_,rfl⟩,za0 K,_,rfl,?_⟩;refine iteF ?_;refine⟨_,rfl,b,_,rfl,.inl (SqL.of hb),_,rfl,c,_,rfl,.inl hc,rfl,_,rfl,?_⟩;rw[zq2 rfl];refine iteF ?_;refine⟨_,rfl,c,_,rfl,.inl hc,_,rfl,by omega,by omega,Mt (fun i σ H'=>H'=H/\(∃ v,σ=[some (.ref b),some (.ref c),v])) ⟨rfl,⟨_,rfl⟩⟩ (fun i σ H' hi ⟨e,⟨v,hv⟩⟩=>?_) (fun σ H' ⟨e,⟨v,hv⟩⟩=>?_)⟩
 ·subst e hv;rw[zsg] at hi;have h1:xs[i]?=some (xs[i]'hi):=zqy hi;rw[Int.zero_add];refine⟨_,rfl,_,rfl,b,_,_,_,rfl,rfl,SqL.of hb,Y6 h1,_,rfl,_,rfl,c,_,_,_,rfl,rfl,hc,Y6 h1,_,rfl,ho _ (zr3 hi),_,rfl,?_⟩;exact iteF ⟨rfl,⟨_,rfl⟩⟩
 ·subst e hv;exact h
noncomputable abbrev Qp:Stmt:=top 61
theorem Eu:Zl ["_law_season","_law_deed"] ["_law_season","_law_deed"] (Zj Qp):=fnS
theorem Ew(F:Fun K "_law_do" "_law_do" Qp f fd)(T:Tx K mg a)(zga:Zt P w K mg base a.zdp "enrol" 5 ["self","number","grade","club"] (G1 (ca a)))(zgu:Zt P w K mg base a.zdp "away" 7 ["self","at","number"] (Cu (ca a)))(zfp:Zt P w K mg base a.zdp "draw_up" 6 ["self","matches"] (Jr K (ca a)))(zgm:Zt P w K mg base a.zdp "close" 4 ["self"] (G2 (ca a)))(zfg:Zt P w K mg base a.zdp "take_back" 2 ["self"] (Nl (ca a))):FnOk P w K mg base (CX1 P w) 8 f fd ["_law_season","_law_deed"] (Aq K (ca a)):=by
 refine F.okX Eu ⋯ fun _ _ _ _ H _ Q E hr h=>?_;obtain⟨A',S,t,d,rfl,SA,hd,sd,co,po,hz,hoz,htot,hl,hol,hbk,hE,h⟩:=h;refine⟨_,(Zc (Z6 (Zn Xr (pI (iU K) (pv 1) Zi) Zx (Zs _))
  (Zf (Zp (Xl (pv 0) T.zdq zga (hr.mono ⋯) Zk (Za (pI (iU K) (pv 1) Zi) (Za (pI (iU K) (pv 1) Zi) (Za (pI (iU K) (pv 1) Zi) Zd))))))
  Zr)
 (Zc (Z6 (Zn Xr (pI (iU K) (pv 1) Zi) Zx (Zs _))
  (Zf (Zp (Xl (pv 0) T.zdq zgu (hr.mono ⋯) Zk (Za (pI (iU K) (pv 1) Zi) (Za (pI (iU K) (pv 1) Zi) Zd)))))
  Zr)
 (Zc (Z6 (Zn Xr (pI (iU K) (pv 1) Zi) Zx (Zs _))
  (Zf (Zp (Xl (pv 0) T.zdq zfp (hr.mono ⋯) Zk (Za (Xb (Y3 (K:=K) rfl) (by rfl) T.zfr PyProof.Rows.boot_list (Za (pI (iU K) (pv 1) Zi) Zd)) Zd))))
  Zr)
 (Zc (Z6 (Zn Xr (pI (iU K) (pv 1) Zi) Zx (Zs _))
  (Zf (Zp (Ya (pv 0) T.zdq zgm (hr.mono ⋯) Zk)))
  Zr)
 (Zf (Zp (Ya (pv 0) T.zdq zfg (hr.mono ⋯) Zk))))))),?_⟩
 have hpl:=po.2;obtain⟨⟨dx,v,a1,a2⟩,_⟩:=id SA;cases d with
 | enrol n g c0 =>
   have ht:H t=some (.tup [.str "enrol",.int n,.int g,.int c0]):=hd;refine⟨_,rfl,t,_,_,_,rfl,rfl,SqT.of ht,rfl,rfl,_,rfl,?_⟩;rw[Te];refine iteT ?_;refine⟨_,rfl,A'.p,dx,_,rfl,a1,Yc ⋯,_,rfl,t,_,_,_,rfl,rfl,SqT.of ht,rfl,_,rfl,t,_,_,_,rfl,rfl,SqT.of ht,rfl,_,rfl,t,_,_,_,rfl,rfl,SqT.of ht,rfl,A',S,n,g,c0,rfl,SA,sd,by omega,by omega,?_⟩;by_cases c1:S.len<=S.led.length
   ·rw[if_pos c1];exact hE .seaOver (by simp only[refS];rw[if_pos c1]) H (Same.refl _)
   rw[if_neg c1];by_cases c2:S.cur.isSome=true
   ·rw[if_pos c2];exact hE .drawn (by simp only[refS];rw[if_neg c1,if_pos c2]) H (Same.refl _)
   rw[if_neg c2];by_cases c3:badI n g c0
   ·rw[if_pos c3];exact hE .out (by simp only[refS];rw[if_neg c1,if_neg c2,if_pos c3]) H (Same.refl _)
   rw[if_neg c3];by_cases c4:n∈S.ppl.map (·.1)
   ·rw[if_pos c4];exact hE .known (by simp only[refS];rw[if_neg c1,if_neg c2,if_neg c3,if_pos c4]) H (Same.refl _)
   rw[if_neg c4];by_cases c5:30<=S.ppl.length
   ·rw[if_pos c5];exact hE .many (by simp only[refS];rw[if_neg c1,if_neg c2,if_neg c3,if_neg c4,if_pos c5]) H (Same.refl _)
   rw[if_neg c5];by_cases c6:100<=S.std.length
   ·rw[if_pos c6];exact hE .manyD (by simp only[refS];rw[if_neg c1,if_neg c2,if_neg c3,if_neg c4,if_neg c5,if_pos c6]) H (Same.refl _)
   rw[if_neg c6];exact fun H' SA' f'=>h (by simp only[refS];rw[if_neg c1,if_neg c2,if_neg c3,if_neg c4,if_neg c5,if_neg c6]) .non A' _ H' (.enrol n g c0) SA' (.refl A' H) f' (fun l z=>nomatch z)
 | away i n =>
   have ht:H t=some (.tup [.str "away",.int i,.int n]):=hd;refine⟨_,rfl,t,_,_,_,rfl,rfl,SqT.of ht,rfl,rfl,_,rfl,?_⟩;rw[Uc ⋯];refine iteF (Zq ?_);refine⟨_,rfl,t,_,_,_,rfl,rfl,SqT.of ht,rfl,rfl,_,rfl,?_⟩;rw[Te];refine iteT ?_;refine⟨_,rfl,A'.p,dx,_,rfl,a1,Yc ⋯,_,rfl,t,_,_,_,rfl,rfl,SqT.of ht,rfl,_,rfl,t,_,_,_,rfl,rfl,SqT.of ht,rfl,A',S,i,n,rfl,SA,sd.1,sd.2,by omega,hoz,po,fun s hs=>?_,?_⟩
   ·obtain⟨c1,c2,c3,c4,c5⟩:=co s hs;exact⟨c1,c2,c4,by omega⟩
   by_cases c1:i<1\/(S.len:Int)<i
   ·rw[if_pos c1];exact hE .noRound (by simp only[refS];rw[if_pos c1]) H (Same.refl _)
   rw[if_neg c1];by_cases c2:i<=S.led.length
   ·rw[if_pos c2];exact hE .over (by simp only[refS];rw[if_neg c1,if_pos c2]) H (Same.refl _)
   rw[if_neg c2];by_cases c3:n∈S.ppl.map (·.1)
   rotate_left
   ·rw[if_neg c3];exact hE .unk (by simp only[refS];rw[if_neg c1,if_neg c2,if_neg c3]) H (Same.refl _)
   rw[if_pos c3];by_cases c4:(i,n)∈S.out
   ·rw[if_pos c4];exact hE .away (by simp only[refS];rw[if_neg c1,if_neg c2,if_pos c3,if_pos c4])
   rw[if_neg c4];by_cases c5:100<=S.std.length
   ·rw[if_pos c5];exact hE .manyD (by simp only[refS];rw[if_neg c1,if_neg c2,if_pos c3,if_neg c4,if_pos c5])
   rw[if_neg c5];have h:=h (by simp only[refS];rw[if_neg c1,if_neg c2,if_pos c3,if_neg c4,if_neg c5]);refine⟨fun hc l H' hl' SA' f' fl=>h _ A' _ H' (.awayN hc hl') SA' (.refl A' H) f' (fun l2 z _=>by cases z;exact fl),fun s hi hs hp l H' hl' SA' f' fl=>?_,fun s p hi hs hp l us st e w' H' hl' tl CR SA' f' fl=>?_⟩
   ·subst hi;exact h _ A' _ H' (.awayF hs hp hl') SA' (.refl A' H) f' (fun l2 z _=>by cases z;exact fl)
   ·subst hi;exact h _ A' _ H' (.awayC hs hp hl' tl CR) SA' (.refl A' H) f' (fun l2 z _=>by cases z;exact fl)
 | draw ms =>
   obtain⟨l0,ts,ht,hl0,tl,okl⟩:∃ l ts,H t=some (.tup [.str "draw up",.ref l])/\H l=some (.lst ts)/\TupL H ts (ms.map pV)/\l∉A'.fp:=hd;refine⟨_,rfl,t,_,_,_,rfl,rfl,SqT.of ht,rfl,rfl,_,rfl,?_⟩;rw[Uc ⋯];refine iteF (Zq ?_);refine⟨_,rfl,t,_,_,_,rfl,rfl,SqT.of ht,rfl,rfl,_,rfl,?_⟩;rw[Uc ⋯];refine iteF (Zq ?_);refine⟨_,rfl,t,_,_,_,rfl,rfl,SqT.of ht,rfl,rfl,_,rfl,?_⟩;rw[Te];refine iteT ?_;refine⟨_,rfl,A'.p,dx,_,rfl,a1,Yc ⋯,_,rfl,t,_,_,_,rfl,rfl,SqT.of ht,rfl,l0,ts,rfl,.inl (SqL.of hl0),fun l1 hl1=>?_⟩;have s1:=Ze (o:=.lst ts) hl1;have q1:upd H l1 (.lst ts) l1=some (.lst ts):=Zb;generalize upd H l1 (.lst ts)=H1 at s1 q1;refine⟨A',S,l1,ts,ms,rfl,SA.same s1,SqL.of q1,tl.same s1,sd.1,sd.2,by omega,po,?_⟩;by_cases c1:S.len<=S.led.length
   ·rw[if_pos c1];exact hE .seaOver (by simp only[refS];rw[if_pos c1]) H1 s1
   rw[if_neg c1];by_cases c2:S.cur.isSome=true
   ·rw[if_pos c2];exact hE .drawn (by simp only[refS];rw[if_neg c1,if_pos c2]) H1 s1
   rw[if_neg c2];refine⟨fun c3=>hE .manyM (by simp only[refS];rw[if_neg c1,if_neg c2,if_pos c3]) H1 s1,fun c3 c4=>hE .out (by simp only[refS];rw[if_neg c1,if_neg c2,if_neg ⋯,if_pos c4]) H1 s1,fun c3 c4 c5=>hE .same (by simp only[refS];rw[if_neg c1,if_neg c2,if_neg ⋯,if_neg c4,if_pos c5]) H1 s1,fun c3 c4 c5=>⟨fun c6 H' s'=>hE .manyD (by simp only[refS];rw[if_neg c1,if_neg c2,if_neg ⋯,if_neg c4,if_neg c5,if_pos c6]) H' (s1.trans s'),fun c6 l gv H' hl' SA' FP SP f' fl=>?_⟩⟩;exact h (by simp only[refS];rw[if_neg c1,if_neg c2,if_neg ⋯,if_neg c4,if_neg c5,if_neg ⋯]) _ A' _ H' (.draw hl' FP SP) SA' (.refl A' H) ((FrS.of A' s1).trans f') (fun l2 z _=>by cases z;exact s1.free fl)
 | close =>
   have ht:H t=some (.tup [.str "close"]):=hd;refine⟨_,rfl,t,_,_,_,rfl,rfl,SqT.of ht,rfl,rfl,_,rfl,?_⟩;rw[Uc ⋯];refine iteF (Zq ?_);refine⟨_,rfl,t,_,_,_,rfl,rfl,SqT.of ht,rfl,rfl,_,rfl,?_⟩;rw[Uc ⋯];refine iteF (Zq ?_);refine⟨_,rfl,t,_,_,_,rfl,rfl,SqT.of ht,rfl,rfl,_,rfl,?_⟩;rw[Uc ⋯];refine iteF (Zq ?_);refine⟨_,rfl,t,_,_,_,rfl,rfl,SqT.of ht,rfl,rfl,_,rfl,?_⟩;rw[Te];refine iteT ?_;refine⟨_,rfl,A'.p,dx,_,rfl,a1,Yc ⋯,A',S,rfl,SA,htot,hl,hol,fun s hs=>?_,?_⟩
   ·obtain⟨c1,c2,c3,c4,c5⟩:=co s hs;refine⟨c2.one,?_,by omega⟩;rw[c2.len,c4];unfold mayS;rw[zqx]
   by_cases c1:S.len<=S.led.length
   ·rw[if_pos c1];exact hE .seaOver (by simp only[refS];rw[if_pos c1]) H (Same.refl _)
   rw[if_neg c1];exact⟨fun z=>hE .notDrawn (by simp only[refS];rw[if_neg c1,if_pos z]) H (Same.refl _),fun s x H' hs SA' f' fx=>h (by simp only[refS];rw[if_neg c1,if_neg (by rw[hs];exact fun z=>nomatch z)]) _ { A' with lt:=x } _ H' (.close hs) SA' ⟨x,rfl,.inr fx⟩ f' (fun l2 z=>nomatch z)⟩
 | back =>
   have ht:H t=some (.tup [.str "take back"]):=hd;refine⟨_,rfl,t,_,_,_,rfl,rfl,SqT.of ht,rfl,rfl,_,rfl,?_⟩;rw[Uc ⋯];refine iteF (Zq ?_);refine⟨_,rfl,t,_,_,_,rfl,rfl,SqT.of ht,rfl,rfl,_,rfl,?_⟩;rw[Uc ⋯];refine iteF (Zq ?_);refine⟨_,rfl,t,_,_,_,rfl,rfl,SqT.of ht,rfl,rfl,_,rfl,?_⟩;rw[Uc ⋯];refine iteF (Zq ?_);refine⟨_,rfl,t,_,_,_,rfl,rfl,SqT.of ht,rfl,rfl,_,rfl,?_⟩;rw[Uc ⋯];refine iteF (Zq ?_);refine⟨_,rfl,A'.p,dx,_,rfl,a1,Yc ⋯,A',S,rfl,SA,fun z=>hE .nothing (by simp only[refS];rw[if_pos z]) H (Same.refl _),fun std d s he=>?_⟩;have hne:S.std≠[]:=by rw[he];simp
   obtain⟨S0,hs0⟩:=hbk rfl hne;obtain⟨d0,e1,e2,e3,e4,e5,e6⟩:=id hs0;rw[e1] at he;obtain⟨he1,he2⟩:=List.append_inj' he rfl;have he2:(d0,S0.cur)=(d,s):=by simpa using he2
   cases he2;subst he1;refine⟨S0.ppl,S0.out,e2,fun t' H' ht' SA' f'=>?_⟩;have eS:{ S with ppl:=S0.ppl,out:=S0.out,cur:=S0.cur,std:=S0.std }=S0:=by
    cases S;cases S0;simp only at e3 e4 e5 e6 ⊢;subst e3 e4 e5 e6;rfl
   rw[eS] at SA';exact h (by simp only[refS];rw[if_neg hne]) _ A' S0 H' (.back e1 ht' hs0) SA' (.refl A' H) f' (fun l2 z hx=>by cases z;obtain⟨xs,hx⟩:=hx;rw[ht'] at hx;cases hx)
theorem cat2{D:Um}{v0 v1:Option V}{vr:List (Option V)}{l e c1 c2 C:Addr}{H:Hp}{b1 b2:Bool}{xs:List V}(hx:H e=some (excO e (.ref C)))(hl:H l=some (.lst xs))(hz:xs.length<=100)(ei:Lv K C)(k1:PySem.W.kitOne K (.ref C) (.ref c1)=some b1)(k2:PySem.W.kitOne K (.ref C) (.ref c2)=some b2)
  (k:∀ l' H',H' l'=some (.lst (xs++[.bl b1,.bl b2]))->H' e=some (excO e (.ref C))->Same H H'->D.nx (v0 :: v1 :: some (.ref l') :: some (.ref e) :: vr) H') :
  Fd (tOp zaq (tVar 2) (tLst (Us (tCB (rIsI K) (Us (tVar 3) (Us (tC (V.ref c1)) tNil))) (Us (tCB (rIsI K) (Us (tVar 3) (Us (tC (V.ref c2)) tNil))) tNil)))) (W4 2) D (v0 :: v1 :: some (.ref l) :: some (.ref e) :: vr) H:=by
 refine⟨_,rfl,_,rfl,_,_,_,_,rfl,.exc rfl rfl hx ei,.inr ⟨_,rfl⟩,k1,_,rfl,_,_,_,_,rfl,.exc rfl rfl hx ei,.inr ⟨_,rfl⟩,k2,sz2,fun l1 hl1=>?_⟩;have s1:=Ze (o:=.lst [.bl b1,.bl b2]) hl1;refine⟨l,l1,xs,_,rfl,rfl,s1 _ _ hl,Zb,szN (by show xs.length+2<=1000;omega),fun l2 hl2=>?_⟩;have s2:=s1.trans (Ze (o:=.lst (xs++[.bl b1,.bl b2])) hl2);exact k l2 _ Zb (s2 _ _ hx) s2
theorem zct{D:Um}{v0 v1:Option V}{vr:List (Option V)}{l e c1 C:Addr}{H:Hp}{b1:Bool}{xs:List V}(hx:H e=some (excO e (.ref C)))(hl:H l=some (.lst xs))(hz:xs.length<=100)(ei:Lv K C)(k1:PySem.W.kitOne K (.ref C) (.ref c1)=some b1)(k2:PySem.W.kitOne K (.ref C) (.type "ValueError")=some true)
  (k:∀ l' H',H' l'=some (.lst (xs++[.bl b1,.bl true]))->Same H H'->D.nx (v0 :: v1 :: some (.ref l') :: some (.ref e) :: vr) H') :
  Fd (tOp zaq (tVar 2) (tLst (Us (tCB (rIsI K) (Us (tVar 3) (Us (tC (V.ref c1)) tNil))) (Us (tCB (rIsI K) (Us (tVar 3) (Us (tC (V.ty "ValueError")) tNil))) tNil)))) (W4 2) D (v0 :: v1 :: some (.ref l) :: some (.ref e) :: vr) H:=by
 refine⟨_,rfl,_,rfl,_,_,_,_,rfl,.exc rfl rfl hx ei,.inr ⟨_,rfl⟩,k1,_,rfl,_,_,_,_,rfl,.exc rfl rfl hx ei,.inl ⟨_,rfl⟩,k2,sz2,fun l1 hl1=>?_⟩;have s1:=Ze (o:=.lst [.bl b1,.bl true]) hl1;refine⟨l,l1,xs,_,rfl,rfl,s1 _ _ hl,Zb,szN (by show xs.length+2<=1000;omega),fun l2 hl2=>?_⟩;have s2:=s1.trans (Ze (o:=.lst (xs++[.bl b1,.bl true])) hl2);exact k l2 _ Zb s2
noncomputable abbrev Th:Stmt:=top 62
theorem Z8:Zl ["_law_season","_law_deed","_law_names","e","_law_words"] ["_law_season","_law_deed"] (Zj Th):=fnS
theorem Jz(F:Fun K "_law_done" "_law_done" Th f fd)(T:Tx K mg a)(zjc:Yg P w K mg base "_law_do" 8 ["_law_season","_law_deed"] (Aq K (ca a))):FnOk P w K mg base (CX1 P w) 9 f fd ["_law_season","_law_deed"] (Cz K (ca a)):=by
 refine F.okX Z8 ⋯ fun _ _ _ _ H _ Q E hr h=>?_;obtain⟨A',S,t,d,rfl,SA,hd,sd,co,po,hz,hoz,htot,hl,hol,hbk,hE,h⟩:=h;have hu:=Vp hr;refine⟨_,(Zc (pS 2 Z8.nd (Z3 Zd))
 (Zc (K6 (as:=[]) (i:=3) M4 Z8.nd rfl rfl T.zhr rfl T.zht
  (fun E1 lk1 pn1 EX1 hl1 hO hP =>
  (Zf (Zp (Yp (Za Zx (Za (Gi zjc (hr.mono ⋯) hP rfl (Za (pv 0) (Za (pv 1) Zd))) Zd))))))
  (fun a1 =>
  (Zc (pS 2 Z8.nd (Z3 (Za (Zu (Z1 (K:=K) rfl) (by rfl) T.zdv PyProof.Rows.boot_isinstance (Za (pv 3) (Za (Yq rfl T.zhj) Zd))) (Za (Zu (Z1 (K:=K) rfl) (by rfl) T.zdv PyProof.Rows.boot_isinstance (Za (pv 3) (Za (Yq rfl T.zit) Zd))) Zd))))
  (Zc (pS 2 Z8.nd (Ym Vm (pv 2) (Z3 (Za (Zu (Z1 (K:=K) rfl) (by rfl) T.zdv PyProof.Rows.boot_isinstance (Za (pv 3) (Za (Yq rfl T.zhn) Zd))) (Za (Zu (Z1 (K:=K) rfl) (by rfl) T.zdv PyProof.Rows.boot_isinstance (Za (pv 3) (Za (Yq rfl T.zhz) Zd))) Zd)))))
  (Zc (pS 2 Z8.nd (Ym Vm (pv 2) (Z3 (Za (Zu (Z1 (K:=K) rfl) (by rfl) T.zdv PyProof.Rows.boot_isinstance (Za (pv 3) (Za (Yq rfl T.zhw) Zd))) (Za (Zu (Z1 (K:=K) rfl) (by rfl) T.zdv PyProof.Rows.boot_isinstance (Za (pv 3) (Za (Yq rfl T.zji) Zd))) Zd)))))
  (Zc (pS 2 Z8.nd (Ym Vm (pv 2) (Z3 (Za (Zu (Z1 (K:=K) rfl) (by rfl) T.zdv PyProof.Rows.boot_isinstance (Za (pv 3) (Za (Yq rfl T.zi7) Zd))) (Za (Zu (Z1 (K:=K) rfl) (by rfl) T.zdv PyProof.Rows.boot_isinstance (Za (pv 3) (Za (Yq rfl T.zg9) Zd))) Zd)))))
  (Zc (pS 2 Z8.nd (Ym Vm (pv 2) (Z3 (Za (Zu (Z1 (K:=K) rfl) (by rfl) T.zdv PyProof.Rows.boot_isinstance (Za (pv 3) (Za (Yq rfl T.zhx) Zd))) (Za (Zu (Z1 (K:=K) rfl) (by rfl) T.zdv PyProof.Rows.boot_isinstance (Za (pv 3) (Za (Yq rfl T.zhl) Zd))) Zd)))))
  (Zc (pS 2 Z8.nd (Ym Vm (pv 2) (Z3 (Za (Zu (Z1 (K:=K) rfl) (by rfl) T.zdv PyProof.Rows.boot_isinstance (Za (pv 3) (Za (Yq rfl T.zi6) Zd))) (Za (Zu (Z1 (K:=K) rfl) (by rfl) T.zdv PyProof.Rows.boot_isinstance (Za (pv 3) (Za (Yq rfl T.zjo) Zd))) Zd)))))
  (Zc (pS 2 Z8.nd (Ym Vm (pv 2) (Z3 (Za (Zu (Z1 (K:=K) rfl) (by rfl) T.zdv PyProof.Rows.boot_isinstance (Za (pv 3) (Za (Yq rfl T.zjk) Zd))) (Za (Zu (Z1 (K:=K) rfl) (by rfl) T.zdv PyProof.Rows.boot_isinstance (Za (pv 3) (Za (Yq rfl T.zha) Zd))) Zd)))))
  (Zf (pS 2 Z8.nd (Ym Vm (pv 2) (Z3 (Za (Zu (Z1 (K:=K) rfl) (by rfl) T.zdv PyProof.Rows.boot_isinstance (Za (pv 3) (Za (Yq rfl T.ziu) Zd))) (Za (Zu (Z1 (K:=K) rfl) (by rfl) T.zdv PyProof.Rows.boot_isinstance (Za (pv 3) (Za (R1 rfl T.zfb PyProof.Rows.Boot.«ValueError» (show RelV (.ty "ValueError") _ from rfl)) Zd))) Zd)))))))))))))))
 (Zc (pS 4 Z8.nd Zx)
 (Zc (pS 4 Z8.nd (Ym Lj (pv 4) Zx))
 (Zc (pS 4 Z8.nd (Aj PySem.F.plainAttrs_str PySem.F.slot_str_split PySem.F.type_str_split Cy (Ym Lj (pv 4) Zx) (Za Zx Zd)))
 (Zf (Zp (Yp (Za Zx (Za (U2 rfl (cT ["_law_words","_law_names"] [4,2]) (Qq rfl T.zgn (Za Zi Zd)) (fun _ _ _ _ _=>Ly (Uo (pI (iL K) (pv 2) (pv 0)))) (fun _ _ _ _ _=>(pI (iL K) (pv 1) (pv 0)))) Zd)))))))))),?_⟩
 show let y1:TS:=_;let y2:TS:=Z7 _ y1;let y3:TS:=Z7 _ y2;let y4:TS:=Z7 _ y3;let y5:TS:=Z7 _ y4;Z7 _ y5 _ _ _;intro y1 y2 y3 y4 y5;refine⟨by show 0<=sizeLine;decide,fun l0 hl0=>?_⟩;have s0:Same H (upd H l0 (.lst [])):=Ze hl0;generalize upd H l0 (.lst [])=H0 at s0;refine⟨_,rfl,_,rfl,A',S,t,d,rfl,SA.same s0,hd.same s0,sd,co,po,hz,hoz,htot,hl,hol,hbk,fun r hr H1 s1=>?_,fun hn v A2 S2 H1 af SA2 nx fr fl=>?_⟩
 ·have hne:=C2 hr;have ei:=T.ei r hne;refine⟨_,rfl,T.mB r hne,fun e he=>?_⟩;have s2:=s0.trans (s1.trans (Ze (o:=excO e (.ref (r.cls (ca a)))) he));have hx:upd H1 e (excO e (.ref (r.cls (ca a)))) e=some (excO e (.ref (r.cls (ca a)))):=Zb;generalize upd H1 e (excO e (.ref (r.cls (ca a))))=H2 at s2 hx;refine⟨_,rfl,_,_,_,_,rfl,.exc rfl rfl hx ei,.inr ⟨_,rfl⟩,T.kit r .out hne,_,rfl,_,_,_,_,rfl,.exc rfl rfl hx ei,.inr ⟨_,rfl⟩,T.kit r .known hne,sz2,fun l1 hl1=>?_⟩;have s3:=s2.trans (Ze (o:=.lst [.bl (decide (r=.out)),.bl (decide (r=.known))]) hl1);have q3:upd H2 l1 (.lst [.bl (decide (r=.out)),.bl (decide (r=.known))]) l1=some (.lst [.bl (decide (r=.out)),.bl (decide (r=.known))]):=Zb;have x3:=Ze (o:=.lst [.bl (decide (r=.out)),.bl (decide (r=.known))]) hl1 _ _ hx;generalize upd H2 l1 (.lst [.bl (decide (r=.out)),.bl (decide (r=.known))])=H3 at s3 q3 x3;walk_at "if";refine cat2 x3 q3 (by show 2<=100;decide) ei (T.kit r .many hne) (T.kit r .unk hne) fun l2 H4 q4 x4 s4=>?_;refine cat2 x4 q4 (by show 4<=100;decide) ei (T.kit r .manyM hne) (T.kit r .same hne) fun l3 H5 q5 x5 s5=>?_;refine cat2 x5 q5 (by show 6<=100;decide) ei (T.kit r .noMatch hne) (T.kit r .noRound hne) fun l4 H6 q6 x6 s6=>?_;refine cat2 x6 q6 (by show 8<=100;decide) ei (T.kit r .over hne) (T.kit r .seaOver hne) fun l5 H7 q7 x7 s7=>?_;refine cat2 x7 q7 (by show 10<=100;decide) ei (T.kit r .away hne) (T.kit r .drawn hne) fun l6 H8 q8 x8 s8=>?_;refine cat2 x8 q8 (by show 12<=100;decide) ei (T.kit r .notDrawn hne) (T.kit r .nothing hne) fun l7 H9 q9 x9 s9=>?_;refine zct x9 q9 (by show 14<=100;decide) ei (T.kit r .manyD hne) (T.zjq r hne) fun l8 H10 q10 s10=>?_;have sA:=s3.trans (s4.trans (s5.trans (s6.trans (s7.trans (s8.trans (s9.trans s10))))))
  replace q10:H10 l8=some (.lst (refB r)):=q10
  refine⟨_,rfl,_,_,rfl,rfl,by decide +kernel,?_⟩;refine⟨_,rfl,_,_,rfl,rfl,by decide +kernel,rfl,_,_,rfl,rfl,by decide +kernel,by decide +kernel,by decide +kernel,by decide +kernel,by decide +kernel,fun lw hlw=>?_⟩;rw[En];have s11:=sA.trans (Ze (o:=.lst (refW.map V.str)) hlw);have q11:upd H10 lw (.lst (refW.map V.str)) lw=some (.lst (refW.map V.str)):=Zb;have b11:=Ze (o:=.lst (refW.map V.str)) hlw _ _ q10;generalize upd H10 lw (.lst (refW.map V.str))=H11 at s11 q11 b11;refine⟨_,rfl,by decide,by decide,?_⟩;refine L8 (refP r) (fun i=>V.str (refW.getD i "")) ⋯ (fun j R hj k'=>?_) (fun j R hj _ k'=>?_) (fun lz flz=>?_)
  ·rw[Int.zero_add];exact⟨_,rfl,_,rfl,l8,_,_,_,rfl,rfl,SqL.of b11,Y6 (C3 r hj),_,rfl,k'⟩
  ·rw[Int.zero_add];exact⟨_,rfl,_,rfl,lw,_,_,_,rfl,rfl,SqL.of q11,Y6 (C4 hj),k'⟩
  rw[show Int.toNat 16=16 from rfl,Em];have s12:=s11.trans (Ze (o:=.lst [.str r.name,.str "ValueError"]) flz);have q12:upd H11 lz (.lst [.str r.name,.str "ValueError"]) lz=some (.lst [.str r.name,.str "ValueError"]):=Zb;generalize upd H11 lz (.lst [.str r.name,.str "ValueError"])=H12 at s12 q12;refine⟨sz2,fun u hu'=>hE r hr u lz _ Zb (Ze hu' _ _ q12) (s12.trans (Ze hu')) (s12.free hu')⟩
 ·refine⟨sz2,fun u hu'=>?_⟩;have s1:=Ze (o:=HO.tup [V.str "told",v]) hu';exact h hn u v A2 S2 _ Zb (af.same s1) (SA2.same s1) (nx.back s0) ((FrS.of A' s0).trans (fr.trans (FrS.of A' s1))) (SA2.newOk u hu')
noncomputable abbrev Ul:Stmt:=top 64
theorem Km:Zl ["_law_season"] ["_law_season"] (Zj Ul):=fnS
theorem Kn(F:Fun K "_law_begun" "_law_begun" Ul f fd)(T:Tx K mg a)(zep:Yg P w K mg base "_law_one_is" 2 ["_law_found","_law_due_here"] Oh)(zds:Zt P w K mg base a.zdp "at_hand" 2 ["self"] (Wm (ca a)))(zeq:Yg P w K mg base "_law_list_is" 3 ["_law_found","_law_due_here"] (O7 K))(zfn:Zt P w K mg base a.zdp "referees" 2 ["self"] (Nm (ca a)))(zgk:Zt P w K mg base a.zdp "deeds" 1 ["self"] (G3 (ca a)))(zf9:Zt P w K mg base a.zdp "facts" 3 ["self"] (Li (ca a))):FnOk P w K mg base (CX1 P w) 4 f fd ["_law_season"] (G6 (ca a)):=by
 refine F.okX Km ⋯ fun _ _ _ _ H _ Q E hr h=>?_;obtain⟨A',S,rfl,SA,hl,hp,hs,h⟩:=h;refine⟨_,(Zc (Z6 (PW.pt (Ur (Tu (Uo (pF zep hr (Za (Ya (pv 0) T.zdq zds (hr.mono ⋯) Zk) (Za Zi Zd))))) (V5 (Tu (Uo (pF zeq hr (Za (Ya (pv 0) T.zdq zfn (hr.mono ⋯) Zk) (Za (Z3 Zd) Zd))))))))
  (Zf (Zp V4))
  Zr)
 (Zf (Zp (J9 (pF zeq hr (Za (Ya (pv 0) T.zdq zgk (hr.mono ⋯) Zk) (Za (Z3 Zd) Zd))) (J2 (pF zeq hr (Za (Ya (pv 0) T.zdq zf9 (hr.mono ⋯) Zk) (Za (Z3 Zd) Zd)))))))),?_⟩
 obtain⟨⟨dx,v,ob,_⟩,_⟩:=id SA;have ha:atV S=1:=by unfold atV;rw[hl];rfl
 refine Vn ?_;refine⟨_,rfl,A'.p,dx,_,rfl,ob,Yc ⋯,A',S,rfl,SA,?_⟩;rw[ha];refine⟨_,rfl,.inr ⟨_,rfl⟩,true,rfl,?_⟩;refine iteF ?_;refine⟨_,rfl,A'.p,dx,_,rfl,ob,Yc ⋯,A',S,rfl,SA,fun l1 H1 hl1 s1 _=>?_⟩;rw[hp] at hl1;refine⟨zrj _,fun l2 f2=>?_⟩;refine⟨l1,l2,[],rfl,Ze (o:=.lst []) f2 _ _ hl1,SqL.of Zb,nofun,zrj _,true,rfl,?_⟩;have s2:=s1.trans (Ze (o:=.lst []) f2);generalize upd H1 l2 (.lst [])=H2 at s2 ⊢;refine iteF (Zq ?_);refine⟨_,rfl,A'.p,dx,_,rfl,s2 _ _ ob,Yc ⋯,A',S,rfl,SA.same s2,(by rw[hs];exact zrj _),fun l3 ts H3 hl3 tl3 s3 _=>?_⟩;rw[hs] at tl3;cases tl3;refine⟨zrj _,fun l4 f4=>?_⟩;refine⟨l3,l4,[],rfl,Ze (o:=.lst []) f4 _ _ hl3,SqL.of Zb,nofun,zrj _,true,rfl,?_⟩;have s4:=s2.trans (s3.trans (Ze (o:=.lst []) f4));generalize upd H3 l4 (.lst [])=H4 at s4 ⊢;refine iteT ?_;refine⟨_,rfl,A'.p,dx,_,rfl,s4 _ _ ob,Yc ⋯,A',S,rfl,SA.same s4,(by rw[hl];exact zrj _),fun l5 ls H5 hl5 rl5 s5 _ _=>?_⟩;rw[hl] at rl5;cases rl5;refine⟨zrj _,fun l6 f6=>?_⟩;refine⟨l5,l6,[],rfl,Ze (o:=.lst []) f6 _ _ hl5,SqL.of Zb,nofun,zrj _,h _ (s4.trans (s5.trans (Ze f6)))⟩
noncomputable abbrev Sw:Stmt:=top 65
theorem Ho:Zl ["_law_rounds","_law_noted","_law_deed"] ["_law_rounds","_law_noted","_law_deed"] (Zj Sw):=fnS
theorem Hq(F:Fun K "_law_due" "_law_due" Sw f fd)(T:Tx K mg a):FnOk P w K mg base (CX1 P w) 1 f fd ["_law_rounds","_law_noted","_law_deed"] (G7 K):=by
 refine F.okX Ho ⋯ fun _ _ _ _ H _ Q E hr h=>?_;obtain⟨r,ln,t,noted,d,rfl,hn,hd,nd,h⟩:=h;refine⟨_,(Zc (Z6 (Zn Xr (pI (iU K) (pv 2) Zi) Zx (Zs _))
  (Zf (Zp Zx))
  Zr)
 (Zc (Z6 (PW.pt (Tt (Zn Xr (pI (iU K) (pv 2) Zi) Zx (Zs _)) (Ud (PW.pt (Ur (Zn Pe (pI (iU K) (pv 2) Zi) Zi (Zs _)) (V5 (Zn Tv (pI (iU K) (pv 2) Zi) (pv 0) (Zs _))))))))
  (Zf (Zp Zx))
  Zr)
 (Zc (Z6 (PW.pt (Tt (Zn Xr (pI (iU K) (pv 2) Zi) Zx (Zs _)) (Ud (Zn (Lz (K:=K) rfl hr.units) (pv 1) (Z3 Zd) (Zs _)))))
  (Zf (Zp Zx))
  Zr)
 (Zc (Z6 (Zn Xr (pI (iU K) (pv 2) Zi) Zx (Zs _))
  (Zf (Zp (pI (iL K) (Z3 (Za Zx (Za Zx Zd))) (Xb Mu (by rfl) T.zix PyProof.Rows.boot_int (Za (U8 (Rg (K:=K) rfl) (pI (iU K) (pv 2) Zi) (pv 1) (by with_unfolding_all rfl)) Zd)))))
  Zr)
 (Zc (Z6 (Zn Xr (pv 0) Zi (Zs _))
  (Zf (Zp Zx))
  Zr)
 (Zf (Zp (pI (iL K) (Z3 (Za Zx (Za Zx Zd))) (Xb Mu (by rfl) T.zix PyProof.Rows.boot_int (Za (U8 Xr (pI (iU K) (pv 2) Zi) Zx (Zs _)) Zd)))))))))),?_⟩
 show let y1:TS:=_;let y2:TS:=Z7 _ y1;let y3:TS:=Z7 _ y2;let y4:TS:=Z7 _ y3;let y5:TS:=Z7 _ y4;Z7 _ y5 _ _ _;intro y1 y2 y3 y4 y5;have r0:decide (V.int r=V.int 0)=decide (r=0):=decide_eq_decide.mpr ⟨fun z=>(by injection z),fun z=>by rw[z]⟩;cases d with
 | enrol n g c =>
   have ht:H t=some (.tup [.str "enrol",.int n,.int g,.int c]):=hd;refine⟨_,rfl,t,_,_,_,rfl,rfl,SqT.of ht,rfl,rfl,_,rfl,?_⟩;rw[Uc ⋯];refine iteF (Zq ?_);refine⟨_,rfl,t,_,_,_,rfl,rfl,SqT.of ht,rfl,rfl,_,rfl,?_⟩;rw[Uc ⋯];refine iteF (iteF (Zq ?_));refine⟨_,rfl,t,_,_,_,rfl,rfl,SqT.of ht,rfl,rfl,_,rfl,?_⟩;rw[Uc ⋯];refine iteF (iteF (Zq ?_));refine⟨_,rfl,t,_,_,_,rfl,rfl,SqT.of ht,rfl,rfl,_,rfl,?_⟩;rw[Uc ⋯];refine iteF (Zq ?_);refine⟨_,rfl,rfl,_,rfl,?_⟩;rw[r0];refine itB (fun hr=>?_) (fun hr=>Zq ?_)
   ·have h:=h H (Same.refl _);simp only[Sa] at h;rw[if_pos (of_decide_eq_true hr)] at h;exact h
   refine⟨sz2,fun l1 f1=>?_⟩;refine⟨_,rfl,t,_,_,_,rfl,rfl,SqT.of (Ze (o:=.lst [.str "",.str "NotDrawn"]) f1 _ _ ht),rfl,rfl,.inr ⟨_,rfl,?_⟩⟩;rw[Uc ⋯];refine⟨l1,_,_,_,rfl,rfl,SqL.of Zb,rfl,?_⟩;have h:=h _ (Ze (o:=.lst [.str "",.str "NotDrawn"]) f1);simp only[Sa] at h;rw[if_neg (of_decide_eq_false hr)] at h;exact h
 | close =>
   have ht:H t=some (.tup [.str "close"]):=hd;refine⟨_,rfl,t,_,_,_,rfl,rfl,SqT.of ht,rfl,rfl,_,rfl,?_⟩;rw[Uc ⋯];refine iteF (Zq ?_);refine⟨_,rfl,t,_,_,_,rfl,rfl,SqT.of ht,rfl,rfl,_,rfl,?_⟩;rw[Uc ⋯];refine iteF (iteF (Zq ?_));refine⟨_,rfl,t,_,_,_,rfl,rfl,SqT.of ht,rfl,rfl,_,rfl,?_⟩;rw[Uc ⋯];refine iteF (iteF (Zq ?_));refine⟨_,rfl,t,_,_,_,rfl,rfl,SqT.of ht,rfl,rfl,_,rfl,?_⟩;rw[Uc ⋯];refine iteF (Zq ?_);refine⟨_,rfl,rfl,_,rfl,?_⟩;rw[r0];refine itB (fun hr=>?_) (fun hr=>Zq ?_)
   ·have h:=h H (Same.refl _);simp only[Sa] at h;rw[if_pos (of_decide_eq_true hr)] at h;exact h
   refine⟨sz2,fun l1 f1=>?_⟩;refine⟨_,rfl,t,_,_,_,rfl,rfl,SqT.of (Ze (o:=.lst [.str "",.str "NotDrawn"]) f1 _ _ ht),rfl,rfl,.inr ⟨_,rfl,?_⟩⟩;rw[Te];refine⟨l1,_,_,_,rfl,rfl,SqL.of Zb,rfl,?_⟩;have h:=h _ (Ze (o:=.lst [.str "",.str "NotDrawn"]) f1);simp only[Sa] at h;rw[if_neg (of_decide_eq_false hr)] at h;exact h
 | away i n =>
   have ht:H t=some (.tup [.str "away",.int i,.int n]):=hd;refine⟨_,rfl,t,_,_,_,rfl,rfl,SqT.of ht,rfl,rfl,_,rfl,?_⟩;rw[Uc ⋯];refine iteF (Zq ?_);refine⟨_,rfl,t,_,_,_,rfl,rfl,SqT.of ht,rfl,rfl,_,rfl,?_⟩;rw[Te];refine iteT ?_;refine⟨_,rfl,t,_,_,_,rfl,rfl,SqT.of ht,rfl,_,_,rfl,rfl,_,rfl,?_⟩;have hT:∀ {H':Hp},Same H H'->Q (.str (if i<1\/r<i then "NoSuchRound" else if noted=[] then "UnknownReferee" else if i∈noted then "AwayAlready" else "")) H':=fun s=>h _ s;refine itD (fun c1=>?_) (fun c1=>?_)
   ·have h:=hT (Same.refl _);rw[if_pos (.inl c1)] at h;exact iteT h
   refine⟨_,rfl,t,_,_,_,rfl,rfl,SqT.of ht,rfl,_,rfl,_,_,rfl,rfl,_,rfl,?_⟩;refine itD (fun c2=>?_) (fun c2=>Zq ?_)
   ·have h:=hT (Same.refl _);rw[if_pos (.inr c2)] at h;exact h
   rw[if_neg (fun z=>z.elim c1 c2)] at hT;refine⟨_,rfl,t,_,_,_,rfl,rfl,SqT.of ht,rfl,rfl,_,rfl,?_⟩;rw[Te];refine iteT ?_;refine⟨_,rfl,zrj _,fun l1 f1=>?_⟩;have s1:=Ze (o:=.lst []) f1;refine⟨_,_,.lst (SqL.of (s1 _ _ hn)) (T9 _),.lst (SqL.of Zb) .nil,L9 _,Ol,_,rfl,?_⟩;rw[if_neg ⋯,Gu];generalize upd H l1 (.lst [])=H1 at s1 ⊢;refine itB (fun c3=>?_) (fun c3=>Zq ?_)
   ·have h:=hT s1;rw[if_pos (List.isEmpty_iff.mp c3)] at h;exact h
   rw[if_neg (fun z=>by rw[z] at c3;cases c3)] at hT;refine⟨_,rfl,t,_,_,_,rfl,rfl,SqT.of (s1 _ _ ht),rfl,rfl,_,rfl,?_⟩;rw[Te];refine iteT ?_;refine⟨sz2,fun l2 f2=>?_⟩;have s2:=s1.trans (Ze (o:=.lst [.str "",.str "AwayAlready"]) f2);have q2:upd H1 l2 (.lst [.str "",.str "AwayAlready"]) l2=some (.lst [.str "",.str "AwayAlready"]):=Zb;generalize upd H1 l2 (.lst [.str "",.str "AwayAlready"])=H2 at s2 q2 ⊢;refine⟨_,rfl,t,_,_,_,rfl,rfl,SqT.of (s2 _ _ ht),rfl,_,rfl,ln,_,rfl,.inl (SqL.of (s2 _ _ hn)),rfl,Eb _,.inr ⟨_,rfl,?_⟩⟩;rw[if_neg (show ¬ ((false:Bool)=true) by decide),Gs];have h:=hT s2;by_cases c4:i∈noted
   ·rw[if_pos c4] at h;rw[zq2 c4];exact⟨l2,_,_,_,rfl,rfl,SqL.of q2,rfl,h⟩
   ·rw[if_neg c4] at h;rw[zq5 c4];exact⟨l2,_,_,_,rfl,rfl,SqL.of q2,rfl,h⟩
 | draw ms=>exact absurd rfl (nd ms)
 | back =>
   have ht:H t=some (.tup [.str "take back"]):=hd;refine⟨_,rfl,t,_,_,_,rfl,rfl,SqT.of ht,rfl,rfl,_,rfl,?_⟩;rw[Te];refine iteT ?_;exact h H (Same.refl _)
noncomputable abbrev Ti:Stmt:=top 63
theorem Vl:Zl ["_law_rounds","_law_rest","_law_names","e"] ["_law_rounds","_law_rest"] (Zj Ti):=fnS
theorem J0(F:Fun K "_law_made" "_law_made" Ti f fd)(T:Tx K mg a)(zgw:V9 P w K mg base "Season" a.zdp 3 ["self","rounds","rest"] (Kh (ca a))):FnOk P w K mg base (CX1 P w) 5 f fd ["_law_rounds","_law_rest"] (C0 K (ca a)):=by
 refine F.okX Vl ⋯ fun _ _ _ _ H _ Q E hr h=>?_;obtain⟨r,q,rfl,hr1,hq1,h⟩:=h;refine⟨_,(Zc (pS 2 Vl.nd (Z3 Zd))
 (Zc (K6 (as:=[]) (i:=3) M4 Vl.nd rfl rfl T.zhr rfl T.zht
  (fun E1 lk1 pn1 EX1 hl1 hO hP =>
  (Zf (Z4 (O3 zgw (hr.mono ⋯) hP rfl (Za (pv 0) (Za (pv 1) Zd))))))
  (fun a1 =>
  (Zc (pS 2 Vl.nd (Z3 (Za (Zu (Z1 (K:=K) rfl) (by rfl) T.zdv PyProof.Rows.boot_isinstance (Za (pv 3) (Za (Yq rfl T.zhj) Zd))) (Za (Zu (Z1 (K:=K) rfl) (by rfl) T.zdv PyProof.Rows.boot_isinstance (Za (pv 3) (Za (R1 rfl T.zfb PyProof.Rows.Boot.«ValueError» (show RelV (.ty "ValueError") _ from rfl)) Zd))) (Za (Zu (Z1 (K:=K) rfl) (by rfl) T.zdv PyProof.Rows.boot_isinstance (Za (pv 3) (Za (Yq rfl T.zg9) Zd))) Zd)))))
  (Zf (pS 2 Vl.nd (Ym Vm (pv 2) (Z3 (Za (Zu (Z1 (K:=K) rfl) (by rfl) T.zdv PyProof.Rows.boot_isinstance (Za (pv 3) (Za (Yq rfl T.zhl) Zd))) (Za (Zu (Z1 (K:=K) rfl) (by rfl) T.zdv PyProof.Rows.boot_isinstance (Za (pv 3) (Za (Yq rfl T.zhx) Zd))) Zd)))))))))
 (Zf (Zp (pv 2))))),?_⟩
 refine⟨by show 0<=sizeLine;decide,fun l0 hl0=>?_⟩;have s0:Same H (upd H l0 (.lst [])):=Ze hl0;have q0:upd H l0 (.lst []) l0=some (.lst []):=Zb;generalize upd H l0 (.lst [])=H0 at s0 q0;have ei:=T.ei .out nofun;refine⟨_,rfl,_,rfl,fun p dx hp hdx ne=>?_⟩;refine⟨p,dx,r,q,rfl,Zb,hr1,hq1,?_⟩;have sP:Same H0 (upd (upd H0 dx (.own p)) p (.ins a.zdp dx [])):=(Ze hdx).trans (Ze (by rw[Zg (Ne.symm ne)];exact hp));refine zbe (fun hbad=>?_) (fun hgood=>?_)
 ·refine⟨_,rfl,T.mB .out nofun,fun e he=>?_⟩;have s2:=s0.trans (sP.trans (Ze (o:=excO e (.ref (Ref.out.cls (ca a)))) he));have hx:upd (upd (upd H0 dx (.own p)) p (.ins a.zdp dx [])) e (excO e (.ref (Ref.out.cls (ca a)))) e=some (excO e (.ref (Ref.out.cls (ca a)))):=Zb;show Z7 _ _ _ _ (upd (upd (upd H0 dx (.own p)) p (.ins a.zdp dx [])) e (excO e (.ref (Ref.out.cls (ca a)))));generalize upd (upd (upd H0 dx (.own p)) p (.ins a.zdp dx [])) e (excO e (.ref (Ref.out.cls (ca a))))=H2 at s2 hx;refine⟨_,rfl,_,_,_,_,rfl,.exc rfl rfl hx ei,.inr ⟨_,rfl⟩,T.kit .out .out nofun,_,rfl,_,_,_,_,rfl,.exc rfl rfl hx ei,.inl ⟨_,rfl⟩,T.zjq .out nofun,_,rfl,_,_,_,_,rfl,.exc rfl rfl hx ei,.inr ⟨_,rfl⟩,T.kit .out .noRound nofun,(by show 3<=sizeLine;rw[sizeLine_eq];decide),fun l1 hl1=>?_⟩;have s3:=s2.trans (Ze (o:=.lst [.bl true,.bl true,.bl false]) hl1);have q3:upd H2 l1 (.lst [.bl true,.bl true,.bl false]) l1=some (.lst [.bl true,.bl true,.bl false]):=Zb;have x3:=Ze (o:=.lst [.bl true,.bl true,.bl false]) hl1 _ _ hx;show W4 2 _ _ (upd H2 l1 (.lst [.bl true,.bl true,.bl false])) _;generalize upd H2 l1 (.lst [.bl true,.bl true,.bl false])=H3 at s3 q3 x3 ⊢;walk_at "if";refine cat2 x3 q3 (by show 3<=100;decide) ei (T.kit .out .seaOver nofun) (T.kit .out .over nofun) fun l2 H4 q4 x4 s4=>?_;refine⟨_,rfl,h l2 H4 ?_ (s3.trans s4)⟩;rw[if_pos ⋯];exact q4
 ·intro A1 H4 hAp SA4 k4 f4;have s4:Same H0 H4:=fun x o e=>k4 x o (sP _ _ e) (Zh e hp);refine⟨rfl,_,rfl,h l0 H4 ?_ (s0.trans s4)⟩;rw[if_neg ⋯];exact s4 _ _ q0
theorem Ar{a1 a2 a3 a4 a5 a6 a7:Int}(h1:Z0 a1)(h2:Z0 a2)(h3:Z0 a3)(h4:Z0 a4)(h5:Z0 a5)(h6:Z0 a6)(h7:Z0 a7)(z:Int):∃ v,atI [V.int a1,V.int a2,V.int a3,V.int a4,V.int a5,V.int a6,V.int a7] (z%7)=some (.int v)/\Z0 v:=by
 obtain⟨k,hk,hk7⟩:∃ k:Nat,z%7=k/\k<7:=⟨(z%7).toNat,by omega,by omega⟩;rw[hk]
 match k,hk7 with
 | 0,_=>exact⟨a1,Y6 rfl,h1⟩
 | 1,_=>exact⟨a2,Y6 rfl,h2⟩
 | 2,_=>exact⟨a3,Y6 rfl,h3⟩
 | 3,_=>exact⟨a4,Y6 rfl,h4⟩
 | 4,_=>exact⟨a5,Y6 rfl,h5⟩
 | 5,_=>exact⟨a6,Y6 rfl,h6⟩
 | 6,_=>exact⟨a7,Y6 rfl,h7⟩
theorem Pd{H:Hp}:∀ bs:List Bool,Xk K H (bs.map V.bl) (bs.map Dt.bl)
 | []=>.nil
 | b :: bs=>.cons (.bl b) (Pd bs)
noncomputable abbrev N6:Stmt:=top 66
theorem W9:Zl ["_law_script","_law_head","_law_rounds","_law_rest","_law_season","_law_days","_law_away","_law_noted","_law_deed","_law_due_here","_law_told"] ["_law_script"] (Zj N6):=fnS
theorem zbf(F:Fun K "law" "law" N6 f fd)(T:Tx K mg a)(zfx:Yg P w K mg base "_law_at" 1 ["_law_script","_law_k"] (zcg K))(zeq:Yg P w K mg base "_law_list_is" 3 ["_law_found","_law_due_here"] (O7 K))(zg1:Yg P w K mg base "_law_made" 5 ["_law_rounds","_law_rest"] (C0 K (ca a)))(zgw:V9 P w K mg base "Season" a.zdp 3 ["self","rounds","rest"] (Kh (ca a)))(zhe:Yg P w K mg base "_law_begun" 4 ["_law_season"] (G6 (ca a)))(zig:Yg P w K mg base "_law_due" 1 ["_law_rounds","_law_noted","_law_deed"] (G7 K))(zhq:Yg P w K mg base "_law_done" 9 ["_law_season","_law_deed"] (Cz K (ca a)))(zep:Yg P w K mg base "_law_one_is" 2 ["_law_found","_law_due_here"] Oh)(zds:Zt P w K mg base a.zdp "at_hand" 2 ["self"] (Wm (ca a))):FnOk P w K mg base (CX1 P w) 10 f fd ["_law_script"] (Gn K):=by
 refine F.okX W9 ⋯ fun _ _ _ _ H _ Q E hr h=>?_;obtain⟨b,ns,rfl,hS,hlen,h⟩:=h;have hu:=Vp hr;refine⟨_,(Zc (pS 1 W9.nd (pF zfx hr (Za (pv 0) (Za Zi Zd))))
 (Zc (pS 2 W9.nd (Ym Rb (pF zfx hr (Za (pv 0) (Za Zi Zd))) Zi))
 (Zc (pS 3 W9.nd (Ym Rb (pF zfx hr (Za (pv 0) (Za Zi Zd))) Zi))
 (Zc (Z6 (Zn Xr (Ym Rb (pv 1) Zi) Zi (Zs _))
  (Zf (pS 2 W9.nd (pI (iL K) (Z3 (Za (Hs Lo Zi) (Za Zi (Za Zi (Za Zi (Za Zi (Za Zi (Za (Ym Ln Zi Zi) Zd)))))))) (Ym Rb (pF zfx hr (Za (pv 0) (Za Zi Zd))) Zi))))
  Zr)
 (Zc (Z6 (Zn Xr (Ym Rb (Ym Bb (pv 1) Zi) Zi) Zi (Zs _))
  (Zf (pS 3 W9.nd (pI (iL K) (Z3 (Za (Hs Lo Zi) (Za Zi (Za Zi (Za Zi (Za Zi (Za Zi (Za (Ym Ln Zi Zi) Zd)))))))) (Ym Rb (pF zfx hr (Za (pv 0) (Za Zi Zd))) Zi))))
  Zr)
 (Zc (Z6 (Tu (Uo (pF zeq hr (Za (Z3 (Za (Y7 rfl T.ze1) (Za (Y7 rfl T.zfh) Zd))) (Za (Z3 (Za Zi (Za Zi Zd))) Zd)))))
  (Zf (Zp V4))
  Zr)
 (Zc (Z6 (PW.pt (Ur (Zn Pe (pv 2) Zi (Zs _)) (Ur (Zn Tv (pv 2) Zi (Zs _)) (Ur (Zn Pe (pv 3) Zi (Zs _)) (V5 (Zn Tv (pv 3) Zi (Zs _)))))))
  (Zf (Zp (U8 (Lz (K:=K) rfl hr.units) (pF zg1 hr (Za (pv 2) (Za (pv 3) Zd))) (Z3 (Za V4 (Za V4 (Za V4 (Za V4 (Za V4 Zd)))))) (Zs _))))
  Zr)
 (Zc (Z6 (Zn (Gk (K:=K) rfl hr.units) (pF zg1 hr (Za (pv 2) (Za (pv 3) Zd))) (Z3 Zd) (Zs _))
  (Zf (Zp V4))
  Zr)
 (Zc (pS 4 W9.nd (O3 zgw (hr.mono ⋯) Zk rfl (Za (pv 2) (Za (pv 3) Zd))))
 (Zc (pS 5 W9.nd (Z3 (Za Zi (Za (Hs Lo Zi) (Za Zi (Za (pv 2) (Za (Ym Ib (pv 2) Zi) (Za Zi (Za (Ym Ln Zi Zi) (Za (Ym Rb (pF zfx hr (Za (pv 0) (Za Zi Zd))) (Ym Ln Zi Zi)) Zd))))))))))
 (Zc (Pq (i:=6) W9.nd rfl rfl rfl (cT [] []) (Yw (K:=K) rfl (pv 5)) (fun _ _ _ _ _=>Uh) (fun _ _ _ _ _=>(Yp (Za Zx (Za (pv 0) (Za Zi Zd))))))
 (Zc (pS 7 W9.nd (Z3 Zd))
 (Zc (V6 PassesOwn.leaving rfl (Yw (K:=K) rfl (Ym Vm (Ym Vm (Ym Vm (pv 6) (Z3 (Za (Yp (Za Zx Zd)) (Za (Yp (Za Zx Zd)) (Za (Yp (Za Zx (Za Zi (Za Zi (Za Zi Zd))))) Zd))))) (pv 6)) (Z3 (Za (Yp (Za Zx Zd)) Zd)))) (pN 8 W9.nd)
  (Zc (Z6 (PW.pt (Tt (Zn (Lz (K:=K) rfl hr.units) (pv 7) (Z3 Zd) (Zs _)) (Ud (Tu (Uo (pF zhe hr (Za (pv 4) Zd)))))))
   (Zf (Zp V4))
   Zr)
  (Zc (pS 9 W9.nd (pF zig hr (Za (pv 2) (Za (pv 7) (Za (pv 8) Zd)))))
  (Zc (pS 10 W9.nd (pF zhq hr (Za (pv 4) (Za (pv 8) Zd))))
  (Zc (Z6 (PW.pt (Tt (Zn Hy (pv 9) Zx (Zs _)) (Ud (PW.pt (Ur (Zn Hy (pI (iU K) (pv 10) Zi) Zx (Zs _)) (V5 (Zn (Gk (K:=K) rfl hr.units) (pI (iU K) (pv 10) Zi) (Z3 (Za (pv 9) (Za Zx Zd))) (Zs _))))))))
   (Zf (Zp V4))
   Zr)
  (Zc (Z6 (PW.pt (Tt (Zn Xr (pv 9) Zx (Zs _)) (Ud (Zn Hy (pI (iU K) (pv 10) Zi) Zx (Zs _)))))
   (Zf (Zp V4))
   Zr)
  (Zc (Z6 (PW.pt (Tt (Zn Xr (pv 9) Zx (Zs _)) (Ud (Zn Xr (pI (iU K) (pv 8) Zi) Zx (Zs _)))))
   (Zf (Xe (pv 7) Zi))
   Zr)
  (Zf (Z6 (PW.pt (Tt (Zn Xr (pv 9) Zx (Zs _)) (Ud (Zn Xr (pI (iU K) (pv 8) Zi) Zx (Zs _)))))
   (Zf (Xe (pv 7) (pI (iU K) (pv 8) Zi)))
   Zr)))))))))
 (Zf (Zp (pF zep hr (Za (Ya (pv 4) T.zdq zds (hr.mono ⋯) Zk) (Za Zi Zd)))))))))))))))))),?_⟩
 show let y1:TS:=_;let y2:TS:=Z7 _ y1;let y3:TS:=Z7 _ y2;let y4:TS:=Z7 _ y3;let y5:TS:=Z7 _ y4;let y6:TS:=Z7 _ y5;let y7:TS:=_;let y8:TS:=Z7 (zbp _ _ (Z7 _ y6)) y7;let y9:TS:=Z7 _ y8;let y10:TS:=Z7 _ y9;let y11:TS:=Z7 _ y10;let y12:TS:=Z7 _ y11;let y13:TS:=Z7 _ y12;let y14:TS:=Z7 _ y13;let y15:TS:=Z7 _ y14;let y16:TS:=Z7 _ y15;let y17:TS:=Z7 _ y16;let y18:TS:=Z7 _ y17;let y19:TS:=Z7 _ y18;Z7 _ y19 _ _ _;intro y1 y2 y3 y4 y5 y6 y7 y8 y9 y10 y11 y12 y13 y14 y15 y16 y17 y18 y19;have s7:∀ {l:List V},l.length<=100->l.length<=sizeLine:=fun z=>szN ⋯;have sA:Z0 (-1):=Zz ⋯ ⋯;have sB:Z0 0:=Zz ⋯ ⋯;have sC:Z0 1:=Zz ⋯ ⋯;have sD:Z0 (10 ^ (30:Int).toNat):=Z5 ⋯;refine⟨_,rfl,b,ns,0,rfl,hS,?_⟩;walk_at "if";refine⟨_,rfl,b,ns,1,rfl,hS,_,_,rfl,rfl,(show (0:Int)<61 by decide),?_⟩;walk_at "if";refine⟨_,rfl,b,ns,2,rfl,hS,_,_,rfl,rfl,(show (0:Int)<11 by decide),?_⟩;have hr0:Z0 (X5 ns 1%61):=Zz ⋯ ⋯;have hq0:Z0 (X5 ns 2%11):=Zz ⋯ ⋯;walk_at "if";generalize X5 ns 1%61=r0 at hr0 ⊢;generalize X5 ns 2%11=q0 at hq0 ⊢
 let jv1:L2.St->Hp->Prop:=fun σ' H'=>∃ r:Int,σ'=[some (.ref b),some (.int (X5 ns 0)),some (.int r),some (.int q0),none,none,none,none,none,none,none]/\Z0 r/\Same H H'
 refine Pm (b:=decide (V.int (X5 ns 0%2)=V.int 1)) jv1
  (fun Q k=>⟨_,rfl,_,_,rfl,rfl,(show (0:Int)<2 by decide),rfl,_,rfl,k⟩) (fun _ N hN=>?_) (fun _ N hN=>Zq (hN _ _ ⟨r0,rfl,hr0,.refl _⟩)) ?_
 ·obtain⟨v,hv,hvs⟩:=Ar sA sB sC (Zz (i:=60) ⋯ ⋯) (Zz (i:=59) ⋯ ⋯) (Zz (i:=61) ⋯ ⋯) sD (X5 ns 1);refine⟨_,rfl,_,_,rfl,rfl,⟨by decide,by decide,by decide⟩,s7 (by show 7<=100;decide),fun l1 f1=>?_⟩;refine⟨_,rfl,b,ns,1,rfl,(Ze f1).seq hS,_,_,rfl,rfl,(show (0:Int)<7 by decide),l1,_,_,_,rfl,rfl,SqL.of Zb,hv,?_⟩;exact hN _ _ ⟨v,rfl,hvs,Ze f1⟩
 rintro σ' H1 ⟨r,rfl,hr1,s1⟩;have hS1:=s1.seq hS
 let jv2:L2.St->Hp->Prop:=fun σ' H'=>∃ q:Int,σ'=[some (.ref b),some (.int (X5 ns 0)),some (.int r),some (.int q),none,none,none,none,none,none,none]/\Z0 q/\Same H H'
 refine Pm (b:=decide (V.int (X5 ns 0/2%2)=V.int 1)) jv2
  (fun Q k=>⟨_,rfl,_,_,rfl,rfl,⟨by decide,by decide⟩,_,_,rfl,rfl,(show (0:Int)<2 by decide),rfl,_,rfl,k⟩) (fun _ N hN=>?_) (fun _ N hN=>Zq (hN _ _ ⟨q0,rfl,hq0,s1⟩)) ?_
 ·obtain⟨v,hv,hvs⟩:=Ar sA sB sC (Zz (i:=10) ⋯ ⋯) (Zz (i:=9) ⋯ ⋯) (Zz (i:=11) ⋯ ⋯) sD (X5 ns 2);refine⟨_,rfl,_,_,rfl,rfl,⟨by decide,by decide,by decide⟩,s7 (by show 7<=100;decide),fun l1 f1=>?_⟩;refine⟨_,rfl,b,ns,2,rfl,(Ze f1).seq hS1,_,_,rfl,rfl,(show (0:Int)<7 by decide),l1,_,_,_,rfl,rfl,SqL.of Zb,hv,?_⟩;exact hN _ _ ⟨v,rfl,hvs,s1.trans (Ze f1)⟩
 clear s1 hS1 H1;rintro σ' H1 ⟨q,rfl,hq1,s1⟩;refine Vn ?_;refine⟨sz2,fun l1 f1=>⟨sz2,fun l2 f2=>⟨l1,l2,[.int 60,.int 10],rfl,Ze f2 _ _ Zb,SqL.of Zb,?_,by decide,true,rfl,iteF (Zq ?_)⟩⟩⟩
 ·intro x hx;rcases zq0.mp hx with rfl|hx
  ·exact .inr ⟨_,rfl⟩
  ·rw[zq3.mp hx];exact .inr ⟨_,rfl⟩
 have s2:=s1.trans ((Ze (o:=.lst [.int 60,.int 10]) f1).trans (Ze (o:=.lst [.int 60,.int 10]) f2));generalize upd (upd H1 l1 (.lst [.int 60,.int 10])) l2 (.lst [.int 60,.int 10])=H2 at s2 ⊢;dsimp only;refine Vn (U9 (b:=decide (r<0\/60<r\/q<0\/10<q)) (fun Q k=>⟨_,rfl,_,_,rfl,rfl,_,rfl,itD (fun c=>by rw[zq2 (.inl c)] at k;exact k) fun c1=>⟨_,rfl,_,_,rfl,rfl,_,rfl,itD (fun c=>by rw[zq2 (.inr (.inl c))] at k;exact k) fun c2=>⟨_,rfl,_,_,rfl,rfl,_,rfl,itD (fun c=>by rw[zq2 (.inr (.inr (.inl c)))] at k;exact k) fun c3=>⟨_,rfl,_,_,rfl,rfl,_,rfl,?_⟩⟩⟩⟩) ?_)
 ·have e:decide (10<q)=decide (r<0\/60<r\/q<0\/10<q):=decide_eq_decide.mpr ⟨fun z=>.inr (.inr (.inr z)),fun z=>by omega⟩;rw[e];exact k
 refine itD (fun hbad=>?_) (fun hgood=>Zq ?_)
 ·refine⟨_,rfl,_,rfl,r,q,rfl,hr1,hq1,fun l H3 hl s3=>⟨s7 (by show 5<=100;decide),fun l2 f2=>?_⟩⟩;rw[if_pos hbad] at hl;refine⟨.lst ([true,true,false,false,false].map Dt.bl),.lst ([true,true,false,false,false].map Dt.bl),.lst (SqL.of (Ze f2 _ _ hl)) (Pd [true,true,false,false,false]),.lst (SqL.of Zb) (Pd [true,true,false,false,false]),(by unfold shD;decide +kernel),(by unfold shD;decide +kernel),?_⟩;rw[R9];exact h _
 dsimp only;refine Vn ?_;refine⟨_,rfl,_,rfl,r,q,rfl,hr1,hq1,fun l H3 hl s3=>⟨zrj _,fun l2 f2=>?_⟩⟩;rw[if_neg hgood] at hl;refine⟨.lst [],.lst [],.lst (SqL.of (Ze f2 _ _ hl)) .nil,.lst (SqL.of Zb) .nil,Ol,Ol,_,rfl,?_⟩;rw[R9];refine iteF (Zq ?_);have s4:=s2.trans (s3.trans (Ze (o:=.lst []) f2));show y12 _ _ (upd H3 l2 (.lst []));generalize upd H3 l2 (.lst [])=H4 at s4 ⊢;clear s3 hl f2 s2 s1 f1;obtain⟨rn,rfl⟩:∃ k:Nat,r=k:=⟨r.toNat,by omega⟩;obtain⟨qn,rfl⟩:∃ k:Nat,q=k:=⟨q.toNat,by omega⟩;refine⟨_,rfl,_,rfl,fun p0 dx0 hp0 hdx0 ne0=>?_⟩;refine⟨p0,dx0,rn,qn,rfl,Zb,hr1,hq1,?_⟩;rw[if_neg ⋯,if_neg ⋯];intro A1 H5 hAp SA5 k5 f5;rw[zsg,zsg] at SA5;have s5:Same H4 H5:=fun x o e=>k5 x o (by rw[Zg (Zh e hp0),Zg (Zh e hdx0)];exact e) (Zh e hp0);subst hAp;refine⟨rfl,?_⟩;walk_at "if";have hS5:=(s4.trans s5).seq hS;obtain⟨days,hdays,hsm,h8⟩:∃ days:List Int,[V.int 0,V.int (-1),V.int 1,V.int (rn:Nat),V.int ((rn:Nat)+1),V.int 61,V.int (10 ^ (30:Int).toNat),V.int (X5 ns 3%10 ^ (40:Int).toNat)]=days.map V.int/\(∀ x∈days,Z0 x)/\days.length=8:=by
  refine⟨[0,-1,1,(rn:Nat),(rn:Nat)+1,61,10 ^ (30:Int).toNat,X5 ns 3%10 ^ (40:Int).toNat],rfl,fun x hx=>?_,rfl⟩;have e40:(10:Int) ^ (40:Int).toNat=10000000000000000000000000000000000000000:=by decide +kernel
  simp only[zq0,zru,or_false] at hx;rcases hx with rfl|rfl|rfl|rfl|rfl|rfl|rfl|rfl
  ·exact sB
  ·exact sA
  ·exact sC
  ·exact hr1
  ·exact Zz ⋯ ⋯
  ·exact Zz ⋯ ⋯
  ·exact sD
  ·rw[e40];exact Z5 ⋯
 refine⟨_,rfl,_,rfl,_,rfl,_,_,rfl,rfl,_,_,rfl,rfl,⟨by decide,by decide,by decide⟩,_,rfl,b,ns,3,rfl,hS5,_,_,rfl,rfl,⟨by decide,by decide,by decide⟩,_,_,rfl,rfl,(show (0:Int)<10 ^ Int.toNat 40 by decide +kernel),s7 (by show 8<=100;decide),fun ld fd=>?_⟩;walk_at "if";rw[hdays];have s6:=Ze (o:=.lst (days.map V.int)) fd;have q6:upd H5 ld (.lst (days.map V.int)) ld=some (.lst (days.map V.int)):=Zb;generalize upd H5 ld (.lst (days.map V.int))=H6 at s6 q6 ⊢;have hll:(days.map V.int).length=8:=by rw[zqx,h8]
 refine⟨_,rfl,ld,rfl,⟨_,SqL.of q6⟩,V2 (K:=K) (a:=ld) (xs:=days.map V.int) (fun i ys H'=>Same H6 H'/\TupL H' ys ((days.take i).map fun x=>ldV (.away x 5))) ⟨.refl _,.nil⟩ (fun i ys H' _ z=>SqL.of (z.1 _ _ q6)) (szN ⋯) (fun i ys H' z=>by rw[z.2.length,zqx];exact List.length_take_le _ _) ?_ ?_⟩
 ·rintro i x ys H' hx ⟨s',tl⟩;obtain⟨d,hd,rfl⟩:∃ d,days[i]?=some d/\V.int d=x:=by
   rw[zq7] at hx;cases e:days[i]? with
   | none=>rw[e] at hx;cases hx
   | some y=>rw[e] at hx;exact⟨y,rfl,Option.some.inj hx⟩
  unfold tYes;dsimp only;rw[if_pos rfl];refine⟨_,rfl,s7 (by show 3<=100;decide),fun t ht=>⟨s'.trans (Ze ht),?_⟩⟩;rw[zry,hd,zre];exact(tl.same (Ze ht)).snoc Zb
 rintro ya H7 ⟨s7',tla⟩ la fla;rw[hll,show days.take 8=days from by rw[<- h8];exact zrm] at tla;have hya:ya.length=8:=by rw[tla.length,zqx,h8]
 have s8:=s6.trans (s7'.trans (Ze (o:=.lst ya) fla));have q8:upd H7 la (.lst ya) la=some (.lst ya):=Zb
 replace tla:=tla.same (Ze (o:=.lst ya) fla)
 walk_at "if";generalize upd H7 la (.lst ya)=H8 at s8 q8 tla ⊢;refine⟨zrj _,fun ln fn=>?_⟩;have s9:=s8.trans (Ze (o:=.lst []) fn);have q9:=Ze (o:=.lst []) fn _ _ q8;have n9:upd H8 ln (.lst []) ln=some (.lst (([]:List Int).map V.int)):=Zb
 replace tla:=tla.same (Ze (o:=.lst []) fn)
 have SA9:=SA5.same s9;have nln:ln∉A1.fp:=(SA5.same s8).newOk _ fn;walk_at "if";generalize upd H8 ln (.lst [])=H9 at s9 q9 n9 tla SA9 ⊢;clear s8 s6 SA5 f5 k5 hS5 q6 q8 s4 s5;refine⟨_,rfl,s7 (by show 1<=100;decide),fun t1 g1=>?_⟩;have z1:=Ze (o:=.tup [.str "close"]) g1;have w1:upd H9 t1 (.tup [.str "close"]) t1=some (.tup (ldV .close)):=Zb;generalize upd H9 t1 (.tup [.str "close"])=H10 at z1 w1 ⊢;refine⟨s7 (by show 1<=100;decide),fun t2 g2=>?_⟩;have z2:=z1.trans (Ze (o:=.tup [.str "take back"]) g2);have w2:upd H10 t2 (.tup [.str "take back"]) t2=some (.tup (ldV .back)):=Zb
 replace w1:=Ze (o:=.tup [.str "take back"]) g2 _ _ w1
 generalize upd H10 t2 (.tup [.str "take back"])=H11 at z2 w1 w2 ⊢;refine⟨s7 (by show 4<=100;decide),fun t3 g3=>?_⟩;have z3:=z2.trans (Ze (o:=.tup [.str "enrol",.int 5,.int 5,.int 5]) g3);have w3:upd H11 t3 (.tup [.str "enrol",.int 5,.int 5,.int 5]) t3=some (.tup (ldV (.enrol 5 5 5))):=Zb
 replace w1:=Ze (o:=.tup [.str "enrol",.int 5,.int 5,.int 5]) g3 _ _ w1
 replace w2:=Ze (o:=.tup [.str "enrol",.int 5,.int 5,.int 5]) g3 _ _ w2
 generalize upd H11 t3 (.tup [.str "enrol",.int 5,.int 5,.int 5])=H12 at z3 w1 w2 w3 ⊢;refine⟨s7 (by show 3<=100;decide),fun l3 g4=>?_⟩;have z4:=z3.trans (Ze (o:=.lst [.ref t1,.ref t2,.ref t3]) g4);have w4:upd H12 l3 (.lst [.ref t1,.ref t2,.ref t3]) l3=some (.lst [.ref t1,.ref t2,.ref t3]):=Zb;have tl3:TupL (upd H12 l3 (.lst [.ref t1,.ref t2,.ref t3])) [.ref t1,.ref t2,.ref t3] [ldV .close,ldV .back,ldV (.enrol 5 5 5)]:=.cons (Ze g4 _ _ w1) (.cons (Ze g4 _ _ w2) (.cons (Ze g4 _ _ w3) .nil));generalize upd H12 l3 (.lst [.ref t1,.ref t2,.ref t3])=H13 at z4 w4 tl3 ⊢;refine⟨la,l3,ya,_,rfl,rfl,z4 _ _ q9,w4,szN (by simp only[hya,zrc,zr4];omega),fun l4 g5=>?_⟩;have z5:=z4.trans (Ze (o:=.lst (ya++[.ref t1,.ref t2,.ref t3])) g5);have w5:upd H13 l4 (.lst (ya++[.ref t1,.ref t2,.ref t3])) l4=some (.lst (ya++[.ref t1,.ref t2,.ref t3])):=Zb
 replace tl3:=tl3.same (Ze (o:=.lst (ya++[.ref t1,.ref t2,.ref t3])) g5)
 generalize upd H13 l4 (.lst (ya++[.ref t1,.ref t2,.ref t3]))=H14 at z5 w5 tl3 ⊢;refine⟨_,rfl,l4,la,_,ya,rfl,rfl,w5,z5 _ _ q9,szN (by simp only[zq4,hya,zrc,zr4];omega),fun l5 g6=>?_⟩;have z6:=z5.trans (Ze (o:=.lst ((ya++[.ref t1,.ref t2,.ref t3])++ya)) g6);have w6:upd H14 l5 (.lst ((ya++[.ref t1,.ref t2,.ref t3])++ya)) l5=some (.lst ((ya++[.ref t1,.ref t2,.ref t3])++ya)):=Zb
 replace tl3:=tl3.same (Ze (o:=.lst ((ya++[.ref t1,.ref t2,.ref t3])++ya)) g6)
 generalize upd H14 l5 (.lst ((ya++[.ref t1,.ref t2,.ref t3])++ya))=H15 at z6 w6 tl3 ⊢;refine⟨s7 (by show 1<=100;decide),fun t4 g7=>?_⟩;have z7:=z6.trans (Ze (o:=.tup [.str "close"]) g7);have w7:upd H15 t4 (.tup [.str "close"]) t4=some (.tup (ldV .close)):=Zb
 replace tl3:=tl3.same (Ze (o:=.tup [.str "close"]) g7)
 replace w6:=Ze (o:=.tup [.str "close"]) g7 _ _ w6
 generalize upd H15 t4 (.tup [.str "close"])=H16 at z7 w6 w7 tl3 ⊢;refine⟨s7 (by show 1<=100;decide),fun l6 g8=>?_⟩;have z8:=z7.trans (Ze (o:=.lst [.ref t4]) g8);have w8:upd H16 l6 (.lst [.ref t4]) l6=some (.lst [.ref t4]):=Zb
 replace tl3:=tl3.same (Ze (o:=.lst [.ref t4]) g8)
 replace w6:=Ze (o:=.lst [.ref t4]) g8 _ _ w6
 replace w7:=Ze (o:=.lst [.ref t4]) g8 _ _ w7
 generalize upd H16 l6 (.lst [.ref t4])=H17 at z8 w6 w7 w8 tl3 ⊢;refine⟨l5,l6,_,_,rfl,rfl,w6,w8,szN (by simp only[zq4,hya,zrc,zr4];omega),fun lz fz=>?_⟩;have z9:=z8.trans (Ze (o:=.lst ((ya++[.ref t1,.ref t2,.ref t3])++ya++[.ref t4])) fz);have w9:upd H17 lz (.lst ((ya++[.ref t1,.ref t2,.ref t3])++ya++[.ref t4])) lz=some (.lst ((ya++[.ref t1,.ref t2,.ref t3])++ya++[.ref t4])):=Zb
 replace tl3:=tl3.same (Ze (o:=.lst ((ya++[.ref t1,.ref t2,.ref t3])++ya++[.ref t4])) fz)
 replace w7:=Ze (o:=.lst ((ya++[.ref t1,.ref t2,.ref t3])++ya++[.ref t4])) fz _ _ w7
 have nlz:lz∉A1.fp:=(SA9.same z8).newOk _ fz;have nlz2:lz≠ln:=Jw fz (z8 _ _ n9);have SA18:=SA9.same z9;have n18:=z9 _ _ n9;have tlz:TupL (upd H17 lz (.lst ((ya++[.ref t1,.ref t2,.ref t3])++ya++[.ref t4]))) ((ya++[.ref t1,.ref t2,.ref t3])++ya++[.ref t4]) ((L21 days).map ldV):=by
  unfold L21;rw[zre,zre,zre,List.map_map];exact TupL.app (TupL.app (TupL.app (tla.same z9) tl3) (tla.same z9)) (.cons w7 .nil)
 generalize (ya++[.ref t1,.ref t2,.ref t3])++ya++[.ref t4]=yz at w9 tlz SA18 n18 z9 ⊢;generalize upd H17 lz (.lst yz)=H18 at z9 w9 tlz SA18 n18 ⊢;clear z8 w8 w7 w6 tl3 z7 z6 w5 z5 w4 z4 g8 g7 g6 g5
 let jv3:Nat->L2.St->Hp->Prop:=fun i σ' H'=>∃ (A:SAd) (S:Sea) (noted:List Int) (v8 v9 v10:Option V),σ'=[some (.ref b),some (.int (X5 ns 0)),some (.int (rn:Nat)),some (.int (qn:Nat)),some (.ref A1.p),some (.ref ld),some (.ref la),some (.ref ln),v8,v9,v10]/\Zv (ca a) H' A S/\A.p=A1.p/\I21 rn i noted S/\H' ln=some (.lst (noted.map V.int))/\ln∉A.fp/\H' lz=some (.lst yz)/\lz∉A.fp/\TupL H' yz ((L21 days).map ldV)
 refine⟨lz,rfl,⟨_,SqL.of w9⟩,V7 (K:=K) (a:=lz) (xs:=yz) jv3
  ⟨A1,Cs rn qn,[],_,_,_,rfl,SA18,rfl,⟨rfl,rfl,rfl,rfl,fun x hx=>(by cases hx),zq1 0,zq1 0,.inl ⟨rfl,rfl,rfl,rfl⟩,fun _=>rfl⟩,n18,nln,w9,nlz,tlz⟩ (fun i σ' H' _ z=>by obtain⟨_,_,_,_,_,_,_,_,_,_,_,_,z,_⟩:=z;exact SqL.of z) ?_ ?_⟩
 rotate_left
 ·rintro σ' H' ⟨A,S,noted,v8,v9,v10,rfl,SA,eA,I,_⟩;obtain⟨⟨dx,v,ob,_⟩,_⟩:=id SA;rw[eA] at ob;refine⟨_,rfl,A1.p,dx,_,rfl,ob,Yc ⋯,A,S,(by rw[eA];rfl),SA,?_⟩;have ha:atV S=1:=by unfold atV;rw[I.led];rfl
  rw[ha];exact⟨_,rfl,.inr ⟨_,rfl⟩,h H'⟩
 rintro i x σ' H' hx ⟨A,S,noted,v8,v9,v10,rfl,SA,eA,I,hn,on,hz,oz,tl⟩;obtain⟨t,rr,rfl,hrr,ht⟩:=tl.get hx;obtain⟨d,hd,rfl⟩:∃ d,(L21 days)[i]?=some d/\ldV d=rr:=by
  rw[zq7] at hrr;cases e:(L21 days)[i]? with
  | none=>rw[e] at hrr;cases hrr
  | some y=>rw[e] at hrr;exact⟨y,rfl,Option.some.inj hrr⟩
 obtain⟨hi,hk⟩:=B8 h8 hd;have nd:∀ ms,d≠.draw ms:=by
  rintro ms rfl;rcases hk with ⟨x,_,e⟩|e|⟨e,_⟩|⟨e,_⟩<;>cases e
 walk_at "if"
 let jv4:L2.St->Hp->Prop:=fun σ' Hx=>σ'=[some (.ref b),some (.int (X5 ns 0)),some (.int (rn:Nat)),some (.int (qn:Nat)),some (.ref A1.p),some (.ref ld),some (.ref la),some (.ref ln),some (.ref t),v9,v10]/\Same H' Hx
 refine Ka (b:=false) jv4 (fun Q k=>?_) (fun z=>nomatch z) (fun _ H1 s1 N hN=>Zq (hN _ _ ⟨rfl,s1⟩)) ?_
 ·refine⟨_,rfl,zrj _,fun l1 f1=>?_⟩;have s1:=Ze (o:=.lst []) f1;refine⟨_,_,.lst (SqL.of (s1 _ _ hn)) (T9 _),.lst (SqL.of Zb) .nil,L9 _,Ol,_,rfl,?_⟩;rw[if_neg (show ¬ ((false:Bool)=true) by decide),Gu];generalize upd H' l1 (.lst [])=H1 at s1 ⊢;refine itB (fun c=>?_) (fun c=>k H1 s1);have hnil:=List.isEmpty_iff.mp c;obtain⟨e1,e2⟩:S.ppl=[]/\S.std=[]:=by
   rcases I.z with z|⟨ds,z,_⟩
   ·exact⟨z.2.1,z.2.2.1⟩
   ·rw[hnil] at z;cases z
  exact⟨_,rfl,A,S,(by rw[eA];rfl),SA.same s1,I.led,e1,e2,fun H2 s2=>⟨true,rfl,k H2 (s1.trans s2)⟩⟩
 rintro σ2 H1 ⟨rfl,s1⟩;refine⟨_,rfl,_,rfl,_,rfl,rn,ln,t,noted,d,rfl,s1 _ _ hn,C5 (s1 _ _ ht) nd,nd,fun H2 s2=>?_⟩;have s12:=s1.trans s2;have SA2:=SA.same s12;walk_at "if";have hnl:=I.nl;have hsd:Hi d:=by
  rcases hk with ⟨x,hx,rfl⟩|rfl|⟨rfl,_⟩|⟨rfl,_⟩
  ·exact⟨hsm x hx,Zz ⋯ ⋯⟩
  ·exact True.intro
  ·exact True.intro
  ·exact⟨Zz ⋯ ⋯,Zz ⋯ ⋯,Zz ⋯ ⋯⟩
 have hco:G4 S:=fun s hs=>by rw[I.cur] at hs;cases hs
 have hpo:T8 S:=by
  rcases I.z with ⟨_,z,_⟩|⟨ds,_,z,_⟩
  ·exact⟨fun x hx=>(by rw[z] at hx;cases hx),by rw[z];decide⟩
  ·refine⟨fun x hx=>?_,by rw[z];decide⟩;rw[z,zq3] at hx;subst hx;show ¬ badI 5 5 5;unfold badI;omega
 have hsl:=I.sl;have hol:=I.ol;refine⟨_,rfl,_,rfl,A,S,t,d,(by rw[eA];rfl),SA2,C5 (s12 _ _ ht) nd,hsd,hco,hpo,by omega,by omega,(by rw[I.led];decide),(by rw[I.led];exact zrj _),(by rw[I.old];exact zrj _),fun z zz=>?_,fun f hf u l H3 hu hl s3 hun=>?_,fun hno u v A' S' H3 hu af SA3 nx fr ou=>?_⟩
 ·exfalso
  rcases hk with ⟨x,_,e⟩|e|⟨e,hle⟩|⟨e,_⟩
  ·rw[e] at z;cases z
  ·rw[e] at z;cases z
  ·rcases I.z with w|⟨ds,w,_⟩
   ·exact zz w.2.2.1
   ·rw[I.e hle] at w;cases w
  ·rw[e] at z;cases z
 ·have e:=(Hj I hi hk).1 f hf;rw[e];have s13:=s12.trans s3;walk_at "if";refine Vn ?_;refine⟨_,rfl,rfl,_,rfl,?_⟩;have hfn:decide (V.str f.name=V.str "")=false:=Uc (B7 f);rw[hfn];refine iteT ?_;refine⟨_,rfl,u,_,_,_,rfl,rfl,SqT.of hu,rfl,rfl,_,rfl,?_⟩;rw[Te];refine iteF ?_;refine⟨_,rfl,u,_,_,_,rfl,rfl,SqT.of hu,rfl,_,rfl,sz2,fun l2 f2=>?_⟩;refine⟨.lst ([f.name,"ValueError"].map Dt.str),.lst ([f.name,"ValueError"].map Dt.str),.lst (SqL.of (Ze f2 _ _ hl)) (Rr [f.name,"ValueError"]),.lst (SqL.of Zb) (Rr [f.name,"ValueError"]),G5 _ (G8 f),G5 _ (G8 f),false,?_,iteF (Zq ?_)⟩
  ·rw[if_pos rfl,R9];rfl
  have s14:=s13.trans (Ze (o:=.lst [.str f.name,.str "ValueError"]) f2);generalize upd H3 l2 (.lst [.str f.name,.str "ValueError"])=H4 at s14 ⊢;dsimp only;refine Vn ?_;refine⟨_,rfl,rfl,_,rfl,?_⟩;rw[hfn];refine iteF (iteF (Zq ?_));dsimp only;refine Vn ?_;refine⟨_,rfl,rfl,_,rfl,?_⟩;rw[hfn];refine iteF (iteF (Zq ?_));dsimp only;refine⟨_,rfl,rfl,_,rfl,?_⟩;rw[hfn];refine iteF (iteF (Zq ?_));refine⟨A,S,noted,_,_,_,rfl,SA.same s14,eA,?_,s14 _ _ hn,on,s14 _ _ hz,oz,tl.same s14⟩;obtain⟨g1,g2,g3,g4,g5,g6,g7,g8,g9⟩:=I;exact⟨g1,g2,g3,g4,g5,by omega,by omega,g8,fun z=>g9 ⋯⟩
 ·obtain⟨e,hnc,hnb⟩:=(Hj I hi hk).2 hno;have I':=B9 I hi hk hno af;rw[e];have f3:=FrN.next SA2 nx fr;obtain⟨hn3,on3⟩:=f3.k _ _ (s12 _ _ hn) on;obtain⟨hz3,oz3⟩:=f3.k _ _ (s12 _ _ hz) oz;have tl3:=(tl.same s12).mono f3.kt;have ht3:=f3.kt _ _ (s12 _ _ ht);have eA3:A'.p=A1.p:=f3.p.trans eA;walk_at "if";refine Vn ?_;refine⟨_,rfl,rfl,_,rfl,?_⟩;rw[Te];refine iteF (iteF (Zq ?_));dsimp only;refine Vn ?_;refine⟨_,rfl,rfl,_,rfl,?_⟩;rw[Te];refine iteT ?_;refine⟨_,rfl,u,_,_,_,rfl,rfl,SqT.of hu,rfl,rfl,_,rfl,?_⟩;rw[Te];refine iteF (Zq ?_);dsimp only;have hml:(noted.map V.int).length<sizeLine:=Ux (by rw[zqx];omega)
  have fin:∀ k:Int,C6 noted d=noted++[k]->∃ (A:SAd) (S:Sea) (nt:List Int) (w8 w9 w10:Option V),([some (.ref b),some (.int (X5 ns 0)),some (.int (rn:Nat)),some (.int (qn:Nat)),some (.ref A1.p),some (.ref ld),some (.ref la),some (.ref ln),some (.ref t),some (.str ""),some (.ref u)]:L2.St)=[some (.ref b),some (.int (X5 ns 0)),some (.int (rn:Nat)),some (.int (qn:Nat)),some (.ref A1.p),some (.ref ld),some (.ref la),some (.ref ln),w8,w9,w10]/\Zv (ca a) (upd H3 ln (.lst (noted.map V.int++[.int k]))) A S/\A.p=A1.p/\I21 rn (i+1) nt S/\upd H3 ln (.lst (noted.map V.int++[.int k])) ln=some (.lst (nt.map V.int))/\ln∉A.fp/\upd H3 ln (.lst (noted.map V.int++[.int k])) lz=some (.lst yz)/\lz∉A.fp/\TupL (upd H3 ln (.lst (noted.map V.int++[.int k]))) yz ((L21 days).map ldV):=fun k hk'=>by
   rw[hk'] at I';refine⟨A',S',noted++[k],_,_,_,rfl,SA3.lstW hn3 on3 I'.cur I'.old I'.std,eA3,I',?_,on3,?_,oz3,tl3.mono fun t xs e=>?_⟩
   ·rw[Zb,zre];rfl
   ·rw[Zg nlz2];exact hz3
   ·rw[Zg (Yl e hn3 (by intro z;cases z))];exact e
  rcases hk with ⟨x,hx,rfl⟩|rfl|⟨rfl,_⟩|⟨rfl,_⟩
  ·refine Vn ?_;refine⟨_,rfl,rfl,_,rfl,?_⟩;rw[Te];refine iteT ?_;refine⟨_,rfl,t,_,_,_,rfl,rfl,SqT.of ht3,rfl,rfl,_,rfl,?_⟩;rw[Uc ⋯];refine iteF (Zq ?_);dsimp only;refine⟨_,rfl,rfl,_,rfl,?_⟩;rw[Te];refine iteT ?_;refine⟨_,rfl,t,_,_,_,rfl,rfl,SqT.of ht3,rfl,rfl,_,rfl,?_⟩;rw[Te];refine iteT ?_;exact⟨_,rfl,ln,_,rfl,hn3,_,rfl,t,_,_,_,rfl,rfl,SqT.of ht3,rfl,_,hn3,hml,fin x rfl⟩
  ·exact absurd rfl hnc
  ·exact absurd rfl hnb
  ·refine Vn ?_;refine⟨_,rfl,rfl,_,rfl,?_⟩;rw[Te];refine iteT ?_;refine⟨_,rfl,t,_,_,_,rfl,rfl,SqT.of ht3,rfl,rfl,_,rfl,?_⟩;rw[Te];refine iteT ?_;refine⟨_,rfl,ln,_,rfl,hn3,_,hn3,hml,?_⟩;dsimp only;refine⟨_,rfl,rfl,_,rfl,?_⟩;rw[Te];refine iteT ?_;have ht4:upd H3 ln (.lst (noted.map V.int++[.int 0])) t=some (.tup (ldV (.enrol 5 5 5))):=by rw[Zg (Yl ht3 hn3 (by intro z;cases z))];exact ht3
   refine⟨_,rfl,t,_,_,_,rfl,rfl,SqT.of ht4,rfl,rfl,_,rfl,?_⟩;rw[Uc ⋯];exact iteF (Zq (fin 0 rfl))
end
end K21
namespace K21
open PySem PySem.Spec PyProof.Rows L2 G PySem.W
theorem zbg{l:OpenLaw}{w:World}{K:Frag}{h:Heap}{mg:Str->Option Value}{fa zey zd0 zd2 zdx zdz zdy zeh zd8 zd1 zec zd7 zd4 zeo zeg zdw zd3 zdr zdt zdu zdp f0 f1 f2 f3 f4 f5 f6 f7 f8 f9 f10 f11 f12 f13 f14 f15 f16 f17 f18 f19 f20 f21 f22 f23 f24 f25 f26 f27 f28 f29 f30 f31 f32 f33 f34 f35 f36 f37 f38 f39 f40 f41 f42 f43 f44 f45 f46 f47 f48 f49 f50 f51 f52 f53 f54 f55 f56 f57 f58 f59 f60 f61 f62 f63 f64 f65:Addr}{tk0 tk1 tk2 tk3 tk4 tk5 tk6 tk7:Tok}{od0 an0 od1 an1 od2 an2 od3 an3 od4 an4 od5 an5 od6 an6 od7 an7 od8 an8 od9 an9 od10 an10 od11 an11 od12 an12 od13 an13 od14 an14 od15 an15 od16 an16 od17 an17 od18 an18 od19 an19 od20 an20 od21 an21 od22 an22 od23 an23 od24 an24 od25 an25 od26 an26 od27 an27 od28 an28 od29 an29 od30 an30 od31 an31 od32 an32 od33 an33 od34 an34 od35 an35 od36 an36 od37 an37 od38 an38 od39 an39 od40 an40 od41 an41 od42 an42 od43 an43 od44 an44 od45 an45 od46 an46 od47 an47 od48 an48 od49 an49 od50 an50 od51 an51 od52 an52 od53 an53 od54 an54 od55 an55 od56 an56 od57 an57 od58 an58 od59 an59 od60 an60 od61 an61 od62 an62 od63 an63 od64 an64 od65 an65:Option Addr}{sl0 sl1 sl2 sl3 sl4 sl5 sl6 sl7 sl8 sl9 sl10 sl11 sl12 sl13 sl14 sl15 sl16 sl17 sl18 sl19 sl20 sl21 sl22 sl23 sl24 sl25 sl26 sl27 sl28 sl29 sl30 sl31 sl32 sl33 sl34 sl35 sl36 sl37 sl38 sl39 sl40 sl41 sl42 sl43 sl44 sl45 sl46 sl47 sl48 sl49 sl50 sl51 sl52 sl53 sl54 sl55 sl56 sl57 sl58 sl59 sl60 sl61 sl62 sl63 sl64 sl65:Array (Option Value)}{oc0 kV0 dc0 pm0 cd0 ct0 oc1 kV1 dc1 pm1 cd1 ct1 oc2 kV2 dc2 pm2 cd2 ct2 oc3 kV3 dc3 pm3 cd3 ct3 oc4 kV4 dc4 pm4 cd4 ct4 oc5 kV5 dc5 pm5 cd5 ct5 oc6 kV6 dc6 pm6 cd6 ct6 oc7 kV7 dc7 pm7 cd7 ct7 oc8 kV8 dc8 pm8 cd8 ct8 oc9 kV9 dc9 pm9 cd9 ct9 oc10 kV10 dc10 pm10 cd10 ct10 oc11 kV11 dc11 pm11 cd11 ct11 oc12 kV12 dc12 pm12 cd12 ct12 oc13 kV13 dc13 pm13 cd13 ct13 oc14 kV14 dc14 pm14 cd14 ct14 oc15 kV15 dc15 pm15 cd15 ct15 oc16 kV16 dc16 pm16 cd16 ct16 oc17 kV17 dc17 pm17 cd17 ct17 oc18 kV18 dc18 pm18 cd18 ct18 oc19 kV19 dc19 pm19 cd19 ct19 oc20 kV20 dc20 pm20 cd20 ct20 oc21 kV21 dc21 pm21 cd21 ct21 oc22 kV22 dc22 pm22 cd22 ct22 oc23 kV23 dc23 pm23 cd23 ct23 oc24 kV24 dc24 pm24 cd24 ct24 oc25 kV25 dc25 pm25 cd25 ct25 oc26 kV26 dc26 pm26 cd26 ct26 oc27 kV27 dc27 pm27 cd27 ct27 oc28 kV28 dc28 pm28 cd28 ct28 oc29 kV29 dc29 pm29 cd29 ct29 oc30 kV30 dc30 pm30 cd30 ct30 oc31 kV31 dc31 pm31 cd31 ct31 oc32 kV32 dc32 pm32 cd32 ct32 oc33 kV33 dc33 pm33 cd33 ct33 oc34 kV34 dc34 pm34 cd34 ct34 oc35 kV35 dc35 pm35 cd35 ct35 oc36 kV36 dc36 pm36 cd36 ct36 oc37 kV37 dc37 pm37 cd37 ct37 oc38 kV38 dc38 pm38 cd38 ct38 oc39 kV39 dc39 pm39 cd39 ct39 oc40 kV40 dc40 pm40 cd40 ct40 oc41 kV41 dc41 pm41 cd41 ct41 oc42 kV42 dc42 pm42 cd42 ct42 oc43 kV43 dc43 pm43 cd43 ct43 oc44 kV44 dc44 pm44 cd44 ct44 oc45 kV45 dc45 pm45 cd45 ct45 oc46 kV46 dc46 pm46 cd46 ct46 oc47 kV47 dc47 pm47 cd47 ct47 oc48 kV48 dc48 pm48 cd48 ct48 oc49 kV49 dc49 pm49 cd49 ct49 oc50 kV50 dc50 pm50 cd50 ct50 oc51 kV51 dc51 pm51 cd51 ct51 oc52 kV52 dc52 pm52 cd52 ct52 oc53 kV53 dc53 pm53 cd53 ct53 oc54 kV54 dc54 pm54 cd54 ct54 oc55 kV55 dc55 pm55 cd55 ct55 oc56 kV56 dc56 pm56 cd56 ct56 oc57 kV57 dc57 pm57 cd57 ct57 oc58 kV58 dc58 pm58 cd58 ct58 oc59 kV59 dc59 pm59 cd59 ct59 oc60 kV60 dc60 pm60 cd60 ct60 oc61 kV61 dc61 pm61 cd61 ct61 oc62 kV62 dc62 pm62 cd62 ct62 oc63 kV63 dc63 pm63 cd63 ct63 oc64 kV64 dc64 pm64 cd64 ct64 oc65 kV65 dc65 pm65 cd65 ct65:Value}(X:K.In h)(G:h.Ns mainGlobals mg)(hfa:mg "law"=some (.ref fa))
  (zhf:nsIn K mainGlobals "BookError"=some (some (.ref zey)))
  (zf3:nsIn K mainGlobals "OutOfRange"=some (some (.ref zd0)))
  (zfl:nsIn K mainGlobals "KnownReferee"=some (some (.ref zd2)))
  (ze2:nsIn K mainGlobals "TooManyReferees"=some (some (.ref zdx)))
  (ze9:nsIn K mainGlobals "UnknownReferee"=some (some (.ref zdz)))
  (ze8:nsIn K mainGlobals "TooManyMatches"=some (some (.ref zdy)))
  (zg8:nsIn K mainGlobals "SameClub"=some (some (.ref zeh)))
  (zgt:nsIn K mainGlobals "NoSuchMatch"=some (some (.ref zd8)))
  (zfw:nsIn K mainGlobals "NoSuchRound"=some (some (.ref zd1)))
  (zgo:nsIn K mainGlobals "RoundOver"=some (some (.ref zec)))
  (zf5:nsIn K mainGlobals "SeasonOver"=some (some (.ref zd7)))
  (zfu:nsIn K mainGlobals "AwayAlready"=some (some (.ref zd4)))
  (zhg:nsIn K mainGlobals "DrawnUp"=some (some (.ref zeo)))
  (zg5:nsIn K mainGlobals "NotDrawn"=some (some (.ref zeg)))
  (zeu:nsIn K mainGlobals "NothingToTakeBack"=some (some (.ref zdw)))
  (zfi:nsIn K mainGlobals "TooManyDeeds"=some (some (.ref zd3)))
  (zhu:nsIn K mainGlobals "Ledger"=some (some (.ref zdr)))
  (zhy:nsIn K mainGlobals "Roster"=some (some (.ref zdt)))
  (ziv:nsIn K mainGlobals "Sheet"=some (some (.ref zdu)))
  (zhs:nsIn K mainGlobals "Season"=some (some (.ref zdp)))
  (zia:plainGet K zdr Str.empty=true)
  (zio:hasDictIn K zdr=true)
  (zif:plainOver K zdr=true)
  (zh5:findIn K (.ref zdr) "__setattr__"=some (some (.builtin "object.__setattr__")))
  (zib:makesIn K zdr=true)
  (zin:keepIn K (.ref zdr)=true)
  (zfd:findIn K (.ref zdr) "rounds"=some none)
  (ze3:findIn K (.ref zdr) "meetings"=some none)
  (zir:plainGet K zdt Str.empty=true)
  (zie:hasDictIn K zdt=true)
  (zij:plainOver K zdt=true)
  (ziq:findIn K (.ref zdt) "__setattr__"=some (some (.builtin "object.__setattr__")))
  (zis:makesIn K zdt=true)
  (zh7:keepIn K (.ref zdt)=true)
  (zet:findIn K (.ref zdt) "entries"=some none)
  (ziw:plainGet K zdu Str.empty=true)
  (zi9:hasDictIn K zdu=true)
  (zi2:plainOver K zdu=true)
  (zja:findIn K (.ref zdu) "__setattr__"=some (some (.builtin "object.__setattr__")))
  (zi1:makesIn K zdu=true)
  (zjb:keepIn K (.ref zdu)=true)
  (zfm:findIn K (.ref zdu) "listed"=some none)
  (zh0:findIn K (.ref zdu) "lists"=some none)
  (zfv:findIn K (.ref zdu) "given"=some none)
  (zhb:findIn K (.ref zdu) "gaps"=some none)
  (zh3:plainGet K zdp Str.empty=true)
  (zh4:hasDictIn K zdp=true)
  (zh9:plainOver K zdp=true)
  (zh8:findIn K (.ref zdp) "__setattr__"=some (some (.builtin "object.__setattr__")))
  (zik:makesIn K zdp=true)
  (zim:keepIn K (.ref zdp)=true)
  (zf8:findIn K (.ref zdp) "length"=some none)
  (zid:findIn K (.ref zdp) "rest"=some none)
  (zex:findIn K (.ref zdp) "roster"=some none)
  (ze4:findIn K (.ref zdp) "ledger"=some none)
  (zfk:findIn K (.ref zdp) "absent"=some none)
  (zgx:findIn K (.ref zdp) "sheets"=some none)
  (zem:findIn K (.ref zdp) "sheet"=some none)
  (zer:findIn K (.ref zdp) "standing"=some none)
  (zgq:excIn K zd1 [.type "ValueError",.type "Exception",.type "BaseException",.type "object"] "ValueError.__new__"=true)
  (zg6:excIn K zd0 [.type "ValueError",.type "Exception",.type "BaseException",.type "object"] "ValueError.__new__"=true)
  (zfq:excIn K zdy [.type "ValueError",.type "Exception",.type "BaseException",.type "object"] "ValueError.__new__"=true)
  (zho:excIn K zeh [.type "ValueError",.type "Exception",.type "BaseException",.type "object"] "ValueError.__new__"=true)
  (zgg:excIn K zd2 [.type "ValueError",.type "Exception",.type "BaseException",.type "object"] "ValueError.__new__"=true)
  (zfj:excIn K zdx [.type "ValueError",.type "Exception",.type "BaseException",.type "object"] "ValueError.__new__"=true)
  (zfo:excIn K zdz [.type "ValueError",.type "Exception",.type "BaseException",.type "object"] "ValueError.__new__"=true)
  (zgz:excIn K zd7 [.type "ValueError",.type "Exception",.type "BaseException",.type "object"] "ValueError.__new__"=true)
  (zii:excIn K zeo [.type "ValueError",.type "Exception",.type "BaseException",.type "object"] "ValueError.__new__"=true)
  (zge:excIn K zd3 [.type "ValueError",.type "Exception",.type "BaseException",.type "object"] "ValueError.__new__"=true)
  (zhm:excIn K zeg [.type "ValueError",.type "Exception",.type "BaseException",.type "object"] "ValueError.__new__"=true)
  (zhd:excIn K zec [.type "ValueError",.type "Exception",.type "BaseException",.type "object"] "ValueError.__new__"=true)
  (zgs:excIn K zd4 [.type "ValueError",.type "Exception",.type "BaseException",.type "object"] "ValueError.__new__"=true)
  (zfc:excIn K zdw [.type "ValueError",.type "Exception",.type "BaseException",.type "object"] "ValueError.__new__"=true)
  (zje:nsIn K mainGlobals "max"=some none)
  (zfz:nsIn K mainGlobals "len"=some none)
  (zh1:nsIn K mainGlobals "tuple"=some none)
  (zfr:nsIn K mainGlobals "list"=some none)
  (zfy:nsIn K mainGlobals "enumerate"=some none)
  (zgn:nsIn K mainGlobals "range"=some none)
  (zjj:nsIn K mainGlobals "zip"=some none)
  (zdv:nsIn K mainGlobals "isinstance"=some none)
  (zix:nsIn K mainGlobals "int"=some none)
  (zi0:nsIn K mainGlobals "bool"=some none)
  (zfb:nsIn K mainGlobals "ValueError"=some none)
  (zg0:typeIn K (.ref zey)=some (.type "type"))
  (zf7:mroIn K zey (.type "BaseException")=some true)
  (ga:∀ r:Ref,r≠.noMatch->findIn K (.ref (r.cls (CA.mk zdp zdu zdt zdr zd0 zd2 zdx zdz zdy zeh zd8 zd1 zec zd7 zd4 zeo zeg zdw zd3))) "__getattribute__"=some (some (.builtin "BaseException.__getattribute__")))
  (gk:∀ r:Ref,r≠.noMatch->findIn K (.ref (r.cls (CA.mk zdp zdu zdt zdr zd0 zd2 zdx zdz zdy zeh zd8 zd1 zec zd7 zd4 zeo zeg zdw zd3))) "__getattr__"=some none)
  (at_:∀ r:Ref,r≠.noMatch->findIn K (.ref (r.cls (CA.mk zdp zdu zdt zdr zd0 zd2 zdx zdz zdy zeh zd8 zd1 zec zd7 zd4 zeo zeg zdw zd3))) "__class__"=some (some (.builtin "object.__class__")))
  (mx:∀ r:Ref,r≠.noMatch->mroIn K (r.cls (CA.mk zdp zdu zdt zdr zd0 zd2 zdx zdz zdy zeh zd8 zd1 zec zd7 zd4 zeo zeg zdw zd3)) (.type "BaseException")=some true)
  (mo:∀ r:Ref,r≠.noMatch->mroIn K (r.cls (CA.mk zdp zdu zdt zdr zd0 zd2 zdx zdz zdy zeh zd8 zd1 zec zd7 zd4 zeo zeg zdw zd3)) (.type "object")=some true)
  (mB:∀ r:Ref,r≠.noMatch->mroIn K (r.cls (CA.mk zdp zdu zdt zdr zd0 zd2 zdx zdz zdy zeh zd8 zd1 zec zd7 zd4 zeo zeg zdw zd3)) (.ref zey)=some true)
  (kit:∀ r t:Ref,r≠.noMatch->kitOne K (.ref (r.cls (CA.mk zdp zdu zdt zdr zd0 zd2 zdx zdz zdy zeh zd8 zd1 zec zd7 zd4 zeo zeg zdw zd3))) (.ref (t.cls (CA.mk zdp zdu zdt zdr zd0 zd2 zdx zdz zdy zeh zd8 zd1 zec zd7 zd4 zeo zeg zdw zd3)))=some (decide (r=t)))
  (zjq:∀ r:Ref,r≠.noMatch->kitOne K (.ref (r.cls (CA.mk zdp zdu zdt zdr zd0 zd2 zdx zdz zdy zeh zd8 zd1 zec zd7 zd4 zeo zeg zdw zd3))) (.type "ValueError")=some true)
  (gt:specialIn K (.builtin "object.__class__") "__get__"=some (some (.builtin "getset_descriptor.__get__")))
  (tk:takesIn K (.builtin "object.__class__")=some true)
  (zfe:nsIn K mainGlobals "MOST_NUMBER"=some (some (.int 999 tk0)))
  (ze7:nsIn K mainGlobals "MOST_GRADE"=some (some (.int 9 tk1)))
  (ze5:nsIn K mainGlobals "MOST_CLUB"=some (some (.int 99 tk2)))
  (zes:nsIn K mainGlobals "MOST_REFEREES"=some (some (.int 30 tk3)))
  (zew:nsIn K mainGlobals "MOST_MATCHES"=some (some (.int 20 tk4)))
  (ze1:nsIn K mainGlobals "MOST_ROUNDS"=some (some (.int 60 tk5)))
  (zfh:nsIn K mainGlobals "MOST_REST"=some (some (.int 10 tk6)))
  (zfa:nsIn K mainGlobals "MOST_DEEDS"=some (some (.int 100 tk7)))
  (b0:NsB K "met_lately" f0)
  (l0:LkF K f0 "met_lately" "met_lately" Vv oc0 kV0 dc0 pm0 cd0 ct0 od0 an0 sl0)
  (c0:codeIn K cd0 "met_lately"=true)
  (k0:keepIn K (.ref f0)=true)
  (b1:NsB K "reasons" f1)
  (l1:LkF K f1 "reasons" "reasons" Sr oc1 kV1 dc1 pm1 cd1 ct1 od1 an1 sl1)
  (c1:codeIn K cd1 "reasons"=true)
  (k1:keepIn K (.ref f1)=true)
  (b2:NsB K "takers" f2)
  (l2:LkF K f2 "takers" "takers" Qg oc2 kV2 dc2 pm2 cd2 ct2 od2 an2 sl2)
  (c2:codeIn K cd2 "takers"=true)
  (k2:keepIn K (.ref f2)=true)
  (b3:FdB K zdr "__init__" f3)
  (i3:isFn K (.ref f3)=true)
  (l3:LkF K f3 "__init__" "Ledger.__init__" Xn oc3 kV3 dc3 pm3 cd3 ct3 od3 an3 sl3)
  (c3:codeIn K cd3 "Ledger.__init__"=true)
  (k3:keepIn K (.ref f3)=true)
  (b4:FdB K zdr "write" f4)
  (i4:isFn K (.ref f4)=true)
  (l4:LkF K f4 "write" "Ledger.write" Wo oc4 kV4 dc4 pm4 cd4 ct4 od4 an4 sl4)
  (c4:codeIn K cd4 "Ledger.write"=true)
  (k4:keepIn K (.ref f4)=true)
  (b5:FdB K zdr "over" f5)
  (i5:isFn K (.ref f5)=true)
  (l5:LkF K f5 "over" "Ledger.over" Va oc5 kV5 dc5 pm5 cd5 ct5 od5 an5 sl5)
  (c5:codeIn K cd5 "Ledger.over"=true)
  (k5:keepIn K (.ref f5)=true)
  (b6:FdB K zdr "facts" f6)
  (i6:isFn K (.ref f6)=true)
  (l6:LkF K f6 "facts" "Ledger.facts" Wq oc6 kV6 dc6 pm6 cd6 ct6 od6 an6 sl6)
  (c6:codeIn K cd6 "Ledger.facts"=true)
  (k6:keepIn K (.ref f6)=true)
  (b7:FdB K zdr "met" f7)
  (i7:isFn K (.ref f7)=true)
  (l7:LkF K f7 "met" "Ledger.met" Vw oc7 kV7 dc7 pm7 cd7 ct7 od7 an7 sl7)
  (c7:codeIn K cd7 "Ledger.met"=true)
  (k7:keepIn K (.ref f7)=true)
  (b8:NsB K "check_range" f8)
  (l8:LkF K f8 "check_range" "check_range" Vb oc8 kV8 dc8 pm8 cd8 ct8 od8 an8 sl8)
  (c8:codeIn K cd8 "check_range"=true)
  (k8:keepIn K (.ref f8)=true)
  (b9:NsB K "check_count" f9)
  (l9:LkF K f9 "check_count" "check_count" Vc oc9 kV9 dc9 pm9 cd9 ct9 od9 an9 sl9)
  (c9:codeIn K cd9 "check_count"=true)
  (k9:keepIn K (.ref f9)=true)
  (b10:NsB K "check_ranges" f10)
  (l10:LkF K f10 "check_ranges" "check_ranges" Wr oc10 kV10 dc10 pm10 cd10 ct10 od10 an10 sl10)
  (c10:codeIn K cd10 "check_ranges"=true)
  (k10:keepIn K (.ref f10)=true)
  (b11:NsB K "check_clubs" f11)
  (l11:LkF K f11 "check_clubs" "check_clubs" Vd oc11 kV11 dc11 pm11 cd11 ct11 od11 an11 sl11)
  (c11:codeIn K cd11 "check_clubs"=true)
  (k11:keepIn K (.ref f11)=true)
  (b12:NsB K "checked" f12)
  (l12:LkF K f12 "checked" "checked" Ss oc12 kV12 dc12 pm12 cd12 ct12 od12 an12 sl12)
  (c12:codeIn K cd12 "checked"=true)
  (k12:keepIn K (.ref f12)=true)
  (b13:FdB K zdt "__init__" f13)
  (i13:isFn K (.ref f13)=true)
  (l13:LkF K f13 "__init__" "Roster.__init__" Xo oc13 kV13 dc13 pm13 cd13 ct13 od13 an13 sl13)
  (c13:codeIn K cd13 "Roster.__init__"=true)
  (k13:keepIn K (.ref f13)=true)
  (b14:FdB K zdt "check_new" f14)
  (i14:isFn K (.ref f14)=true)
  (l14:LkF K f14 "check_new" "Roster.check_new" Xg oc14 kV14 dc14 pm14 cd14 ct14 od14 an14 sl14)
  (c14:codeIn K cd14 "Roster.check_new"=true)
  (k14:keepIn K (.ref f14)=true)
  (b15:FdB K zdt "check_known" f15)
  (i15:isFn K (.ref f15)=true)
  (l15:LkF K f15 "check_known" "Roster.check_known" Y0 oc15 kV15 dc15 pm15 cd15 ct15 od15 an15 sl15)
  (c15:codeIn K cd15 "Roster.check_known"=true)
  (k15:keepIn K (.ref f15)=true)
  (b16:FdB K zdt "add" f16)
  (i16:isFn K (.ref f16)=true)
  (l16:LkF K f16 "add" "Roster.add" Vx oc16 kV16 dc16 pm16 cd16 ct16 od16 an16 sl16)
  (c16:codeIn K cd16 "Roster.add"=true)
  (k16:keepIn K (.ref f16)=true)
  (b17:FdB K zdt "strike" f17)
  (i17:isFn K (.ref f17)=true)
  (l17:LkF K f17 "strike" "Roster.strike" X7 oc17 kV17 dc17 pm17 cd17 ct17 od17 an17 sl17)
  (c17:codeIn K cd17 "Roster.strike"=true)
  (k17:keepIn K (.ref f17)=true)
  (b18:FdB K zdt "numbers" f18)
  (i18:isFn K (.ref f18)=true)
  (l18:LkF K f18 "numbers" "Roster.numbers" Xx oc18 kV18 dc18 pm18 cd18 ct18 od18 an18 sl18)
  (c18:codeIn K cd18 "Roster.numbers"=true)
  (k18:keepIn K (.ref f18)=true)
  (b19:FdB K zdt "entry" f19)
  (i19:isFn K (.ref f19)=true)
  (l19:LkF K f19 "entry" "Roster.entry" Wt oc19 kV19 dc19 pm19 cd19 ct19 od19 an19 sl19)
  (c19:codeIn K cd19 "Roster.entry"=true)
  (k19:keepIn K (.ref f19)=true)
  (b20:FdB K zdt "person" f20)
  (i20:isFn K (.ref f20)=true)
  (l20:LkF K f20 "person" "Roster.person" X8 oc20 kV20 dc20 pm20 cd20 ct20 od20 an20 sl20)
  (c20:codeIn K cd20 "Roster.person"=true)
  (k20:keepIn K (.ref f20)=true)
  (b21:NsB K "places_taken" f21)
  (l21:LkF K f21 "places_taken" "places_taken" Wu oc21 kV21 dc21 pm21 cd21 ct21 od21 an21 sl21)
  (c21:codeIn K cd21 "places_taken"=true)
  (k21:keepIn K (.ref f21)=true)
  (b22:NsB K "steps_into" f22)
  (l22:LkF K f22 "steps_into" "steps_into" Vy oc22 kV22 dc22 pm22 cd22 ct22 od22 an22 sl22)
  (c22:codeIn K cd22 "steps_into"=true)
  (k22:keepIn K (.ref f22)=true)
  (b23:NsB K "free_referee" f23)
  (l23:LkF K f23 "free_referee" "free_referee" Wv oc23 kV23 dc23 pm23 cd23 ct23 od23 an23 sl23)
  (c23:codeIn K cd23 "free_referee"=true)
  (k23:keepIn K (.ref f23)=true)
  (b24:NsB K "traced" f24)
  (l24:LkF K f24 "traced" "traced" Qh oc24 kV24 dc24 pm24 cd24 ct24 od24 an24 sl24)
  (c24:codeIn K cd24 "traced"=true)
  (k24:keepIn K (.ref f24)=true)
  (b25:NsB K "chain" f25)
  (l25:LkF K f25 "chain" "chain" Oo oc25 kV25 dc25 pm25 cd25 ct25 od25 an25 sl25)
  (c25:codeIn K cd25 "chain"=true)
  (k25:keepIn K (.ref f25)=true)
  (b26:NsB K "stepped" f26)
  (l26:LkF K f26 "stepped" "stepped" Sv oc26 kV26 dc26 pm26 cd26 ct26 od26 an26 sl26)
  (c26:codeIn K cd26 "stepped"=true)
  (k26:keepIn K (.ref f26)=true)
  (b27:NsB K "fill" f27)
  (l27:LkF K f27 "fill" "fill" Kj oc27 kV27 dc27 pm27 cd27 ct27 od27 an27 sl27)
  (c27:codeIn K cd27 "fill"=true)
  (k27:keepIn K (.ref f27)=true)
  (b28:NsB K "place_of" f28)
  (l28:LkF K f28 "place_of" "place_of" Tg oc28 kV28 dc28 pm28 cd28 ct28 od28 an28 sl28)
  (c28:codeIn K cd28 "place_of"=true)
  (k28:keepIn K (.ref f28)=true)
  (b29:FdB K zdu "__init__" f29)
  (i29:isFn K (.ref f29)=true)
  (l29:LkF K f29 "__init__" "Sheet.__init__" Xy oc29 kV29 dc29 pm29 cd29 ct29 od29 an29 sl29)
  (c29:codeIn K cd29 "Sheet.__init__"=true)
  (k29:keepIn K (.ref f29)=true)
  (b30:FdB K zdu "barred" f30)
  (i30:isFn K (.ref f30)=true)
  (l30:LkF K f30 "barred" "Sheet.barred" Ww oc30 kV30 dc30 pm30 cd30 ct30 od30 an30 sl30)
  (c30:codeIn K cd30 "Sheet.barred"=true)
  (k30:keepIn K (.ref f30)=true)
  (b31:FdB K zdu "fallen_out" f31)
  (i31:isFn K (.ref f31)=true)
  (l31:LkF K f31 "fallen_out" "Sheet.fallen_out" Xh oc31 kV31 dc31 pm31 cd31 ct31 od31 an31 sl31)
  (c31:codeIn K cd31 "Sheet.fallen_out"=true)
  (k31:keepIn K (.ref f31)=true)
  (b32:FdB K zdu "matches" f32)
  (i32:isFn K (.ref f32)=true)
  (l32:LkF K f32 "matches" "Sheet.matches" Wa oc32 kV32 dc32 pm32 cd32 ct32 od32 an32 sl32)
  (c32:codeIn K cd32 "Sheet.matches"=true)
  (k32:keepIn K (.ref f32)=true)
  (b33:FdB K zdu "goes" f33)
  (i33:isFn K (.ref f33)=true)
  (l33:LkF K f33 "goes" "Sheet.goes" Vz oc33 kV33 dc33 pm33 cd33 ct33 od33 an33 sl33)
  (c33:codeIn K cd33 "Sheet.goes"=true)
  (k33:keepIn K (.ref f33)=true)
  (b34:FdB K zdu "where" f34)
  (i34:isFn K (.ref f34)=true)
  (l34:LkF K f34 "where" "Sheet.where" Ve oc34 kV34 dc34 pm34 cd34 ct34 od34 an34 sl34)
  (c34:codeIn K cd34 "Sheet.where"=true)
  (k34:keepIn K (.ref f34)=true)
  (b35:FdB K zdu "chains" f35)
  (i35:isFn K (.ref f35)=true)
  (l35:LkF K f35 "chains" "Sheet.chains" Wx oc35 kV35 dc35 pm35 cd35 ct35 od35 an35 sl35)
  (c35:codeIn K cd35 "Sheet.chains"=true)
  (k35:keepIn K (.ref f35)=true)
  (b36:FdB K zdu "rows" f36)
  (i36:isFn K (.ref f36)=true)
  (l36:LkF K f36 "rows" "Sheet.rows" V0 oc36 kV36 dc36 pm36 cd36 ct36 od36 an36 sl36)
  (c36:codeIn K cd36 "Sheet.rows"=true)
  (k36:keepIn K (.ref f36)=true)
  (b37:NsB K "drawn_sheet" f37)
  (l37:LkF K f37 "drawn_sheet" "drawn_sheet" Vf oc37 kV37 dc37 pm37 cd37 ct37 od37 an37 sl37)
  (c37:codeIn K cd37 "drawn_sheet"=true)
  (k37:keepIn K (.ref f37)=true)
  (b38:FdB K zdp "__init__" f38)
  (i38:isFn K (.ref f38)=true)
  (l38:LkF K f38 "__init__" "Season.__init__" Xp oc38 kV38 dc38 pm38 cd38 ct38 od38 an38 sl38)
  (c38:codeIn K cd38 "Season.__init__"=true)
  (k38:keepIn K (.ref f38)=true)
  (b39:FdB K zdp "check_not_over" f39)
  (i39:isFn K (.ref f39)=true)
  (l39:LkF K f39 "check_not_over" "Season.check_not_over" Yk oc39 kV39 dc39 pm39 cd39 ct39 od39 an39 sl39)
  (c39:codeIn K cd39 "Season.check_not_over"=true)
  (k39:keepIn K (.ref f39)=true)
  (b40:FdB K zdp "check_undrawn" f40)
  (i40:isFn K (.ref f40)=true)
  (l40:LkF K f40 "check_undrawn" "Season.check_undrawn" Yr oc40 kV40 dc40 pm40 cd40 ct40 od40 an40 sl40)
  (c40:codeIn K cd40 "Season.check_undrawn"=true)
  (k40:keepIn K (.ref f40)=true)
  (b41:FdB K zdp "check_round" f41)
  (i41:isFn K (.ref f41)=true)
  (l41:LkF K f41 "check_round" "Season.check_round" Y1 oc41 kV41 dc41 pm41 cd41 ct41 od41 an41 sl41)
  (c41:codeIn K cd41 "Season.check_round"=true)
  (k41:keepIn K (.ref f41)=true)
  (b42:FdB K zdp "check_room" f42)
  (i42:isFn K (.ref f42)=true)
  (l42:LkF K f42 "check_room" "Season.check_room" Y9 oc42 kV42 dc42 pm42 cd42 ct42 od42 an42 sl42)
  (c42:codeIn K cd42 "Season.check_room"=true)
  (k42:keepIn K (.ref f42)=true)
  (b43:FdB K zdp "note" f43)
  (i43:isFn K (.ref f43)=true)
  (l43:LkF K f43 "note" "Season.note" Vg oc43 kV43 dc43 pm43 cd43 ct43 od43 an43 sl43)
  (c43:codeIn K cd43 "Season.note"=true)
  (k43:keepIn K (.ref f43)=true)
  (b44:FdB K zdp "sheet_at_hand" f44)
  (i44:isFn K (.ref f44)=true)
  (l44:LkF K f44 "sheet_at_hand" "Season.sheet_at_hand" Ys oc44 kV44 dc44 pm44 cd44 ct44 od44 an44 sl44)
  (c44:codeIn K cd44 "Season.sheet_at_hand"=true)
  (k44:keepIn K (.ref f44)=true)
  (b45:FdB K zdp "takers_of" f45)
  (i45:isFn K (.ref f45)=true)
  (l45:LkF K f45 "takers_of" "Season.takers_of" Xi oc45 kV45 dc45 pm45 cd45 ct45 od45 an45 sl45)
  (c45:codeIn K cd45 "Season.takers_of"=true)
  (k45:keepIn K (.ref f45)=true)
  (b46:FdB K zdp "enrol" f46)
  (i46:isFn K (.ref f46)=true)
  (l46:LkF K f46 "enrol" "Season.enrol" Wy oc46 kV46 dc46 pm46 cd46 ct46 od46 an46 sl46)
  (c46:codeIn K cd46 "Season.enrol"=true)
  (k46:keepIn K (.ref f46)=true)
  (b47:FdB K zdp "draw_up" f47)
  (i47:isFn K (.ref f47)=true)
  (l47:LkF K f47 "draw_up" "Season.draw_up" Xz oc47 kV47 dc47 pm47 cd47 ct47 od47 an47 sl47)
  (c47:codeIn K cd47 "Season.draw_up"=true)
  (k47:keepIn K (.ref f47)=true)
  (b48:FdB K zdp "away" f48)
  (i48:isFn K (.ref f48)=true)
  (l48:LkF K f48 "away" "Season.away" Vh oc48 kV48 dc48 pm48 cd48 ct48 od48 an48 sl48)
  (c48:codeIn K cd48 "Season.away"=true)
  (k48:keepIn K (.ref f48)=true)
  (b49:FdB K zdp "step_in" f49)
  (i49:isFn K (.ref f49)=true)
  (l49:LkF K f49 "step_in" "Season.step_in" X0 oc49 kV49 dc49 pm49 cd49 ct49 od49 an49 sl49)
  (c49:codeIn K cd49 "Season.step_in"=true)
  (k49:keepIn K (.ref f49)=true)
  (b50:FdB K zdp "close" f50)
  (i50:isFn K (.ref f50)=true)
  (l50:LkF K f50 "close" "Season.close" W0 oc50 kV50 dc50 pm50 cd50 ct50 od50 an50 sl50)
  (c50:codeIn K cd50 "Season.close"=true)
  (k50:keepIn K (.ref f50)=true)
  (b51:FdB K zdp "take_back" f51)
  (i51:isFn K (.ref f51)=true)
  (l51:LkF K f51 "take_back" "Season.take_back" Xj oc51 kV51 dc51 pm51 cd51 ct51 od51 an51 sl51)
  (c51:codeIn K cd51 "Season.take_back"=true)
  (k51:keepIn K (.ref f51)=true)
  (b52:FdB K zdp "at_hand" f52)
  (i52:isFn K (.ref f52)=true)
  (l52:LkF K f52 "at_hand" "Season.at_hand" X1 oc52 kV52 dc52 pm52 cd52 ct52 od52 an52 sl52)
  (c52:codeIn K cd52 "Season.at_hand"=true)
  (k52:keepIn K (.ref f52)=true)
  (b53:FdB K zdp "deeds" f53)
  (i53:isFn K (.ref f53)=true)
  (l53:LkF K f53 "deeds" "Season.deeds" W2 oc53 kV53 dc53 pm53 cd53 ct53 od53 an53 sl53)
  (c53:codeIn K cd53 "Season.deeds"=true)
  (k53:keepIn K (.ref f53)=true)
  (b54:FdB K zdp "referees" f54)
  (i54:isFn K (.ref f54)=true)
  (l54:LkF K f54 "referees" "Season.referees" Xq oc54 kV54 dc54 pm54 cd54 ct54 od54 an54 sl54)
  (c54:codeIn K cd54 "Season.referees"=true)
  (k54:keepIn K (.ref f54)=true)
  (b55:FdB K zdp "facts" f55)
  (i55:isFn K (.ref f55)=true)
  (l55:LkF K f55 "facts" "Season.facts" W3 oc55 kV55 dc55 pm55 cd55 ct55 od55 an55 sl55)
  (c55:codeIn K cd55 "Season.facts"=true)
  (k55:keepIn K (.ref f55)=true)
  (b56:NsB K "_law_whole" f56)
  (l56:LkF K f56 "_law_whole" "_law_whole" Uk oc56 kV56 dc56 pm56 cd56 ct56 od56 an56 sl56)
  (c56:codeIn K cd56 "_law_whole"=true)
  (k56:keepIn K (.ref f56)=true)
  (b57:NsB K "_law_at" f57)
  (l57:LkF K f57 "_law_at" "_law_at" Qo oc57 kV57 dc57 pm57 cd57 ct57 od57 an57 sl57)
  (c57:codeIn K cd57 "_law_at"=true)
  (k57:keepIn K (.ref f57)=true)
  (b58:NsB K "_law_one_is" f58)
  (l58:LkF K f58 "_law_one_is" "_law_one_is" V1 oc58 kV58 dc58 pm58 cd58 ct58 od58 an58 sl58)
  (c58:codeIn K cd58 "_law_one_is"=true)
  (k58:keepIn K (.ref f58)=true)
  (b59:NsB K "_law_list_is" f59)
  (l59:LkF K f59 "_law_list_is" "_law_list_is" Vi oc59 kV59 dc59 pm59 cd59 ct59 od59 an59 sl59)
  (c59:codeIn K cd59 "_law_list_is"=true)
  (k59:keepIn K (.ref f59)=true)
  (b60:NsB K "_law_do" f60)
  (l60:LkF K f60 "_law_do" "_law_do" Qp oc60 kV60 dc60 pm60 cd60 ct60 od60 an60 sl60)
  (c60:codeIn K cd60 "_law_do"=true)
  (k60:keepIn K (.ref f60)=true)
  (b61:NsB K "_law_done" f61)
  (l61:LkF K f61 "_law_done" "_law_done" Th oc61 kV61 dc61 pm61 cd61 ct61 od61 an61 sl61)
  (c61:codeIn K cd61 "_law_done"=true)
  (k61:keepIn K (.ref f61)=true)
  (b62:NsB K "_law_made" f62)
  (l62:LkF K f62 "_law_made" "_law_made" Ti oc62 kV62 dc62 pm62 cd62 ct62 od62 an62 sl62)
  (c62:codeIn K cd62 "_law_made"=true)
  (k62:keepIn K (.ref f62)=true)
  (b63:NsB K "_law_begun" f63)
  (l63:LkF K f63 "_law_begun" "_law_begun" Ul oc63 kV63 dc63 pm63 cd63 ct63 od63 an63 sl63)
  (c63:codeIn K cd63 "_law_begun"=true)
  (k63:keepIn K (.ref f63)=true)
  (b64:NsB K "_law_due" f64)
  (l64:LkF K f64 "_law_due" "_law_due" Sw oc64 kV64 dc64 pm64 cd64 ct64 od64 an64 sl64)
  (c64:codeIn K cd64 "_law_due"=true)
  (k64:keepIn K (.ref f64)=true)
  (b65:NsB K "law" f65)
  (l65:LkF K f65 "law" "law" N6 oc65 kV65 dc65 pm65 cd65 ct65 od65 an65 sl65)
  (c65:codeIn K cd65 "law"=true)
  (k65:keepIn K (.ref f65)=true)
  : ∃ fd:FuncData,(∀ (s:Shared) (v:Value),BindsTo s fd ⟨[v],[]⟩ [("_law_script",v)])/\∀ base:Heap,K.In base->base.Ns mainGlobals mg->FnOk l.prog w K mg base (CX1 l.prog w) 10 fa fd ["_law_script"] (Gn K):=by
 have e:=hfa.symm.trans (mg_of X G b65);cases e
 let a:Ad:=⟨zey,zd0,zd2,zdx,zdz,zdy,zeh,zd8,zd1,zec,zd7,zd4,zeo,zeg,zdw,zd3,zdr,zdt,zdu,zdp⟩
 have T:Tx K mg a:=⟨⟨zia,zio,zif,zh5⟩,
  zfd,
  ze3,
  ⟨zir,zie,zij,ziq⟩,
  zet,
  ⟨ziw,zi9,zi2,zja⟩,
  zfm,
  zh0,
  zfv,
  zhb,
  ⟨zh3,zh4,zh9,zh8⟩,
  zf8,
  zid,
  zex,
  ze4,
  zfk,
  zgx,
  zem,
  zer,
  ⟨mg_of X G zfw,zgq⟩,
  ⟨mg_of X G zf3,zg6⟩,
  ⟨mg_of X G ze8,zfq⟩,
  ⟨mg_of X G zg8,zho⟩,
  ⟨mg_of X G zfl,zgg⟩,
  ⟨mg_of X G ze2,zfj⟩,
  ⟨mg_of X G ze9,zfo⟩,
  ⟨mg_of X G zf5,zgz⟩,
  ⟨mg_of X G zhg,zii⟩,
  ⟨mg_of X G zfi,zge⟩,
  ⟨mg_of X G zg5,zhm⟩,
  ⟨mg_of X G zgo,zhd⟩,
  ⟨mg_of X G zfu,zgs⟩,
  ⟨mg_of X G zeu,zfc⟩,
  mg_none_of X G zje,
  mg_none_of X G zfz,
  mg_none_of X G zh1,
  mg_none_of X G zfr,
  mg_none_of X G zfy,
  mg_none_of X G zgn,
  mg_none_of X G zjj,
  mg_none_of X G zdv,
  mg_none_of X G zix,
  mg_none_of X G zi0,
  mg_none_of X G zfb,
  mg_of X G zhf,
  mg_of X G zf3,
  mg_of X G zfl,
  mg_of X G ze2,
  mg_of X G ze9,
  mg_of X G ze8,
  mg_of X G zg8,
  mg_of X G zgt,
  mg_of X G zfw,
  mg_of X G zgo,
  mg_of X G zf5,
  mg_of X G zfu,
  mg_of X G zhg,
  mg_of X G zg5,
  mg_of X G zeu,
  mg_of X G zfi,
  mg_of X G zhu,
  mg_of X G zhy,
  mg_of X G ziv,
  mg_of X G zhs,
  ⟨zg0,O6 zf7,zf7⟩,
  fun r h=>⟨ga r h,gk r h,O6 (mo r h),at_ r h,gt,tk,mo r h,mx r h⟩,
  mB,
  kit,
  zjq,
  ⟨_,mg_of X G zfe⟩,
  ⟨_,mg_of X G ze7⟩,
  ⟨_,mg_of X G ze5⟩,
  ⟨_,mg_of X G zes⟩,
  ⟨_,mg_of X G zew⟩,
  ⟨_,mg_of X G ze1⟩,
  ⟨_,mg_of X G zfh⟩,
  ⟨_,mg_of X G zfa⟩⟩
 have F0:=Zo (st:=Vv) l0 c0 k0;have F1:=Zo (st:=Sr) l1 c1 k1;have F2:=Zo (st:=Qg) l2 c2 k2;have F3:=Zo (st:=Xn) l3 c3 k3;have F4:=Zo (st:=Wo) l4 c4 k4;have F5:=Zo (st:=Va) l5 c5 k5;have F6:=Zo (st:=Wq) l6 c6 k6;have F7:=Zo (st:=Vw) l7 c7 k7;have F8:=Zo (st:=Vb) l8 c8 k8;have F9:=Zo (st:=Vc) l9 c9 k9;have F10:=Zo (st:=Wr) l10 c10 k10;have F11:=Zo (st:=Vd) l11 c11 k11;have F12:=Zo (st:=Ss) l12 c12 k12;have F13:=Zo (st:=Xo) l13 c13 k13;have F14:=Zo (st:=Xg) l14 c14 k14;have F15:=Zo (st:=Y0) l15 c15 k15;have F16:=Zo (st:=Vx) l16 c16 k16;have F17:=Zo (st:=X7) l17 c17 k17;have F18:=Zo (st:=Xx) l18 c18 k18;have F19:=Zo (st:=Wt) l19 c19 k19;have F20:=Zo (st:=X8) l20 c20 k20;have F21:=Zo (st:=Wu) l21 c21 k21;have F22:=Zo (st:=Vy) l22 c22 k22;have F23:=Zo (st:=Wv) l23 c23 k23;have F24:=Zo (st:=Qh) l24 c24 k24;have F25:=Zo (st:=Oo) l25 c25 k25;have F26:=Zo (st:=Sv) l26 c26 k26;have F27:=Zo (st:=Kj) l27 c27 k27;have F28:=Zo (st:=Tg) l28 c28 k28;have F29:=Zo (st:=Xy) l29 c29 k29;have F30:=Zo (st:=Ww) l30 c30 k30;have F31:=Zo (st:=Xh) l31 c31 k31;have F32:=Zo (st:=Wa) l32 c32 k32;have F33:=Zo (st:=Vz) l33 c33 k33;have F34:=Zo (st:=Ve) l34 c34 k34;have F35:=Zo (st:=Wx) l35 c35 k35;have F36:=Zo (st:=V0) l36 c36 k36;have F37:=Zo (st:=Vf) l37 c37 k37;have F38:=Zo (st:=Xp) l38 c38 k38;have F39:=Zo (st:=Yk) l39 c39 k39;have F40:=Zo (st:=Yr) l40 c40 k40;have F41:=Zo (st:=Y1) l41 c41 k41;have F42:=Zo (st:=Y9) l42 c42 k42;have F43:=Zo (st:=Vg) l43 c43 k43;have F44:=Zo (st:=Ys) l44 c44 k44;have F45:=Zo (st:=Xi) l45 c45 k45;have F46:=Zo (st:=Wy) l46 c46 k46;have F47:=Zo (st:=Xz) l47 c47 k47;have F48:=Zo (st:=Vh) l48 c48 k48;have F49:=Zo (st:=X0) l49 c49 k49;have F50:=Zo (st:=W0) l50 c50 k50;have F51:=Zo (st:=Xj) l51 c51 k51;have F52:=Zo (st:=X1) l52 c52 k52;have F53:=Zo (st:=W2) l53 c53 k53;have F54:=Zo (st:=Xq) l54 c54 k54;have F55:=Zo (st:=W3) l55 c55 k55;have F56:=Zo (st:=Uk) l56 c56 k56;have F57:=Zo (st:=Qo) l57 c57 k57;have F58:=Zo (st:=V1) l58 c58 k58;have F59:=Zo (st:=Vi) l59 c59 k59;have F60:=Zo (st:=Qp) l60 c60 k60;have F61:=Zo (st:=Th) l61 c61 k61;have F62:=Zo (st:=Ti) l62 c62 k62;have F63:=Zo (st:=Ul) l63 c63 k63;have F64:=Zo (st:=Sw) l64 c64 k64;have F65:=Zo (st:=N6) l65 c65 k65;refine⟨fnOf "law" "law" (Ug N6) (Vr N6) (Zj N6) .none kV65 dc65 pm65 an65 cd65 ct65,fun s v=>.of_eq rfl,fun base _ _=>?_⟩;have ziy:=nMk (C:=a.zdr) l.prog w base F3 (Ru F3 T ) ⟨zib,b3,i3,zin⟩ (mg_of X G zhu);have zgb:=mMk (C:=a.zdr) l.prog w base F4 (Pu F4 T ) ⟨b4,i4,k4⟩;have zea:=mMk (C:=a.zdr) l.prog w base F5 (Nq F5 T ) ⟨b5,i5,k5⟩;have zgd:=mMk (C:=a.zdr) l.prog w base F6 (Px F6 T ) ⟨b6,i6,k6⟩;have zg7:=mMk (C:=a.zdr) l.prog w base F7 (Mf F7 T ) ⟨b7,i7,k7⟩;have zd6:=dMk l.prog w base F8 (Nt F8 T ) (mg_of X G b8);have zgv:=dMk l.prog w base F9 (Nu F9 T ) (mg_of X G b9);have zgp:=dMk l.prog w base F11 (Nv F11 T ) (mg_of X G b11);have zi4:=nMk (C:=a.zdt) l.prog w base F13 (Rw F13 T ) ⟨zis,b13,i13,zh7⟩ (mg_of X G zhy);have zed:=mMk (C:=a.zdt) l.prog w base F15 (Tq F15 T ) ⟨b15,i15,k15⟩;have zf0:=mMk (C:=a.zdt) l.prog w base F17 (Q8 F17 T ) ⟨b17,i17,k17⟩;have zei:=mMk (C:=a.zdt) l.prog w base F18 (Qf F18 T ) ⟨b18,i18,k18⟩;have zgl:=dMk l.prog w base F21 (P1 F21 T ) (mg_of X G b21);have zg4:=dMk l.prog w base F22 (Mi F22 T ) (mg_of X G b22);have zgf:=dMk l.prog w base F23 (P2 F23 T ) (mg_of X G b23);have zh2:=dMk l.prog w base F24 (Er F24 T ) (mg_of X G b24);have zfs:=dMk l.prog w base F26 (Hn F26 T ) (mg_of X G b26);have zhp:=dMk l.prog w base F28 (Jy F28 T ) (mg_of X G b28);have zf6:=nMk (C:=a.zdu) l.prog w base F29 (Qj F29 T ) ⟨zi1,b29,i29,zjb⟩ (mg_of X G ziv);have zf2:=mMk (C:=a.zdu) l.prog w base F32 (Pc F32 T ) ⟨b32,i32,k32⟩;have zg2:=mMk (C:=a.zdu) l.prog w base F33 (Ml F33 T ) ⟨b33,i33,k33⟩;have zgh:=mMk (C:=a.zdu) l.prog w base F35 (P7 F35 T ) ⟨b35,i35,k35⟩;have zg3:=mMk (C:=a.zdu) l.prog w base F36 (Mn F36 T ) ⟨b36,i36,k36⟩;have ze6:=mMk (C:=a.zdp) l.prog w base F41 (Ts F41 T ) ⟨b41,i41,k41⟩;have zd5:=mMk (C:=a.zdp) l.prog w base F42 (Sf F42 T ) ⟨b42,i42,k42⟩;have zel:=mMk (C:=a.zdp) l.prog w base F43 (N2 F43 T ) ⟨b43,i43,k43⟩;have zez:=mMk (C:=a.zdp) l.prog w base F44 (U6 F44 T ) ⟨b44,i44,k44⟩;have zgk:=mMk (C:=a.zdp) l.prog w base F53 (Oc F53 T ) ⟨b53,i53,k53⟩;have zhc:=dMk l.prog w base F56 (Kl F56 T ) (mg_of X G b56);have zfx:=dMk l.prog w base F57 (Et F57 T ) (mg_of X G b57);have zig:=dMk l.prog w base F64 (Hq F64 T ) (mg_of X G b64);have zf4:=dMk l.prog w base F0 (Md F0 T zea zg7) (mg_of X G b0);have zgc:=dMk l.prog w base F10 (Py F10 T zd6) (mg_of X G b10);have zek:=mMk (C:=a.zdt) l.prog w base F14 (Sy F14 T zd6) ⟨b14,i14,k14⟩;have zgi:=mMk (C:=a.zdt) l.prog w base F19 (P0 F19 T zed) ⟨b19,i19,k19⟩;have zhh:=dMk l.prog w base F25 (C7 F25 T zgl zg4 zgf zh2) (mg_of X G b25);have ze0:=mMk (C:=a.zdu) l.prog w base F34 (Ny F34 T zhp) ⟨b34,i34,k34⟩;have zfg:=mMk (C:=a.zdp) l.prog w base F51 (S3 F51 T zf0) ⟨b51,i51,k51⟩;have zds:=mMk (C:=a.zdp) l.prog w base F52 (Qn F52 T zea) ⟨b52,i52,k52⟩;have zfn:=mMk (C:=a.zdp) l.prog w base F54 (R0 F54 T zei) ⟨b54,i54,k54⟩;have zep:=dMk l.prog w base F58 (Mp F58 T zhc) (mg_of X G b58);have zic:=dMk l.prog w base F1 (Hk F1 T zf4) (mg_of X G b1);have zh6:=dMk l.prog w base F12 (Hm F12 T zgv zgc zgp) (mg_of X G b12);have zgy:=mMk (C:=a.zdt) l.prog w base F16 (Mh F16 T zek) ⟨b16,i16,k16⟩;have zf1:=mMk (C:=a.zdt) l.prog w base F20 (Pa F20 T zgi) ⟨b20,i20,k20⟩;have zjn:=dMk l.prog w base F27 (Aa F27 T zfs zhh) (mg_of X G b27);have zgj:=mMk (C:=a.zdu) l.prog w base F30 (P5 F30 T zf6) ⟨b30,i30,k30⟩;have zff:=mMk (C:=a.zdu) l.prog w base F31 (Sz F31 T ze0 zfs zhh zf6) ⟨b31,i31,k31⟩;have zgw:=nMk (C:=a.zdp) l.prog w base F38 (Ry F38 T zd6 zi4 ziy) ⟨zik,b38,i38,zim⟩ (mg_of X G zhs);have zd9:=mMk (C:=a.zdp) l.prog w base F39 (Uq F39 T zds) ⟨b39,i39,k39⟩;have zf9:=mMk (C:=a.zdp) l.prog w base F55 (Oe F55 T zds zgd) ⟨b55,i55,k55⟩;have zeq:=dMk l.prog w base F59 (N5 F59 T zep) (mg_of X G b59);have zi3:=dMk l.prog w base F2 (Ep F2 T zic) (mg_of X G b2);have zgr:=dMk l.prog w base F37 (N0 F37 T zf6 zjn) (mg_of X G b37);have zeb:=mMk (C:=a.zdp) l.prog w base F40 (U4 F40 T zd9) ⟨b40,i40,k40⟩;have zgm:=mMk (C:=a.zdp) l.prog w base F50 (Oa F50 T zd9 zez zgb zg3 zea) ⟨b50,i50,k50⟩;have zhe:=dMk l.prog w base F63 (Kn F63 T zep zds zeq zfn zgk zf9) (mg_of X G b63);have zej:=mMk (C:=a.zdp) l.prog w base F45 (S1 F45 T zei zf1 zds zi3) ⟨b45,i45,k45⟩;have zga:=mMk (C:=a.zdp) l.prog w base F46 (P9 F46 T zeb zek zd5 zel zds zgy) ⟨b46,i46,k46⟩;have zg1:=dMk l.prog w base F62 (J0 F62 T zgw) (mg_of X G b62);have zfp:=mMk (C:=a.zdp) l.prog w base F47 (Qk F47 T zeb zh6 zd5 zel zds zgr zej zg2) ⟨b47,i47,k47⟩;have zft:=mMk (C:=a.zdp) l.prog w base F49 (Ql F49 T zej zf2 ze0 zgj zff zgh) ⟨b49,i49,k49⟩;have zgu:=mMk (C:=a.zdp) l.prog w base F48 (N4 F48 T ze6 zea zed zd5 zel zds zft) ⟨b48,i48,k48⟩;have zjc:=dMk l.prog w base F60 (Ew F60 T zga zgu zfp zgm zfg) (mg_of X G b60);have zhq:=dMk l.prog w base F61 (Jz F61 T zjc) (mg_of X G b61);exact zbf F65 T zfx zeq zg1 zgw zhe zig zhq zep zds
theorem walk{l:OpenLaw}{q:Program}{loose:List Str}{XP:(Str->Option Value)->Heap->Prop}{YP:World->Heap->Prop}{d:DefRec}{K:Params->Frag}(hn:l.most=some 63)(hdf:d.params.defaults=[])
  (hY:∀ (w:World) (h:Heap),YP w h->(K w.params).In h)
  (F:∀ (w:World) (mg:Str->Option Value) (fa:Addr) (h:Heap),(K w.params).In h->h.Ns mainGlobals mg->mg d.name=some (.ref fa) ->
   ∃ fd:FuncData,(∀ (s:Shared) (u:Value),BindsTo s fd ⟨[u],[]⟩ [("_law_script",u)])/\∀ base:Heap,(K w.params).In base->base.Ns mainGlobals mg->FnOk l.prog w (K w.params) mg base (CX1 l.prog w) 10 fa fd ["_law_script"] (Gn (K w.params))) :
  WalkO q loose XP YP l.row.toRowW d [] (fun f vs=>PySem.call f vs) :=
 L2.Bu (n:=63) (k:=10) (x:="_law_script") (CX:=fun w=>CX1 l.prog w) (sp:=fun w=>Gn (K w.params)) hn ⋯ hdf ⟨rfl,by decide,by decide⟩ hY F (fun _ _ a ns hl _ hS=>⟨a,ns,rfl,hS,hl,fun _=>rfl⟩) fun _ _ _ _ _ z=>by obtain⟨_,_,_,_,_,_,_,_,_,_,z⟩:=z;exact z
end K21
open PySem PySem.W PyProof.Rows
namespace PySem.W.Fast
def tw14085399831710726959:=Nat
def tw2480982372375559105:=Nat
def tw17735069383825022024:=Nat
def tw14656539072289721015:=Nat
def tw5993832015276598712:=Nat
def tw317505563960500031:=Nat
def tw4143819135266357543:=Nat
def tw7700860920166529094:=Nat
def tw13182763416486939149:=Nat
def tw909693633013752786:=Nat
def tw7185292901433027954:=Nat
def tw10429995741505822068:=Nat
def tw12411165895371228414:=Nat
def tw2825709293757050560:=Nat
def tw3582469744041008583:=Nat
def tw8342949578580512796:=Nat
def tw8604366912559264701:=Nat
def tw826116911655626292:=Nat
def tw16436506375872543749:=Nat
def tw9032355602625572132:=Nat
def tw16343226614055989301:=Nat
def tw8936650247033900169:=Nat
def tw1235951609556609590:=Nat
def tw12835339309750232596:=Nat
def tw2372658975216481508:=Nat
def tw9934688094928599525:=Nat
def tw14166863185819217690:=Nat
def tw7919111069941513508:=Nat
def tw15075635358891885492:=Nat
def tw12032180272886419557:=Nat
def tw14136216978895078322:=Nat
def tw8190561942653121229:=Nat
def tw7205769152094539589:=Nat
def tw287894014411027678:=Nat
def tw10812353340766427147:=Nat
def tw17514793084733538031:=Nat
def tw7124510706305135201:=Nat
def tw11459157737127793801:=Nat
def tw1277033067615775465:=Nat
def tw4295580448216186719:=Nat
def tw6927791179966070457:=Nat
def tw18318883650405110418:=Nat
def tw10778140217946404512:=Nat
def tw16536653892907126612:=Nat
def tw7506168890972080246:=Nat
def tw8632338624015756634:=Nat
def tw170015627350823937:=Nat
def tw2548993084245168481:=Nat
def tw8485985734443930703:=Nat
def tw2139592460323667605:=Nat
def tw9557790065571933566:=Nat
def tw7024404256955309025:=Nat
def tw15015417164104985082:=Nat
def tw7076500280720709316:=Nat
def tw2926931121317277620:=Nat
def tw10652097405028477341:=Nat
def tw3200015283044488085:=Nat
def tw8339211573301161180:=Nat
def tw968900054715763234:=Nat
def tw11075665905737338923:=Nat
def tw2742534142654085100:=Nat
def tw6433541726097656779:=Nat
def tw16380790782799148585:=Nat
def tw8547321506362232757:=Nat
def tw4801066462001520066:=Nat
def tw18093540455735160201:=Nat
def tw436307888635804397:=Nat
def tw484052217750569754:=Nat
def tw13520328727413260597:=Nat
def tw4351321370800583454:=Nat
def tw17083243137927770611:=Nat
def tw3159427695755141293:=Nat
def tw15758197939946600538:=Nat
def tw3330324732170107026:=Nat
def tw414181166655219400:=Nat
def tw16663393909494295263:=Nat
def tw3269241672815125482:=Nat
def tw11960632508765859066:=Nat
def tw16827192734984817955:=Nat
def tw8259631101818501162:=Nat
def tw2279195063906548694:=Nat
def tw9774691896472821049:=Nat
def tw191210617487841781:=Nat
def tw8481150607987366012:=Nat
def tw14293900571170363089:=Nat
def tw11645586434669004839:=Nat
def tw11207619524157576791:=Nat
def tw13947042739795158876:=Nat
def tw13298123557684164894:=Nat
def tw4224181413640348392:=Nat
def tw3285015571982753812:=Nat
def tw2644612912348362461:=Nat
def tw6996644740718876071:=Nat
def tw6505620468667463606:=Nat
def tw11399815016468409936:=Nat
def tw4737244477807922912:=Nat
def tw12114502941952425073:=Nat
def tw16198116728026854251:=Nat
def tw9046022917873192606:=Nat
def tw16206224103769445021:=Nat
def tw3927331082721388290:=Nat
def tw273603462662146581:=Nat
def tw2189312385124396268:=Nat
def tw8233690955280961484:=Nat
def tw378728364313522614:=Nat
def tw12261998634524801735:=Nat
def tw2837634862604915490:=Nat
def tw16592642996013055699:=Nat
def tw17718726999301646599:=Nat
def tw9993874432991640971:=Nat
def tw10980093128523494118:=Nat
def tw3350908590242830520:=Nat
def tw13055527145239948683:=Nat
def tw578752295000441685:=Nat
def tw14045295199560812579:=Nat
def tw10832866430438852571:=Nat
def tw6803088817659834662:=Nat
def tw13191860636861848931:=Nat
def tw17613593065626447646:=Nat
def tw17018320394031673905:=Nat
def tw5546179225624367808:=Nat
def tw10055006307923483203:=Nat
def tw9459668219811278648:=Nat
def tw5470024231716075544:=Nat
def tw14108556760031188141:=Nat
def tw8198809614414341673:=Nat
def tw13790058377180471420:=Nat
def tw1571812436602823632:=Nat
def tw10874599193359294474:=Nat
def tw2355766440475470012:=Nat
def tw3783578975202391153:=Nat
def tw15809672502094817621:=Nat
def tw9566949183681891555:=Nat
def tw3559037699207391912:=Nat
def tw4825597477058028824:=Nat
def tw11065639703556769431:=Nat
def tw13082429089933360507:=Nat
def tw14119906542229592891:=Nat
def tw6280401135077085051:=Nat
def tw5675016021743068370:=Nat
def tw1715488444767463291:=Nat
def tw16709574339832839262:=Nat
def tw4370427621521377212:=Nat
def tw15999713917440946508:=Nat
def tw6892931819950408499:=Nat
def tw7982413731740202550:=Nat
def tw6870935404907167605:=Nat
def tw3469515942509042128:=Nat
def tw11827501835487341661:=Nat
def tw5259000398496052725:=Nat
def tw8422234299307662620:=Nat
def tw12258784873871091212:=Nat
def tw14578783535758162250:=Nat
def tw16368728327904830304:=Nat
def tw15111097653106020684:=Nat
def tw359758056977483255:=Nat
def tw8080640897389253724:=Nat
def tw13849820800441805056:=Nat
def tw2631471055424721108:=Nat
def tw1038311196985323765:=Nat
def tw5791747400138130117:=Nat
def tw18354597468171001656:=Nat
def tw8598930398852690850:=Nat
def tw15349173575371633221:=Nat
def tw7387112116151596166:=Nat
def tw4708983567303846045:=Nat
def tw14675579266404196212:=Nat
def tw6568854740503245304:=Nat
def tw6730965082066410142:=Nat
def tw10102412899721528075:=Nat
def tw11573097601409047448:=Nat
def tw10515349340158825662:=Nat
def tw713973012066433663:=Nat
def tw9901288291523625773:=Nat
def tw11137197143659499352:=Nat
def tw10962426255402620852:=Nat
def tw9687111129522372780:=Nat
def tw12429321965696535888:=Nat
def tw2189450532240064688:=Nat
def tw2662838555404625666:=Nat
def tw13125820559233469617:=Nat
def tw10006474904422410559:=Nat
def tw10493622317953042540:=Nat
def tw5589420548239113766:=Nat
def tw16061469700381377269:=Nat
def tw303922005439340808:=Nat
def tw16967727397600973172:=Nat
def tw12693390940487747817:=Nat
def tw8597541487454032787:=Nat
def tw17938759135197021239:=Nat
def tw13909928627881966267:=Nat
def tw5241918064431658486:=Nat
def tw9136439018451500947:=Nat
def tw55459372805253361:=Nat
def tw7564021887178278427:=Nat
def tw11369184640429163586:=Nat
def tw13534326273949504798:=Nat
def tw12599591879949945115:=Nat
def tw14531027780212282097:=Nat
def tw7590978697121319366:=Nat
def tw16643248189557675525:=Nat
def tw18135176072025069619:=Nat
def tw15454234596952366313:=Nat
def tw1180834232798644488:=Nat
def tw179568816719920101:=Nat
def tw7912814935609806272:=Nat
def tw6448004349935718067:=Nat
def tw11790414807591963971:=Nat
def tw16704303090089605307:=Nat
def tw7597812230053593132:=Nat
def tw2596622950593332281:=Nat
def tw16637607718875728292:=Nat
def tw15885215815059118912:=Nat
def tw6988672543518653193:=Nat
def tw287355249096251848:=Nat
def tw18376367899458717380:=Nat
def tw15142605087671644410:=Nat
def tw8960389786657344157:=Nat
def tw4671679801083601864:=Nat
def tw12780440227291188082:=Nat
def tw9338246810782016474:=Nat
def tw3320118928922993752:=Nat
def tw2999362604946195415:=Nat
def tw16794906100778893886:=Nat
def tw5838559778292494434:=Nat
def tw13259347009046941959:=Nat
def tw513212471452309611:=Nat
def tw1944149975151813157:=Nat
def tw4363550758456700914:=Nat
def tw11507729582447199892:=Nat
def tw17116095688085734457:=Nat
def tw5881261452591671799:=Nat
def tw3559978886208944625:=Nat
def tw9865571796025539199:=Nat
def tw6881991547553907739:=Nat
def tw9043377497882647088:=Nat
def tw6985135566152096852:=Nat
def tw12444190573428551509:=Nat
def tw6826824386421961693:=Nat
def tw1711066470038758010:=Nat
def tw16375862786510432588:=Nat
def tw7895936557546728726:=Nat
def tw11665642578723668330:=Nat
def tw391852223230554554:=Nat
def tw4672718065676892371:=Nat
def tw17344945059579973746:=Nat
def tw1838718170682907179:=Nat
def tw2580252513146038724:=Nat
def tw10735056205760945836:=Nat
def tw14450319776196848989:=Nat
def tw17527672467239719405:=Nat
def tw1798394455903638969:=Nat
def tw15531037029821695058:=Nat
def tw7406239265812127309:=Nat
def tw7592817077779393904:=Nat
def tw13323163692301749159:=Nat
def tw11219105678447249390:=Nat
def tw6672279141016595949:=Nat
def tw12215731727516731017:=Nat
def tw3154901229791758332:=Nat
def tw5359496498215358853:=Nat
def tw5235462925056833536:=Nat
def tw5827628533357346783:=Nat
def tw5153117043762880137:=Nat
def tw12772717819158146105:=Nat
def tw17710607349473179244:=Nat
def tw4178128916529873258:=Nat
def tw4477181773062943779:=Nat
def tw13089764466206566086:=Nat
def tw4617730845744831509:=Nat
def tw13296643892517245497:=Nat
def tw6345852682848290865:=Nat
def tw4603886255274584464:=Nat
def tw6042081704661077513:=Nat
def tw7562883761096361137:=Nat
def tw15206507914054993325:=Nat
def tw2852793988081395123:=Nat
def tw11306406207336741083:=Nat
def tw6176581015544071011:=Nat
def tw4415746128732296517:=Nat
def tw5410817669852656563:=Nat
def tw13024455059608174358:=Nat
def tw13772061991829673988:=Nat
def tw9027552602467274648:=Nat
def tw11064415854051839002:=Nat
def tw17562854722335250047:=Nat
def tw14928741977950274202:=Nat
def tw443845047160019633:=Nat
def tw15585064682789771724:=Nat
def tw11825523060814166679:=Nat
def tw4525612126194646725:=Nat
def tw2917074727905447089:=Nat
def tw4776869348768708319:=Nat
def tw2645104314340060108:=Nat
def tw14220781164465409272:=Nat
def tw11686561270618376938:=Nat
def tw8080328885071191682:=Nat
def tw4131446236590567071:=Nat
def tw11189973682516526242:=Nat
def tw9089931244674965841:=Nat
def tw9385584612647290209:=Nat
def tw6625079825931368666:=Nat
def tw153982728283309782:=Nat
def tw15254397537924423603:=Nat
def tw340106646293099347:=Nat
def tw17718694911483194108:=Nat
def tw5670778750710462087:=Nat
def tw9285406668424615763:=Nat
def tw17411518176864517066:=Nat
def tw13427986843869917973:=Nat
def tw14058094327807951910:=Nat
def tw10930200773809413409:=Nat
def tw18094351883062690364:=Nat
def tw11981704626573535875:=Nat
def tw99801696397933109:=Nat
def tw10973272375414322602:=Nat
def tw8738307593356515959:=Nat
def tw13854135049222349970:=Nat
def tw12514771878913897648:=Nat
def tw2664392982674111079:=Nat
def tw10198455941841138528:=Nat
def tw17650284785032474160:=Nat
def tw7650507135090327547:=Nat
def tw15955230585729761573:=Nat
def tw13622928697637726843:=Nat
def tw11095070578387516157:=Nat
def tw7410144414193709460:=Nat
def tw1854125868362020694:=Nat
def tw11960972165228737211:=Nat
def tw2368758247443653400:=Nat
def tw8402619906085260487:=Nat
def tw17238623221745635446:=Nat
def tw271500070842728996:=Nat
def tw7115152803081075149:=Nat
def tw7203401002891700502:=Nat
def tw7795068730294842361:=Nat
def tw5760407720329385312:=Nat
def tw3835821116401980648:=Nat
def tw1886260425070977913:=Nat
def tw12733213390585219686:=Nat
def tw16888457062193823713:=Nat
def tw7172688919113691111:=Nat
def tw1732758796139790452:=Nat
def tw4200828933575241849:=Nat
def tw15261463387386704929:=Nat
def tw12330358983270064176:=Nat
def tw4970079919505966131:=Nat
def tw1891770263765286063:=Nat
def tw16543249409585245789:=Nat
def tw15828519990671078691:=Nat
def tw11951287807437765568:=Nat
def tw14898593809734757224:=Nat
def tw15426867533183719422:=Nat
def tw18110624872674387563:=Nat
def tw11113164508945274357:=Nat
def tw5986222594557523007:=Nat
def tw6421842371440620757:=Nat
def tw11731427634563586151:=Nat
def tw17351260443427885548:=Nat
def tw17774948774568184804:=Nat
def tw312287865854864788:=Nat
def tw8905580749789182943:=Nat
def tw3798948759834847103:=Nat
def tw3939536818161398689:=Nat
def tw12740241632283357185:=Nat
def tw11488524159218572326:=Nat
def tw10268427356363874691:=Nat
def tw15277767350091997337:=Nat
def tw5493814992174636833:=Nat
def tw11004895492250842586:=Nat
def tw16079738112634322921:=Nat
def tw7809832827813426658:=Nat
def tw7873200499035770506:=Nat
def tw8221333402448998535:=Nat
def tw7532431773569999414:=Nat
def tw8559845905122729952:=Nat
def tw1926484747141333555:=Nat
def tw6413464719611469633:=Nat
def tw6901961902229927627:=Nat
def tw15569551292635329758:=Nat
def tw611352515632966200:=Nat
def tw18276944576220205931:=Nat
def tw7375866988211203904:=Nat
def tw2624959399767327295:=Nat
def tw8021103182989939170:=Nat
def tw3057444420687505577:=Nat
def tw10162526204482414530:=Nat
def tw6473085129645275348:=Nat
def tw5357477246727492330:=Nat
def tw530612647644887280:=Nat
def tw14403964292022766860:=Nat
def tw4184029942967817164:=Nat
def tw8672899352463550591:=Nat
def tw16152424889571955140:=Nat
def tw7302480700300225014:=Nat
def tw5651045483800454173:=Nat
def tw2247523612487007122:=Nat
def tw4587711838697525233:=Nat
def tw8587644843980425782:=Nat
def tw8482041854463227666:=Nat
def tw11606592157765045010:=Nat
def tw15059527706715778619:=Nat
def tw9739461157041574210:=Nat
def tw10116050902387182373:=Nat
def tw9254887094015997623:=Nat
def tw12027786922072394440:=Nat
def tw701837749946209167:=Nat
def tw15776756867818477242:=Nat
def tw16628479287436775042:=Nat
def tw5869092085379207017:=Nat
def tw7123400703978745798:=Nat
def tw17211701651570142378:=Nat
def tw2017140679883821265:=Nat
def tw16148329900201124355:=Nat
def tw12870118052289438702:=Nat
def tw12799151071291674099:=Nat
def tw11441703933375316031:=Nat
def tw2749888861412528296:=Nat
def tw8961559497775307061:=Nat
def tw7935776362044397134:=Nat
def tw2801045059619197669:=Nat
def tw12574725961326263820:=Nat
def tw14024605622993260603:=Nat
def tw11076029335185438862:=Nat
def tw6261690768571749721:=Nat
def tw2573708019922394065:=Nat
def tw17098054827360658892:=Nat
def tw2685009598445940127:=Nat
def tw5921675921151168097:=Nat
def tw327239724116611025:=Nat
def tw3746735595360578517:=Nat
def tw10627355316126253265:=Nat
def tw11089860811870776460:=Nat
def tw12986759609638429752:=Nat
def tw15839370340547755811:=Nat
def tw1229987674282562992:=Nat
def tw12048481846495968141:=Nat
def tw1672049228844254343:=Nat
def tw1068728288072155630:=Nat
def tw277652859120425438:=Nat
def tw7062682861898274270:=Nat
def tw16042646131459297189:=Nat
def tw8069821535242770673:=Nat
def tw4913007087006314743:=Nat
def tw3696225616622891432:=Nat
def tw140669546315367705:=Nat
def tw10533171774308730788:=Nat
def tw12104309190188976861:=Nat
def tw12604906964963416066:=Nat
def tw10769648165102976729:=Nat
def tw13672665491716795011:=Nat
def tw9637328989288608814:=Nat
def tw1619775308434991763:=Nat
def tw1778147883926126690:=Nat
def tw3420002444069537513:=Nat
def tw2900882999409495044:=Nat
def tw2116574248604748815:=Nat
def tw7759284605303464363:=Nat
def tw12222940733425278734:=Nat
def tw15723789429421625841:=Nat
def tw910980405154766488:=Nat
def tw13840733576260440318:=Nat
def tw15492360503799896805:=Nat
def tw11106253832223632620:=Nat
def tw16081897390405586898:=Nat
def tw7087955088159562004:=Nat
def tw9881909864878603696:=Nat
def tw9430349757717785966:=Nat
def tw2029233975049233498:=Nat
def tw17204217559917139527:=Nat
def tw7826566765761230846:=Nat
def tw15754079984601562706:=Nat
def tw5086310708943527549:=Nat
def tw12092166539171237932:=Nat
def tw8967999832645487946:=Nat
def tw10494009469381980192:=Nat
def tw3446217580702106443:=Nat
def tw10390809030371140844:=Nat
def tw17135772192434148338:=Nat
def tw1797130889321626275:=Nat
def tw17590929387503382538:=Nat
def tw10579280325303265327:=Nat
def tw8984162792509574679:=Nat
def tw3430714699152265940:=Nat
def tw10127607390072886235:=Nat
def tw8651574404379528606:=Nat
def tw9583523107312562749:=Nat
def tw13376695856456332190:=Nat
def tw7490821420097231190:=Nat
def tw5469025266506765163:=Nat
def tw897427525822010840:=Nat
def tw1309073566384535193:=Nat
def tw9743250021840041075:=Nat
def tw13461416654905618019:=Nat
def tw8856998329739820374:=Nat
def tw13629317100939035442:=Nat
def tw971518800506624611:=Nat
def tw1559703249515208797:=Nat
def tw10824815138654982395:=Nat
def tw13900665931629415059:=Nat
def tw15954027135093415465:=Nat
def tw1364768630569438149:=Nat
def tw2585765103541432305:=Nat
def tw14573160578177683208:=Nat
def tw11490400379400962549:=Nat
def tw557332920829323450:=Nat
def tw16656281933960885845:=Nat
def tw15213577283256199898:=Nat
def tw3047700282737597437:=Nat
def tw15056672203233895563:=Nat
def tw4273937153712321075:=Nat
def tw3301811390107469579:=Nat
def tw12030964949445558458:=Nat
def tw9440481649147923985:=Nat
def tw2723788506782595463:=Nat
def tw5549016236560625092:=Nat
def tw5366751113812774652:=Nat
def tw1097647778095010176:=Nat
def tw9901580539781805416:=Nat
def tw5231170059011194645:=Nat
def tw8626970005999264407:=Nat
def tw14237952369584504226:=Nat
def tw5328498426774962575:=Nat
def tw4289683685905791657:=Nat
def tw1651993550914459807:=Nat
def tw10753702928015322847:=Nat
def tw4239220776124511960:=Nat
def tw17688656771201981234:=Nat
def tw3577867469797525172:=Nat
def tw14646873437959698748:=Nat
def tw3944431753670208491:=Nat
def tw129715430347109207:=Nat
def tw5953926289059407136:=Nat
def tw16672810616590298318:=Nat
def tw11453284991309173991:=Nat
def tw7935713022739549443:=Nat
def tw6094862839401475124:=Nat
def tw1446469090027133656:=Nat
def tw15905991462669488674:=Nat
def tw7467086531906252268:=Nat
def tw8251805605034004768:=Nat
def tw8407168847507513773:=Nat
def tw12220305740487474550:=Nat
def tw12739732457037230652:=Nat
def tw7145227546640860656:=Nat
def tw9495810400953569225:=Nat
def tw4906174002512329300:=Nat
def tw8042690091727854013:=Nat
def tw18024138757639925528:=Nat
def tw5222545832026005817:=Nat
def tw2011197987261953510:=Nat
def tw10325571226314909043:=Nat
def tw17368342323059488279:=Nat
def tw10016832626515271231:=Nat
def tw13357640392387138726:=Nat
def tw8946168970505097864:=Nat
def tw8020506490843121572:=Nat
def tw3026309306014691407:=Nat
def tw11471467163025423118:=Nat
def tw852264393981109080:=Nat
def tw9798889520414399661:=Nat
def tw728861055843035783:=Nat
def tw13253754355378109803:=Nat
def tw9726362804012181892:=Nat
def tw9800059964128635766:=Nat
def tw12583355149514985500:=Nat
def tw4951118641939351426:=Nat
def tw2834063275520516983:=Nat
def tw862862203460220821:=Nat
def tw16167744756537156176:=Nat
def tw15129845737188020753:=Nat
def tw1777035564863792982:=Nat
def tw10607108878508696160:=Nat
def tw2467276096497757734:=Nat
def tw17378331755492122463:=Nat
def tw9521580291939110209:=Nat
def tw6749146318329081951:=Nat
def tw10797734086401764724:=Nat
def tw1932511118833525038:=Nat
def tw16945660201812198980:=Nat
def tw14113773684381437186:=Nat
def tw15830878428379190010:=Nat
def tw13308702957001178948:=Nat
def tw7031526599559780840:=Nat
def tw6615860539395491912:=Nat
def tw4699432422722329259:=Nat
def tw13856629488395214847:=Nat
def tw13913609432283861214:=Nat
def tw9479531917475264330:=Nat
def tw18396175585960991135:=Nat
def tw5162256358126484:=Nat
def tw4661196259087451355:=Nat
def tw3725438316346824216:=Nat
def tw13879274333676110376:=Nat
def tw487620472315347483:=Nat
def tw2433488751398173588:=Nat
def tw441366883556420649:=Nat
def tw5145943038289238155:=Nat
def tw10435622895828432628:=Nat
def tw3175539493066413639:=Nat
def tw4008897470917244364:=Nat
def tw13058256810648586080:=Nat
def tw3022835109278191362:=Nat
def tw13173000640384021538:=Nat
def tw9319034683174359520:=Nat
def tw13868492394337351073:=Nat
def tw1201109091676425580:=Nat
def tw2747599946995388573:=Nat
def tw8328463935156242768:=Nat
def tw7404519006004425825:=Nat
def tw7702998007605599708:=Nat
def tw4391723287845597275:=Nat
def tw18138995203729529881:=Nat
def tw6935766996566991229:=Nat
def tw1214975561961158129:=Nat
def tw17832834575208015208:=Nat
def tw9556853468206059146:=Nat
def tw14258042688021287355:=Nat
def tw17449623692247767590:=Nat
def tw11701801571102068517:=Nat
def tw11421473781644441418:=Nat
def tw9614131010594179986:=Nat
def tw1932818904706113868:=Nat
def tw16171650949799501085:=Nat
def tw16376358924837710348:=Nat
def tw3715103941377992551:=Nat
def tw15883679421366788770:=Nat
def tw6134694111077333321:=Nat
def tw14831867944532469282:=Nat
def tw2165990055904265775:=Nat
def tw14793582161894219799:=Nat
def tw17205441084137082938:=Nat
def tw8861824045905113047:=Nat
def tw1295102786185414673:=Nat
def tw11883982124347254226:=Nat
def tw3616454261926437603:=Nat
def tw11713821139744239488:=Nat
def tw297572019341231853:=Nat
def tw14001840445084787597:=Nat
def tw3488046899942518602:=Nat
def tw1938767898469853310:=Nat
def tw3362750978865883243:=Nat
def tw4188393187249509782:=Nat
def tw321195582721450135:=Nat
def tw12671560316295974917:=Nat
def tw7160307597286030807:=Nat
def tw17922360880040998353:=Nat
def tw9728638714823089445:=Nat
def tw11388169710809620416:=Nat
def tw7206573519973030588:=Nat
def tw18138000943303089087:=Nat
def tw694049747301865564:=Nat
def tw745067440318557468:=Nat
def tw16712448534163695158:=Nat
def tw14499012292384543721:=Nat
def tw7687916229439580380:=Nat
def tw15165380800567039826:=Nat
def tw10664280482139718165:=Nat
def tw10102465585323027283:=Nat
def tw14577075430512079131:=Nat
def tw8755731999434036112:=Nat
def tw13445348103814725815:=Nat
def tw14993611151944998381:=Nat
def tw5131653704065210146:=Nat
def tw5662182713384126796:=Nat
def tw6548244502163046862:=Nat
def tw4486757508985153274:=Nat
def tw2664964122496868140:=Nat
def tw4922765497292398377:=Nat
def tw3393328280545790910:=Nat
def tw6010735680035573963:=Nat
def tw10451537655520654754:=Nat
def tw2587246247911166836:=Nat
def tw11214705420118522396:=Nat
def tw13458561287381745803:=Nat
def tw14961920627549755159:=Nat
def tw770098428635813904:=Nat
def tw5262076050114106287:=Nat
def tw9387954470752116024:=Nat
def tw9809751957724003882:=Nat
def tw15097149571630167677:=Nat
def tw14281763556075078097:=Nat
def tw13875664434730811621:=Nat
def tw12798919536599657115:=Nat
def tw1418405689127575383:=Nat
def tw13932707801562228157:=Nat
def tw16655978267917216466:=Nat
def tw173212357279254536:=Nat
def tw934240808595360356:=Nat
def tw3630140217641437103:=Nat
def tw13627480870183753750:=Nat
def tw6403079858875782795:=Nat
def tw1937191828366598873:=Nat
def tw8002455957391511351:=Nat
def tw4449349780069881193:=Nat
def tw1940941073243751109:=Nat
def tw10467222028180415478:=Nat
def tw6313486415299369561:=Nat
def tw18352918902520171687:=Nat
def tw17393810525870248064:=Nat
def tw18268176742021346858:=Nat
def tw13683872463757550246:=Nat
def tw4481092778406491134:=Nat
def tw1776844153877178647:=Nat
def tw9268556632649754155:=Nat
def tw11665084333308995141:=Nat
def tw6163551901711758016:=Nat
def tw6503406309299526188:=Nat
def tw12836558893631300438:=Nat
def tw9855345907397656449:=Nat
def tw2086151401646347045:=Nat
def tw14509589468356763887:=Nat
def tw1875647265378409216:=Nat
def tw12650404804312118552:=Nat
def tw5007172194487312378:=Nat
def tw134381866587678059:=Nat
def tw2399474735284248718:=Nat
def tw4188514930621581999:=Nat
def tw156251515777683125:=Nat
def tw10247889389090257279:=Nat
def tw8025593322101952467:=Nat
def tw6153841179935183959:=Nat
def tw13421701886062827317:=Nat
def tw13354500114953116731:=Nat
def tw8498200532111885306:=Nat
def tw16231731550839449626:=Nat
def tw12988485790089185660:=Nat
def tw3572748152314362626:=Nat
def tw10421238112486370633:=Nat
def tw7047012960410238466:=Nat
def tw15212523321341239003:=Nat
def tw15010291710020128251:=Nat
def tw4858617177643254018:=Nat
def tw18005608705049676987:=Nat
def tw3708378935849560854:=Nat
def tw13056345127057711345:=Nat
def tw1129392070659121954:=Nat
def tw11632211449326668982:=Nat
def tw6921375960602198224:=Nat
def tw18239187300157410027:=Nat
def tw3587818882829379650:=Nat
def tw17051391466515191051:=Nat
def tw7050932220594050758:=Nat
def tw4862125275365141076:=Nat
def tw7168250660566328896:=Nat
def tw15154967889090778549:=Nat
def tw9556543957855758019:=Nat
def tw15836116110242250110:=Nat
def tw9100149656968380218:=Nat
def tw9155687508102973228:=Nat
def tw14713033945590083312:=Nat
def tw8646416135166530835:=Nat
def tw10275254122579888636:=Nat
def tw8843319730862488276:=Nat
def tw7568920980576454562:=Nat
def tw4480318984781108578:=Nat
def tw14315552890162056253:=Nat
def tw5782319650353697469:=Nat
def tw1699411165133556561:=Nat
def tw8565049303897013153:=Nat
def tw8768270868433422596:=Nat
def tw6508672601093113940:=Nat
def tw13576374677574476493:=Nat
def tw7924919167125283821:=Nat
def tw3246016192614812729:=Nat
def tw6839452939473682804:=Nat
def tw5370964510954007779:=Nat
def tw15850453787937739343:=Nat
def tw16302523656320510692:=Nat
def tw11435918233356358887:=Nat
def tw6213105465339153775:=Nat
def tw4191340633592148314:=Nat
def tw15779870174228594802:=Nat
def tw1342701408464621494:=Nat
def tw4757728426816365721:=Nat
def tw17224033953395099827:=Nat
def tw9867345014022287526:=Nat
def tw7700665151657536736:=Nat
def tw92335896732590727:=Nat
def tw17725394237015545490:=Nat
def tw18234055001917620707:=Nat
def tw9898280187760118063:=Nat
def tw1904657548371256596:=Nat
def tw998754629959072584:=Nat
def tw11715656283307211196:=Nat
def tw10530241888650150636:=Nat
def tw3730624852722676410:=Nat
def tw7823885974410935846:=Nat
def tw1749237157526954362:=Nat
def tw15274967447653991346:=Nat
def tw7777895619381050115:=Nat
def tw5982536954588170132:=Nat
def tw11729056745708829723:=Nat
def tw8891441926702845110:=Nat
def tw8504864753903029693:=Nat
def tw13686703108693243881:=Nat
def tw14669194666748366402:=Nat
def tw3457055771032826895:=Nat
def tw15872017929281730441:=Nat
def tw16397143804501505899:=Nat
def tw2850176669249371265:=Nat
def tw7586026228714602606:=Nat
def tw10779015275730366667:=Nat
def tw2313993807604711501:=Nat
def tw8071579115460490332:=Nat
def tw14440522598199172701:=Nat
def tw10656361460847741580:=Nat
def tw17223059699662640093:=Nat
def tw2340288150655761477:=Nat
def tw11357858326573546701:=Nat
def tw8233266464287941236:=Nat
def tw17760380046890544008:=Nat
def tw9823444120774751869:=Nat
def tw11396362425813391537:=Nat
def tw17505278305344328769:=Nat
def tw1662274563535386622:=Nat
def tw15313483183719422604:=Nat
def tw6390936435583229860:=Nat
def tw8294793129304830882:=Nat
def tw16328902792599526844:=Nat
def tw5712964628868525703:=Nat
def tw14827293495021021749:=Nat
def tw13209294293029862923:=Nat
def tw5861593929178729595:=Nat
def tw12560312563484778303:=Nat
def tw4857767590965567149:=Nat
def tw11545794955000993508:=Nat
def tw14658464267954283978:=Nat
def tw13412516751948639049:=Nat
def tw9033114060547432747:=Nat
def tw12760348148609740601:=Nat
def tw3301640250488363162:=Nat
def tw4403839973538927147:=Nat
def tw1071941417773592384:=Nat
def tw16793485576444570929:=Nat
def tw8805946636768698628:=Nat
def tw1566644847722106070:=Nat
def tw14688920059312024699:=Nat
def tw9557226363100038802:=Nat
def tw7794286574059797070:=Nat
def tw11184069453536003078:=Nat
def tw13511781957662766967:=Nat
def tw3547587558533496666:=Nat
def tw16579311140982673930:=Nat
def tw16903047493405502145:=Nat
def tw3504931355846192298:=Nat
def tw2259990471060140183:=Nat
def tw8278128869259178561:=Nat
def tw14757135034984355992:=Nat
def tw11958658040308207795:=Nat
def tw11944473580318517774:=Nat
def tw11727138657555084151:=Nat
def tw7346373156465149082:=Nat
def tw941420941418187238:=Nat
def tw13784916016902391952:=Nat
def tw2405756006248515245:=Nat
def tw2464831404967276751:=Nat
def tw12704308165088441864:=Nat
def tw17218401482084636176:=Nat
def tw3025368760230584098:=Nat
def tw6139734726010435136:=Nat
def tw4623435967137599555:=Nat
def tw3215883262442447152:=Nat
def tw4889777683403825073:=Nat
def tw11818535166753268888:=Nat
def tw12075697839688647216:=Nat
def tw9773811375031859393:=Nat
def tw10090507030473560867:=Nat
def tw1746541530647987859:=Nat
def tw4623214231325840884:=Nat
def tw17402059470822204797:=Nat
def tw6627070135925825700:=Nat
def tw6736920958570761608:=Nat
def tw11826359744443105779:=Nat
def tw9048382824362306357:=Nat
def tw5445933186255653626:=Nat
def tw14138768977522328258:=Nat
def tw15896499108677989245:=Nat
def tw10097426207570805046:=Nat
def tw7379552057383709388:=Nat
def tw12036869105295010162:=Nat
def tw3993690349349059119:=Nat
def tw6628169203589870740:=Nat
def tw1973579428086025339:=Nat
def tw1975981712476860344:=Nat
def tw9814716301093334908:=Nat
def tw3033552232005932341:=Nat
def tw13026382434622515431:=Nat
def tw14430621528335622708:=Nat
def tw13858369706846739529:=Nat
def tw16383281590391943125:=Nat
def tw12352494469355296649:=Nat
def tw8800689693131019842:=Nat
def tw2368064735171287178:=Nat
def tw5799953765245276975:=Nat
def tw14221967040413840178:=Nat
def tw12751047041020680058:=Nat
def tw15474754945900670533:=Nat
def tw14960002556503198049:=Nat
def tw15949482539123210871:=Nat
def tw9696097785794523073:=Nat
def tw11082531034273081408:=Nat
def tw14235593405881398922:=Nat
def tw18051100439253834460:=Nat
def tw16416115762815174949:=Nat
def tw15300010551526225272:=Nat
def tw8458642940150866471:=Nat
def tw15300602800709086702:=Nat
def tw16248121289998475229:=Nat
def tw8762972306411384076:=Nat
def tw17598408985763337720:=Nat
def tw15174169116969230736:=Nat
def tw12198226962000873479:=Nat
def tw12700228840602068573:=Nat
def tw8836813470692572401:=Nat
def tw13734233885286277079:=Nat
def tw18212610283753100649:=Nat
def tw11534466790236608955:=Nat
def tw5857678994412166442:=Nat
def tw6218019063700369889:=Nat
def tw15797447453956123781:=Nat
def tw14564194932928125256:=Nat
def tw13874736631706194411:=Nat
def tw17558848482218807630:=Nat
def tw4980638825590138712:=Nat
def tw17636465462189150501:=Nat
def tw9687955478767633974:=Nat
def tw9693385537127110732:=Nat
def tw15726064814936722689:=Nat
def tw12547004236446193843:=Nat
def tw1657197970342151315:=Nat
def tw1573219632246290622:=Nat
def tw3282535221997265339:=Nat
def tw5304586992508345108:=Nat
def tw8350671059853432610:=Nat
def tw15902114569317427887:=Nat
def tw2474443229002657150:=Nat
def tw17818278232065953633:=Nat
def tw10088557485053776965:=Nat
def tw17346253899690036289:=Nat
def tw15379629255919405326:=Nat
def tw9562553829060301073:=Nat
def tw14552072748638573129:=Nat
def tw7172642186723037616:=Nat
def tw8178107104041611911:=Nat
def tw2572610201755688939:=Nat
def tw8819860325471034611:=Nat
def tw10379089151167261159:=Nat
def tw9805439081227499201:=Nat
def tw11117978782282403714:=Nat
def tw17008806618840351587:=Nat
def tw9243270387441264546:=Nat
def tw14860319616621999422:=Nat
def tw5732988921560845226:=Nat
def tw10572674212494525895:=Nat
def tw5175867396939475049:=Nat
def tw9353403534333188974:=Nat
def tw15158222624028541161:=Nat
def tw15372052064511044919:=Nat
def tw8471001009421179453:=Nat
def tw15104402570135578874:=Nat
def tw2279598662662921191:=Nat
def tw3655785674026113385:=Nat
def tw7573547191131772840:=Nat
def tw5267313915188850996:=Nat
def tw5061016190890480927:=Nat
def tw15181861050698996930:=Nat
def tw1816008659218832695:=Nat
def tw4358604632530421073:=Nat
def tw12150150887236271151:=Nat
def tw13808811035606310565:=Nat
def tw14454825079736036129:=Nat
def tw3250450503487757630:=Nat
def tw1740229516342089134:=Nat
def tw5805009825988599945:=Nat
def tw14369376709009697045:=Nat
def tw6493968055609980714:=Nat
def tw10979096950832513678:=Nat
def tw1841947904062913082:=Nat
def tw15822424306684695227:=Nat
def tw6545129398137486423:=Nat
def tw12627364377454312396:=Nat
def tw2094659339377629245:=Nat
def tw7772958109340417899:=Nat
def tw4487134827307864100:=Nat
def tw14933870849558701387:=Nat
def tw3265394632848329516:=Nat
def tw13195652083428236640:=Nat
def tw12825030926770486605:=Nat
def tw16191197861848445744:=Nat
def tw6678345673115323236:=Nat
def tw8630628229253388108:=Nat
def tw8947804345369200832:=Nat
def tw15744164286389386181:=Nat
def tw11806313638496552518:=Nat
def tw7882358753359100193:=Nat
def tw5187967382542790654:=Nat
def tw17611875038404452796:=Nat
def tw821386170550302829:=Nat
def tw7482410174064561436:=Nat
def tw2435916886534040874:=Nat
def tw8499584535559669495:=Nat
def tw918372985570742743:=Nat
def tw17627724283682934078:=Nat
def tw13584350314111309763:=Nat
def tw6518323141506803484:=Nat
def tw2328898505118116715:=Nat
def tw8992034459190540351:=Nat
def tw1506040965605226212:=Nat
def tw2035250921416002307:=Nat
def tw13425019644165761469:=Nat
def tw7466691772638530612:=Nat
def tw2761277714978672629:=Nat
def tw1581889821949350404:=Nat
def tw9781293027343809415:=Nat
def tw16833790324016669761:=Nat
def tw10129243664122297404:=Nat
def tw17909653284840615232:=Nat
def tw299610720445885111:=Nat
def tw10948337918838943735:=Nat
def tw4007277983201617940:=Nat
def tw12402825970476534400:=Nat
def tw11464997422040552388:=Nat
def tw3622427730284390434:=Nat
def tw1175129993004685474:=Nat
def tw2614748775519821401:=Nat
def tw5686571402066131091:=Nat
def tw13801149614383419136:=Nat
def tw14939433698817115633:=Nat
def tw10761307170564451895:=Nat
def tw7224070222301466628:=Nat
def tw16255989868356782717:=Nat
def tw17808178969073671245:=Nat
def tw11906681552980715256:=Nat
def tw5687551515265358030:=Nat
def tw10878212550027187375:=Nat
def tw1034911554072379798:=Nat
def tw11929244638554091661:=Nat
def tw10435767766302948047:=Nat
def tw16364952779736946467:=Nat
def tw12408951727373498267:=Nat
def tw8442745661461246551:=Nat
def tw15473948227594848387:=Nat
def tw6315228092492735493:=Nat
def tw14501766036531843690:=Nat
def tw2145377645415223254:=Nat
def tw8550603589888546745:=Nat
end PySem.W.Fast
set_option maxRecDepth 100000 in
set_option maxHeartbeats 0 in
theorem PySem.Challenge.cw_whistlebook_k21_season_made_holds : PySem.Challenge.rw_whistlebook_k21_season_made.Holds := by
 w_on;o_law;k_head;(case hw=>w_witness2)
 k_fill
 refine K21.walk (l:=PySem.Challenge.rw_whistlebook_k21_season_made) rfl rfl (fun w h Y=>PySem.W.kIn_of Y) ?F
 case F =>
  intro w mg fa h KX G hmg
  refine' K21.zbg KX G hmg ?zhf ?zf3 ?zfl ?ze2 ?ze9 ?ze8 ?zg8 ?zgt ?zfw ?zgo ?zf5 ?zfu ?zhg ?zg5 ?zeu ?zfi ?zhu ?zhy ?ziv ?zhs ?zia ?zio ?zif ?zh5 ?zib ?zin ?zfd ?ze3 ?zir ?zie ?zij ?ziq ?zis ?zh7 ?zet ?ziw ?zi9 ?zi2 ?zja ?zi1 ?zjb ?zfm ?zh0 ?zfv ?zhb ?zh3 ?zh4 ?zh9 ?zh8 ?zik ?zim ?zf8 ?zid ?zex ?ze4 ?zfk ?zgx ?zem ?zer ?zgq ?zg6 ?zfq ?zho ?zgg ?zfj ?zfo ?zgz ?zii ?zge ?zhm ?zhd ?zgs ?zfc ?zje ?zfz ?zh1 ?zfr ?zfy ?zgn ?zjj ?zdv ?zix ?zi0 ?zfb ?zg0 ?zf7 ?ga ?gk ?at_ ?mx ?mo ?mB ?kit ?zjq ?gt ?tk ?zfe ?ze7 ?ze5 ?zes ?zew ?ze1 ?zfh ?zfa ?b0 ?l0 ?c0 ?k0 ?b1 ?l1 ?c1 ?k1 ?b2 ?l2 ?c2 ?k2 ?b3 ?i3 ?l3 ?c3 ?k3 ?b4 ?i4 ?l4 ?c4 ?k4 ?b5 ?i5 ?l5 ?c5 ?k5 ?b6 ?i6 ?l6 ?c6 ?k6 ?b7 ?i7 ?l7 ?c7 ?k7 ?b8 ?l8 ?c8 ?k8 ?b9 ?l9 ?c9 ?k9 ?b10 ?l10 ?c10 ?k10 ?b11 ?l11 ?c11 ?k11 ?b12 ?l12 ?c12 ?k12 ?b13 ?i13 ?l13 ?c13 ?k13 ?b14 ?i14 ?l14 ?c14 ?k14 ?b15 ?i15 ?l15 ?c15 ?k15 ?b16 ?i16 ?l16 ?c16 ?k16 ?b17 ?i17 ?l17 ?c17 ?k17 ?b18 ?i18 ?l18 ?c18 ?k18 ?b19 ?i19 ?l19 ?c19 ?k19 ?b20 ?i20 ?l20 ?c20 ?k20 ?b21 ?l21 ?c21 ?k21 ?b22 ?l22 ?c22 ?k22 ?b23 ?l23 ?c23 ?k23 ?b24 ?l24 ?c24 ?k24 ?b25 ?l25 ?c25 ?k25 ?b26 ?l26 ?c26 ?k26 ?b27 ?l27 ?c27 ?k27 ?b28 ?l28 ?c28 ?k28 ?b29 ?i29 ?l29 ?c29 ?k29 ?b30 ?i30 ?l30 ?c30 ?k30 ?b31 ?i31 ?l31 ?c31 ?k31 ?b32 ?i32 ?l32 ?c32 ?k32 ?b33 ?i33 ?l33 ?c33 ?k33 ?b34 ?i34 ?l34 ?c34 ?k34 ?b35 ?i35 ?l35 ?c35 ?k35 ?b36 ?i36 ?l36 ?c36 ?k36 ?b37 ?l37 ?c37 ?k37 ?b38 ?i38 ?l38 ?c38 ?k38 ?b39 ?i39 ?l39 ?c39 ?k39 ?b40 ?i40 ?l40 ?c40 ?k40 ?b41 ?i41 ?l41 ?c41 ?k41 ?b42 ?i42 ?l42 ?c42 ?k42 ?b43 ?i43 ?l43 ?c43 ?k43 ?b44 ?i44 ?l44 ?c44 ?k44 ?b45 ?i45 ?l45 ?c45 ?k45 ?b46 ?i46 ?l46 ?c46 ?k46 ?b47 ?i47 ?l47 ?c47 ?k47 ?b48 ?i48 ?l48 ?c48 ?k48 ?b49 ?i49 ?l49 ?c49 ?k49 ?b50 ?i50 ?l50 ?c50 ?k50 ?b51 ?i51 ?l51 ?c51 ?k51 ?b52 ?i52 ?l52 ?c52 ?k52 ?b53 ?i53 ?l53 ?c53 ?k53 ?b54 ?i54 ?l54 ?c54 ?k54 ?b55 ?i55 ?l55 ?c55 ?k55 ?b56 ?l56 ?c56 ?k56 ?b57 ?l57 ?c57 ?k57 ?b58 ?l58 ?c58 ?k58 ?b59 ?l59 ?c59 ?k59 ?b60 ?l60 ?c60 ?k60 ?b61 ?l61 ?c61 ?k61 ?b62 ?l62 ?c62 ?k62 ?b63 ?l63 ?c63 ?k63 ?b64 ?l64 ?c64 ?k64 ?b65 ?l65 ?c65 ?k65
  (case zhf|zf3|zfl|ze2|ze9|ze8|zg8|zgt|zfw|zgo|zf5|zfu|zhg|zg5|zeu|zfi|zhu|zhy|ziv|zhs|zia|zio|zif|zh5|zib|zin|zfd|ze3|zir|zie|zij|ziq|zis|zh7|zet|ziw|zi9|zi2|zja|zi1|zjb|zfm|zh0|zfv|zhb|zh3|zh4|zh9|zh8|zik|zim|zf8|zid|zex|ze4|zfk|zgx|zem|zer|zje|zfz|zh1|zfr|zfy|zgn|zjj|zdv|zix|zi0|zfb|zg0|zf7|gt|tk|zfe|ze7|ze5|zes|zew|ze1|zfh|zfa|b0|l0|c0|k0|b1|l1|c1|k1|b2|l2|c2|k2|b3|i3|l3|c3|k3|b4|i4|l4|c4|k4|b5|i5|l5|c5|k5|b6|i6|l6|c6|k6|b7|i7|l7|c7|k7|b8|l8|c8|k8|b9|l9|c9|k9|b10|l10|c10|k10|b11|l11|c11|k11|b12|l12|c12|k12|b13|i13|l13|c13|k13|b14|i14|l14|c14|k14|b15|i15|l15|c15|k15|b16|i16|l16|c16|k16|b17|i17|l17|c17|k17|b18|i18|l18|c18|k18|b19|i19|l19|c19|k19|b20|i20|l20|c20|k20|b21|l21|c21|k21|b22|l22|c22|k22|b23|l23|c23|k23|b24|l24|c24|k24|b25|l25|c25|k25|b26|l26|c26|k26|b27|l27|c27|k27|b28|l28|c28|k28|b29|i29|l29|c29|k29|b30|i30|l30|c30|k30|b31|i31|l31|c31|k31|b32|i32|l32|c32|k32|b33|i33|l33|c33|k33|b34|i34|l34|c34|k34|b35|i35|l35|c35|k35|b36|i36|l36|c36|k36|b37|l37|c37|k37|b38|i38|l38|c38|k38|b39|i39|l39|c39|k39|b40|i40|l40|c40|k40|b41|i41|l41|c41|k41|b42|i42|l42|c42|k42|b43|i43|l43|c43|k43|b44|i44|l44|c44|k44|b45|i45|l45|c45|k45|b46|i46|l46|c46|k46|b47|i47|l47|c47|k47|b48|i48|l48|c48|k48|b49|i49|l49|c49|k49|b50|i50|l50|c50|k50|b51|i51|l51|c51|k51|b52|i52|l52|c52|k52|b53|i53|l53|c53|k53|b54|i54|l54|c54|k54|b55|i55|l55|c55|k55|b56|l56|c56|k56|b57|l57|c57|k57|b58|l58|c58|k58|b59|l59|c59|k59|b60|l60|c60|k60|b61|l61|c61|k61|b62|l62|c62|k62|b63|l63|c63|k63|b64|l64|c64|k64|b65|l65|c65|k65=>(show _=_;k_is))
  (case zgq|zg6|zfq|zho|zgg|zfj|zfo|zgz|zii|zge|zhm|zhd|zgs|zfc=>k_exc)
  (case ga|gk|at_|mx|mo|mB=>(intro r h;cases r<;>first|exact absurd rfl h|(dsimp only[_root_.G.Ref.cls];k_is)))
  (case kit=>(intro r t h;cases r<;>first|exact absurd rfl h|(cases t<;>(dsimp only[_root_.G.Ref.cls];first|(show _=some true;kit_is)|(show _=some false;kit_is)))))
  (case zjq=>(intro r h;cases r<;>first|exact absurd rfl h|(dsimp only[_root_.G.Ref.cls];kit_is)))
#print axioms PySem.Challenge.cw_whistlebook_k21_season_made_holds
